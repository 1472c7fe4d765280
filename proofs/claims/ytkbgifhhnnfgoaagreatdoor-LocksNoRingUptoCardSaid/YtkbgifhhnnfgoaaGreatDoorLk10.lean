/- Locks: inWay, blocks. -/
import Derived.Test.YtkbgifhhnnfgoaaGreatDoorLk9
namespace Go.Proofs.YtkbgifhhnnfgoaaGreatDoor
open Go.RowKit Go.Shelf
attribute [local go_sem] Oper.semAt_some

abbrev wayW (w : World) (p : Pl) (qt qm : Int) (ah : Nat) : World := ((w.alloc (.cells #[ptr p.blk] 76)).alloc (.cells #[I qt, I qm] 74)).alloc (.cells #[I ah] 3)
set_option maxRecDepth 100000 in
set_option maxHeartbeats 1000000 in
theorem inway_any (p : Pl) (qt qm : Int) (ah : Nat) (w : World) : Calls Tryz.prog 82 #[ptr p.blk, .agg #[I qt, I qm], I ah] w fun e w' => e = .returned (.func (.func 112) #[] #[ptr w.heap.size, ptr (w.heap.size + 1), ptr (w.heap.size + 2)]) ∧ w' = wayW w p qt qm ah := by
  go_enter Tryz.func82, Tryz.ntmps82
  go_wp2
  go_ret
  exact ⟨rfl, rfl⟩
theorem way_of {w : World} {p : Pl} (qt qm : Int) (ah : Nat) (ht : Tb w) (hb : Blk w p.blk 105 [.map (some p.hb), p.q]) (hm : Mp (fun n : Int => I n) 3 w p.hb (fun x => nz (p.hf x))) (hq : QSl w p.q p.qs) : Way (wayW w p qt qm ah) w.heap.size (w.heap.size + 1) (w.heap.size + 2) p qt qm ah := by
  have g1 := (G.refl w).alloc (.cells #[ptr p.blk] 76)
  have g2 := g1.alloc (.cells #[I qt, I qm] 74)
  have g3 := g2.alloc (.cells #[I ah] 3)
  have k1 := (Blk.new w [ptr p.blk] 76).G (((G.refl _).alloc (.cells #[I qt, I qm] 74)).alloc (.cells #[I ah] 3))
  have k2 := (Blk.new (w.alloc (.cells #[ptr p.blk] 76)) [I qt, I qm] 74).G ((G.refl _).alloc (.cells #[I ah] 3))
  have k3 := Blk.new ((w.alloc (.cells #[ptr p.blk] 76)).alloc (.cells #[I qt, I qm] 74)) [I ah] 3
  simp only [World.size_alloc] at k2 k3
  exact ⟨ht.G g3, k1, k2, k3, hb.G g3, hm.G g3, hq.keep (fun b e => g3.block b (by
    rcases hq with ⟨e', _⟩ | ⟨g, cap, rest, e', hg, _⟩
    · rw [e'] at e; simp [Value.ownBlock] at e
    · rw [e'] at e; simp [Value.ownBlock] at e; subst e; exact hg.lt))⟩
/-- Somebody stands in the way. -/
noncomputable def blkB (p : Pl) (qt qm : Int) (ah : Nat) : Bool := @decide (∃ x, inW p.hf p.qs qt qm ah x) (Classical.propDecidable _)
theorem blkB_yes {p : Pl} {qt qm : Int} {ah : Nat} (h : ∃ x, inW p.hf p.qs qt qm ah x) : blkB p qt qm ah = true := @decide_eq_true _ (Classical.propDecidable _) h
theorem blkB_no {p : Pl} {qt qm : Int} {ah : Nat} (h : ¬ ∃ x, inW p.hf p.qs qt qm ah x) : blkB p qt qm ah = false := @decide_eq_false _ (Classical.propDecidable _) h
theorem seq_any (n b1 b2 b3 ah : Nat) (p : Pl) (qt qm : Int) (L : List Int) (w : World) (hn : 1 ≤ n) (hah : ah ≤ p.qs.length) (hL : ∀ x, p.hf x ≠ 0 → x ∈ L) (hR : ∀ x, p.hf x ≠ 0 → R64 x) (hlq : p.qs.length ≤ maxLen) (hw : Way w b1 b2 b3 p qt qm ah) :
    SeqStopsK Fence.wide n Tryz.prog 112 #[ptr b1, ptr b2, ptr b3] (fun x : Int => #[I x]) (WayK (wayB b1 b2 b3 p)) (fun xs => (∀ x ∈ xs, inW p.hf p.qs qt qm ah x) ∧ ∀ x, inW p.hf p.qs qt qm ah x → x ∈ xs) (fun pre => pre ≠ [] ∧ ∀ x ∈ pre, inW p.hf p.qs qt qm ah x) (L.length + p.qs.length) w :=
  fun l J Jx W hW hJ _ hY h0 => inway1_in n l b1 b2 b3 ah p qt qm L J Jx hn hah hL hR hlq (fun pre x W h1 h2 _ => hY pre x W h1 h2) W hJ (hw.G hW) h0
/-- The same, each told as one that stands in the way. -/
theorem seq_sub (n b1 b2 b3 ah : Nat) (p : Pl) (qt qm : Int) (L : List Int) (w : World) (hn : 1 ≤ n) (hah : ah ≤ p.qs.length) (hL : ∀ x, p.hf x ≠ 0 → x ∈ L) (hR : ∀ x, p.hf x ≠ 0 → R64 x) (hlq : p.qs.length ≤ maxLen) (hw : Way w b1 b2 b3 p qt qm ah) :
    SeqStopsK Fence.wide n Tryz.prog 112 #[ptr b1, ptr b2, ptr b3] (fun x : {x : Int // inW p.hf p.qs qt qm ah x} => #[I x.1]) (WayK (wayB b1 b2 b3 p)) (fun xs => ∀ x, x ∈ xs) (fun pre => pre ≠ []) (L.length + p.qs.length) w := fun l J Jx W hW hJ _ hY h0 => by
  refine (inway1_in n l b1 b2 b3 ah p qt qm L (fun pre W => ∃ pre' : List {x : Int // inW p.hf p.qs qt qm ah x}, pre'.map (·.1) = pre ∧ J pre' W) (fun pre W => ∃ pre' : List {x : Int // inW p.hf p.qs qt qm ah x}, pre'.map (·.1) = pre ∧ Jx pre' W) hn hah hL hR hlq ?_ W ?_ (hw.G hW) ⟨[], rfl, h0⟩).mono ?_
  · rintro pre x W1 ⟨pre', rfl, h1⟩ h2 h3
    obtain ⟨fn, tmps, assign, body, hy, hR⟩ := hY pre' ⟨x, h3⟩ W1 h1 (by simpa using h2)
    refine ⟨fn, tmps, assign, body, hy, hR.mono ?_⟩
    rintro e W' (⟨e1, e2, e3⟩ | ⟨e1, e2⟩)
    · exact .inl ⟨e1, ⟨_, by simp, e2⟩, e3⟩
    · exact .inr ⟨e1, ⟨_, by simp, e2⟩⟩
  · rintro s A B row ⟨pre', e, h⟩ hg hr
    exact ⟨pre', e, hJ pre' A B row h hg hr⟩
  · rintro e W' ⟨hv, ⟨xs, ⟨hx1, hx2⟩, xs', rfl, h⟩ | ⟨pre, ⟨hp1, hp2⟩, pre', rfl, h⟩⟩
    · refine ⟨hv, .inl ⟨xs', fun x => ?_, h⟩⟩
      obtain ⟨y, hy, e⟩ := List.mem_map.1 (hx2 x.1 x.2)
      have : y = x := Subtype.ext e
      rw [← this]
      exact hy
    · exact ⟨hv, .inr ⟨pre', fun e => hp1 (by rw [e]; rfl), h⟩⟩
set_option maxRecDepth 100000 in
set_option maxHeartbeats 1000000 in
theorem blocks_any (p : Pl) (qt qm : Int) (ah : Nat) (L : List Int) (w : World) (hah : ah ≤ p.qs.length) (hL : ∀ x, p.hf x ≠ 0 → x ∈ L) (hR : ∀ x, p.hf x ≠ 0 → R64 x) (hlq : p.qs.length ≤ maxLen)
    (ht : Tb w) (hb : Blk w p.blk 105 [.map (some p.hb), p.q]) (hm : Mp (fun n : Int => I n) 3 w p.hb (fun x => nz (p.hf x))) (hq : QSl w p.q p.qs) : Calls Tryz.prog 53 #[ptr p.blk, .agg #[I qt, I qm], I ah] w fun e w' => e = .returned (.bool (blkB p qt qm ah)) ∧ G w w' := by
  refine (callsIn_wide (n := 5)).1 ?_
  have hf1 : Fence.wide.fn 82 := trivial
  have KI := hide (inway_any p qt qm ah ((w.alloc (.cells #[I qt, I qm] 74)).alloc (.cells #[.bool false] 4)))
  refine callsIn_of_wp_marks Tryz.func53 rfl trivial ?_ rfl
  simp only [Tryz.ntmps53, List.size_toArray, List.length_cons, List.length_nil, Nat.reduceAdd, Nat.reduceSub, Array.replicate_succ, Array.replicate_zero, List.push_toArray, List.append_toArray, List.nil_append, List.cons_append]
  gi_wp2_with (gi_at_call 82; refine (callsIn_wide.2 KI.out).mono ?_; rintro e w' ⟨rfl, rfl⟩)
  have g0 : G w ((w.alloc (.cells #[I qt, I qm] 74)).alloc (.cells #[.bool false] 4)) := ((G.refl w).alloc _).alloc _
  have gq : ∀ b, p.q.ownBlock = some b → b < w.heap.size := fun b e => by
    rcases hq with ⟨e', _⟩ | ⟨g, cap, rest, e', hg, _⟩
    · rw [e'] at e; simp [Value.ownBlock] at e
    · rw [e'] at e; simp [Value.ownBlock] at e; subst e; exact hg.lt
  have hway := way_of qt qm ah (ht.G g0) (hb.G g0) (hm.G g0) (hq.keep (fun b e => g0.block b (gq b e)))
  have c0 := Blk.new (w.alloc (.cells #[I qt, I qm] 74)) [.bool false] 4
  have c1 := And.intro (c0.cell 0) (c0.frozen 0)
  have gw : G ((w.alloc (.cells #[I qt, I qm] 74)).alloc (.cells #[.bool false] 4)) (wayW ((w.alloc (.cells #[I qt, I qm] 74)).alloc (.cells #[.bool false] 4)) p qt qm ah) := (((G.refl _).alloc _).alloc _).alloc _
  have c2 : (wayW ((w.alloc (.cells #[I qt, I qm] 74)).alloc (.cells #[.bool false] 4)) p qt qm ah).cell? ⟨w.heap.size + 1, 0, none⟩ = some (.bool false) ∧ (wayW ((w.alloc (.cells #[I qt, I qm] 74)).alloc (.cells #[.bool false] 4)) p qt qm ah).frozen? ⟨w.heap.size + 1, 0, none⟩ = false := by
    simp only [World.size_alloc] at c1
    exact ⟨(gw.cell (by simp)).trans c1.1, (gw.frozen (by simp)).trans c1.2⟩
  have hB0 : Below w.heap.size w (wayW ((w.alloc (.cells #[I qt, I qm] 74)).alloc (.cells #[.bool false] 4)) p qt qm ah) := g0.trans gw
  have hs0 : (wayW ((w.alloc (.cells #[I qt, I qm] 74)).alloc (.cells #[.bool false] 4)) p qt qm ah).heap.size = w.heap.size + 5 := by simp
  simp only [World.size_alloc] at hway
  generalize wayW ((w.alloc (.cells #[I qt, I qm] 74)).alloc (.cells #[.bool false] 4)) p qt qm ah = W0 at hway c2 hB0 hs0 ⊢
  refine wpIn_rangeFunc_ownF rfl (by omega) (gf := 112) (lb := #[ptr (w.heap.size + 1 + 1), ptr (w.heap.size + 1 + 1 + 1), ptr (w.heap.size + 1 + 1 + 2)]) rfl trivial (enters_of Tryz.func112 (by kernel_rfl) rfl)
    (seq_any 4 _ _ _ ah p qt qm L W0 (by omega) hah hL hR hlq hway) WayK.trans (WayK.put (fun b hb => hway.lt hb)) (Below.refl _ _) (fun _ => rfl)
    (fun pre W => (pre = [] ∧ W.cell? ⟨w.heap.size + 1, 0, none⟩ = some (.bool false) ∧ W.frozen? ⟨w.heap.size + 1, 0, none⟩ = false) ∧ Below w.heap.size w W)
    (fun c pre W => (c = .ret ∧ W.cell? ⟨w.heap.size + 1, 0, none⟩ = some (.bool true)) ∧ Below w.heap.size w W)
    (OwnFrom.and (Own.from (fun s A B row hs hg hr => ⟨hs.1, cell_kept hs.2.1 hg hr, (frozen_kept hs.2.1 hg hr).trans hs.2.2⟩) _) (ownFrom_below (Nat.le_refl _) (by omega)))
    (fun c => OwnFrom.and (Own.from (fun s A B row hs hg hr => ⟨hs.1, cell_kept hs.2 hg hr⟩) _) (ownFrom_below (Nat.le_refl _) (by omega)))
    ⟨⟨rfl, c2.1, c2.2⟩, hB0⟩
    (fun x => { tmps := #[ptr p.blk, .agg #[I qt, I qm], I ah, undef, ptr w.heap.size, undef, ptr (w.heap.size + 1), ptr p.blk, .agg #[I qt, I qm], I ah, .func (.func 112) #[] #[ptr (w.heap.size + 1 + 1), ptr (w.heap.size + 1 + 1 + 1), ptr (w.heap.size + 1 + 1 + 2)], I x], defers := [] }) ?assign ?body ?done ?stop
  case assign =>
    intro l x W K hK
    gi_wp2
    simp only [List.zip_toArray, List.zip_cons_cons, List.zip_nil_right, List.size_toArray, List.length_cons, List.length_nil]
    exact hK
  case body =>
    rintro l pre x W ⟨⟨hp, hcr, hfr⟩, hB⟩ _
    gi_wp2
    exact ⟨KeepsOthers.setCell _ _ _, ⟨rfl, World.cell?_setCell_same' _ _ _ (by rw [hcr]; rfl)⟩, hB.setCell (p := ⟨w.heap.size + 1, 0, none⟩) (by simp) _⟩
  case done =>
    rintro D ys W hD hS ⟨⟨rfl, hcr, hfr⟩, hB⟩ hK
    gi_wp2
    have hK' := (KeepsOthers.setCell W ⟨w.heap.size + 1, 0, none⟩ (.bool false)).same D _ hK rfl
    refine ⟨by simp, .inl ⟨_, _, rfl, run_takeDeferred hK', ?_⟩⟩
    have hc5 := cell_kept (World.cell?_setCell_same' W ⟨w.heap.size + 1, 0, none⟩ (.bool false) (by rw [hcr]; rfl)) (grownBy_putObj' _ D (.deferred none)) (fun r e => by cases e; exact ⟨_, hK', rfl⟩)
    refine ⟨.bool false, ?_, by rw [blkB_no (fun ⟨x, hx⟩ => by have := hS.2 x hx; cases this)], (hB.setCell (p := ⟨w.heap.size + 1, 0, none⟩) (by simp) _).trans (belowK_b (w := w) (Nat.le_refl _) _ D _ _ (by omega) hK' rfl rfl)⟩
    simp [results, Tryz.f53, go_sem, hc5]
  case stop =>
    rintro D c pre W hD hpre ⟨⟨rfl, hcr⟩, hB⟩ hK
    gi_wp2
    refine ⟨by simp, .inl ⟨_, _, rfl, run_takeDeferred hK, ?_⟩⟩
    have hc5 := cell_kept hcr (grownBy_putObj' _ D (.deferred none)) (fun r e => by cases e; exact ⟨_, hK, rfl⟩)
    have hex : ∃ x, inW p.hf p.qs qt qm ah x := by
      cases hpp : pre with
      | nil => exact absurd hpp hpre.1
      | cons x r => exact ⟨x, hpre.2 x (by rw [hpp]; simp)⟩
    refine ⟨.bool true, ?_, by rw [blkB_yes hex], hB.trans (belowK_b (w := w) (Nat.le_refl _) W D _ _ (by omega) hK rfl rfl)⟩
    simp [results, Tryz.f53, go_sem, hc5]
end Go.Proofs.YtkbgifhhnnfgoaaGreatDoor
