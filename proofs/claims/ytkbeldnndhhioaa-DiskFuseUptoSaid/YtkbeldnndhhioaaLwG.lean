/- A script is played. -/
import Derived.Test.YtkbeldnndhhioaaLwF
namespace Go.Proofs.Ytkbeldnndhhioaa
open Go.RowKit

/-- The two pairs of disks, seen from pair s. -/
structure TW' (w : World) (z t s B : Nat) (cs : List Value) (pv rv : Value) (FP FR : Nat → Prop) (mo : Option DM) (pv' rv' : Value) (FP' FR' : Nat → Prop) (mo' : Option DM) : Prop where
  a : SS w t s cs pv rv FP FR mo
  b : SS w t (1 - s) cs pv' rv' FP' FR' mo'
  p : ∀ k, FP k ∨ FR k → z ≤ k ∧ ¬ (FP' k ∨ FR' k)
  q : ∀ k, FP' k ∨ FR' k → z ≤ k ∧ ¬ (FP k ∨ FR k)
  x : fewO mo B
  y : fewO mo' B
  z : z ≤ t
def TW (w : World) (z t s B : Nat) : Prop := ∃ cs pv rv FP FR mo pv' rv' FP' FR' mo', TW' w z t s B cs pv rv FP FR mo pv' rv' FP' FR' mo'
theorem TW.flip {w : World} {z t s B : Nat} (h : TW w z t s B) : TW w z t (1 - s) B := by
  obtain ⟨cs, pv, rv, FP, FR, mo, pv', rv', FP', FR', mo', h⟩ := h
  have hs : 1 - (1 - s) = s := by have := h.a.s2; omega
  exact ⟨cs, pv', rv', FP', FR', mo', pv, rv, FP, FR, mo, h.b, by rw [hs]; exact h.a, h.q, h.p, h.y, h.x, h.z⟩
theorem TW.at {w : World} {z t s s' B : Nat} (h : TW w z t s B) (hs : s' < 2) : TW w z t s' B := by
  have h2 : s < 2 := by obtain ⟨cs, pv, rv, FP, FR, mo, pv', rv', FP', FR', mo', h⟩ := h; exact h.a.s2
  by_cases he : s' = s
  · rw [he]; exact h
  · rw [show s' = 1 - s by omega]; exact h.flip
theorem TW'.G {w w' : World} {z t s B : Nat} {cs : List Value} {pv rv : Value} {FP FR : Nat → Prop} {mo : Option DM} {pv' rv' : Value} {FP' FR' : Nat → Prop} {mo' : Option DM} (h : TW' w z t s B cs pv rv FP FR mo pv' rv' FP' FR' mo') (g : Go.Proofs.Ytkbeldnndhhioaa.G w w') : TW' w' z t s B cs pv rv FP FR mo pv' rv' FP' FR' mo' :=
  ⟨h.a.G g, h.b.G g, h.p, h.q, h.x, h.y, h.z⟩
theorem TW.G {w w' : World} {z t s B : Nat} (h : TW w z t s B) (g : Go.Proofs.Ytkbeldnndhhioaa.G w w') : TW w' z t s B := by
  obtain ⟨cs, pv, rv, FP, FR, mo, pv', rv', FP', FR', mo', h⟩ := h
  exact ⟨cs, pv, rv, FP, FR, mo, pv', rv', FP', FR', mo', h.G g⟩
/-- What lies behind a step. -/
theorem TW'.step {w w' : World} {z t s B : Nat} {cs : List Value} {pv rv : Value} {FP FR : Nat → Prop} {mo : Option DM} {pv' rv' : Value} {FP' FR' : Nat → Prop} {mo' : Option DM} (h : TW' w z t s B cs pv rv FP FR mo pv' rv' FP' FR' mo') (k : StepA w t s cs FP FR B w') :
    TW w' z t s (B + 1) ∧ Chg (fun j => z ≤ j) w w' ∧ Chg (fun j => FP j ∨ FR j ∨ j = t) w w' := by
  obtain ⟨cs1, pv1, rv1, FP1, FR1, mo1, s1, c1, n1, o1, f1⟩ := k
  have hs := h.a.s2
  have hz := h.z
  have ht := h.a.bt.lt
  refine ⟨⟨cs1, pv1, rv1, FP1, FR1, mo1, pv', rv', FP', FR', mo', s1, ⟨s1.bt, s1.cl, by omega, ?_, ?_, ?_, ?_, h.b.d1, fun j hj => ⟨(h.b.d2 j hj).1, Nat.lt_of_lt_of_le (h.b.d2 j hj).2 c1.size⟩⟩, fun j hj => ?_, fun j hj => ⟨(h.q j hj).1, fun hn => ?_⟩, f1, h.y.up, hz⟩, ?_, c1⟩
  · rw [o1 _ (by omega) (by omega)]; exact h.b.cp
  · rw [o1 _ (by omega) (by omega)]; exact h.b.cr
  · exact h.b.sp.chg c1 (fun j hj e => by
      rcases e with e | e | e
      · exact (h.q j (.inl hj)).2 (.inl e)
      · exact (h.q j (.inl hj)).2 (.inr e)
      · exact (h.b.d2 j (.inl hj)).1 e)
  · exact h.b.sr.chg c1 (fun j hj e => by
      rcases e with e | e | e
      · exact (h.q j (.inr hj)).2 (.inl e)
      · exact (h.q j (.inr hj)).2 (.inr e)
      · exact (h.b.d2 j (.inr hj)).1 e)
  · rcases n1 j hj with e | e | e
    · exact h.p j (.inl e)
    · exact h.p j (.inr e)
    · exact ⟨by omega, fun x => by have := (h.b.d2 j x).2; omega⟩
  · rcases n1 j hn with e | e | e
    · exact (h.q j hj).2 (.inl e)
    · exact (h.q j hj).2 (.inr e)
    · have := (h.b.d2 j hj).2; omega
  · refine c1.mono (fun j e => ?_)
    rcases e with e | e | e
    · exact (h.p j (.inl e)).1
    · exact (h.p j (.inr e)).1
    · omega
/-- Only what is new since w has turned. -/
theorem G.trans2 {w a b : World} (h : Go.Proofs.Ytkbeldnndhhioaa.G w a) (k : Chg (fun j => w.heap.size ≤ j) a b) : Go.Proofs.Ytkbeldnndhhioaa.G w b :=
  ((h.chg (F := fun j => w.heap.size ≤ j)).trans k).G (fun _ h => h)
/-- A script's entries, in memory. -/
def Ops (w : World) (b off n : Nat) (E : Nat → Op) : Prop := ∀ i, i < n → w.rangeAt b (off + i * 5) (E i).L
/-- Both disks of a pair are there, or neither. -/
theorem SS.nils {w : World} {t s : Nat} {cs : List Value} {pv rv : Value} {FP FR : Nat → Prop} {mo : Option DM} (h : SS w t s cs pv rv FP FR mo) : (pv = .pointer none ∧ rv = .pointer none) ∨ ∃ a b, pv = .pointer (some a) ∧ rv = .pointer (some b) := by
  have h1 := h.sp
  have h2 := h.sr
  cases mo with
  | none => exact .inl ⟨h1, h2⟩
  | some m =>
    obtain ⟨p, e1, _⟩ := h1
    obtain ⟨q, e2, _⟩ := h2
    exact .inr ⟨_, _, e1, e2⟩
theorem TW.new (w : World) : TW (w.alloc (.cells #[.pointer none, .pointer none, .pointer none, .pointer none] 89)) w.heap.size w.heap.size 0 0 := by
  have hb := Blk.new w [.pointer none, .pointer none, .pointer none, .pointer none] 89
  refine ⟨_, .pointer none, .pointer none, fun _ => False, fun _ => False, none, .pointer none, .pointer none, fun _ => False, fun _ => False, none, ⟨⟨hb, rfl, by decide, rfl, rfl, rfl, rfl, fun _ h => h.elim, fun _ h => by simp at h⟩, ⟨hb, rfl, by decide, rfl, rfl, rfl, rfl, fun _ h => h.elim, fun _ h => by simp at h⟩, fun _ h => by simp at h, fun _ h => by simp at h, fun _ h => (by cases h), fun _ h => (by cases h), Nat.le_refl _⟩⟩
set_option maxRecDepth 100000 in
set_option maxHeartbeats 4000000 in
theorem plays_some (lo hi : Int) (b off n cap : Nat) (hn : n ≤ 1048576) (E : Nat → Op) (w : World) (hE : Ops w b off n E) (hK : ∀ i, i < n → OpOk w (E i)) :
    Calls Try.prog 26 #[.slice (some ⟨b, off, none⟩) n cap, .int .i64 lo, .int .i64 hi] w fun r w' => r = .returned (.bool true) ∧ G w w' := by
  have HE := hide hE
  have HK := hide hK
  have HT0 := hide (TW.new w)
  have HG0 := hide ((G.refl w).alloc (.cells #[.pointer none, .pointer none, .pointer none, .pointer none] 89))
  clear hE hK
  go_enter Try.func26, Try.ntmps26
  go_wp2
  generalize w.alloc (.cells #[.pointer none, .pointer none, .pointer none, .pointer none] 89) = w0 at HT0 HG0 ⊢
  go_loopw [8, 9, 10, 11] (fun i _ _ _ W => ∃ m : Nat, m ≤ n ∧ i = .int .i64 m ∧ TW W w.heap.size w.heap.size 0 m ∧ G w W) (fun i _ _ _ _ => n - (RowKit.intOf i).toNat)
  case atStart => exact ⟨0, by omega, rfl, HT0.out, HG0.out⟩
  case round =>
    obtain ⟨m, hm, rfl, hT, hG⟩ := hrel
    have HT := hide hT
    have HG := hide hG
    clear hT hG
    by_cases hlt : m < n
    · have HX := hide (rangeAt_G (HE.out m hlt) HG.out)
      have HO := hide ((HK.out m hlt).G HG.out)
      have HO0 := hide (HK.out m hlt)
      generalize E m = e at HX HO HO0
      obtain ⟨kind, who, nn, dv, kv⟩ := e
      obtain ⟨da, dl, dc, rfl⟩ : ∃ a l c, dv = .slice a l c := by obtain ⟨_, _, _, _, c, h, _⟩ := HO.out.d; exact ⟨_, _, _, h⟩
      obtain ⟨ka, kl, kc, rfl⟩ : ∃ a l c, kv = .slice a l c := by obtain ⟨_, _, _, c, h, _⟩ := HO.out.k; exact ⟨_, _, _, h⟩
      obtain ⟨s, hs, hw⟩ := and1 who
      obtain ⟨cs, pv, rv, FP, FR, mo, pv', rv', FP', FR', mo', hTW⟩ := HT.out.at hs
      have HG1 := hide ((G.refl wr).alloc (.cells #[I kind, I who, I nn, .slice da dl dc, .slice ka kl kc] 53))
      have HB1 := hide (Blk.new wr [I kind, I who, I nn, .slice da dl dc, .slice ka kl kc] 53)
      have HR1 : Hid ((wr.alloc (.cells #[I kind, I who, I nn, .slice da dl dc, .slice ka kl kc] 53)).rangeAt wr.heap.size 0 [I kind, I who, I nn, .slice da dl dc, .slice ka kl kc]) := fun j v hv => by rw [Nat.zero_add]; simpa using hv
      have HTW1 := hide (hTW.G HG1.out)
      have HD := hide hTW.a.d2
      have HTL := hide hTW.a.bt.lt
      have HC := hide (step_any ⟨kind, who, nn, .slice da dl dc, .slice ka kl kc⟩ w.heap.size s cs pv rv FP FR mo m hw (by omega) _ (HO.out.G HG1.out) (fun j hj => by
        have h1 : j < w.heap.size := hj.elim (HO0.out.db j) (HO0.out.kb j)
        exact ⟨fun e => by have := (hTW.p j (.inl e)).1; omega, fun e => by have := (hTW.p j (.inr e)).1; omega⟩) HTW1.out.x HTW1.out.a)
      clear hTW
      have hsI : (s : Int) < 2 := by omega
      have hsw : IntKind.i64.wrap (s : Int) = s := by rw [IntKind.wrap_i64]; omega
      go_wp2_with (first | (refine wpList_load_mid rfl 53 _ rfl b (off + m * 5) rfl [I kind, I who, I nn, .slice da dl dc, .slice ka kl kc] _ HX.out Try.underlying53 rfl (by kernel_rfl) ?_) | (refine wpList_load_mid rfl 53 _ rfl wr.heap.size 0 rfl [I kind, I who, I nn, .slice da dl dc, .slice ka kl kc] _ HR1.out Try.underlying53 rfl (by kernel_rfl) ?_) | fail)
      refine HC.out.mono ?_
      rintro e' w2 ⟨rfl, hst⟩
      have HST := hide (HTW1.out.step hst)
      have hco := (HB1.out.chg HST.out.2.2 (fun e => by
        rcases e with e | e | e
        · have := (HD.out _ (.inl e)).2; omega
        · have := (HD.out _ (.inr e)).2; omega
        · have := HTL.out; omega)).cell
      have HGG := hide ((HG.out.trans HG1.out).trans2 HST.out.2.1)
      have HTW := hide (HST.out.1.at (show 0 < 2 by decide))
      obtain ⟨cs2, pv2, rv2, _, _, _, _, _, _, _, _, h2⟩ := HST.out.1
      have hp2 : w2.cell? ⟨w.heap.size, s, none⟩ = some pv2 := by rw [h2.a.bt.cell, h2.a.cp]
      have hr2 : w2.cell? ⟨w.heap.size, 2 + s, none⟩ = some rv2 := by rw [h2.a.bt.cell, h2.a.cr]
      have hn2 := h2.a.nils
      clear h2 hst HST HTW1 HC HD HTL HR1 HB1 HG1 HO HO0 HX HT
      rcases hn2 with ⟨rfl, rfl⟩ | ⟨pa, ra, rfl, rfl⟩
      · go_wp2_with fail
        refine wp_region_noPanic ?_
        refine wp_region_held_drew (S := (fun W => W.cell? ⟨w.heap.size, s, none⟩ = some (.pointer none) ∧ W.cell? ⟨w.heap.size, 2 + s, none⟩ = some (.pointer none))) (by kernel_rfl) (⟨hp2, hr2⟩) (fun hHeld => ?_)
        refine wpAnyH_take (i := 0) (v := ?_) rfl (by kernel_rfl) (by kernel_rfl) (by kernel_rfl) (fun _ _ _ h => h) (Or.inl ⟨by rfl, ?_⟩) hHeld ?_
        rotate_left 1
        · (intro w hSw; (try dsimp only at hSw); go_simp; try with_reducible rfl)
        try simp only [Act.put, List.getElem_toArray, List.getElem_cons_zero, List.setIfInBounds_toArray, List.set_cons_zero, List.set_cons_succ]
        refine wpAnyH_take (i := 1) (v := ?_) rfl (by kernel_rfl) (by kernel_rfl) (by kernel_rfl) (fun _ _ _ h => h) (Or.inl ⟨by rfl, ?_⟩) hHeld ?_
        rotate_left 1
        · (intro w hSw; (try dsimp only at hSw); go_simp; try with_reducible rfl)
        try simp only [Act.put, List.getElem_toArray, List.getElem_cons_zero, List.getElem_cons_succ, List.setIfInBounds_toArray, List.set_cons_zero, List.set_cons_succ]
        refine wpAnyH_take (i := 2) (v := ?_) rfl (by kernel_rfl) (by kernel_rfl) (by kernel_rfl) (fun _ _ _ h => h) (Or.inl ⟨by rfl, ?_⟩) hHeld ?_
        rotate_left 1
        · (intro w hSw; (try dsimp only at hSw); go_simp; try with_reducible rfl)
        try simp only [Act.put, List.getElem_toArray, List.getElem_cons_zero, List.getElem_cons_succ, List.setIfInBounds_toArray, List.set_cons_zero, List.set_cons_succ]
        refine wpAnyH_take (i := 3) (v := ?_) rfl (by kernel_rfl) (by kernel_rfl) (by kernel_rfl) (fun _ _ _ h => h) (Or.inl ⟨by rfl, ?_⟩) hHeld ?_
        rotate_left 1
        · (intro w hSw; (try dsimp only at hSw); go_simp; try with_reducible rfl)
        try simp only [Act.put, List.getElem_toArray, List.getElem_cons_zero, List.getElem_cons_succ, List.setIfInBounds_toArray, List.set_cons_zero, List.set_cons_succ]
        refine wpAnyH_take (i := 4) (v := ?_) rfl (by kernel_rfl) (by kernel_rfl) (by kernel_rfl) (fun _ _ _ h => h) (Or.inl ⟨by rfl, ?_⟩) hHeld ?_
        rotate_left 1
        · (intro w hSw; (try dsimp only at hSw); go_simp; try with_reducible rfl)
        try simp only [Act.put, List.getElem_toArray, List.getElem_cons_zero, List.getElem_cons_succ, List.setIfInBounds_toArray, List.set_cons_zero, List.set_cons_succ]
        refine wpAnyH_take (i := 5) (v := ?_) rfl (by kernel_rfl) (by kernel_rfl) (by kernel_rfl) (fun _ _ _ h => h) (Or.inl ⟨by rfl, ?_⟩) hHeld ?_
        rotate_left 1
        · (intro w hSw; obtain ⟨q1, q2⟩ := hSw; go_simp; try with_reducible rfl)
        try simp only [Act.put, List.getElem_toArray, List.getElem_cons_zero, List.getElem_cons_succ, List.setIfInBounds_toArray, List.set_cons_zero, List.set_cons_succ]
        refine wpAnyH_take (i := 6) (v := ?_) rfl (by kernel_rfl) (by kernel_rfl) (by kernel_rfl) (fun _ _ _ h => h) (Or.inl ⟨by rfl, ?_⟩) hHeld ?_
        rotate_left 1
        · (intro w hSw; (try dsimp only at hSw); go_simp; try with_reducible rfl)
        try simp only [Act.put, List.getElem_toArray, List.getElem_cons_zero, List.getElem_cons_succ, List.setIfInBounds_toArray, List.set_cons_zero, List.set_cons_succ]
        refine wpAnyH_take (i := 7) (v := ?_) rfl (by kernel_rfl) (by kernel_rfl) (by kernel_rfl) (fun _ _ _ h => h) (Or.inl ⟨by rfl, ?_⟩) hHeld ?_
        rotate_left 1
        · (intro w hSw; (try dsimp only at hSw); go_simp; try with_reducible rfl)
        try simp only [Act.put, List.getElem_toArray, List.getElem_cons_zero, List.getElem_cons_succ, List.setIfInBounds_toArray, List.set_cons_zero, List.set_cons_succ]
        refine wpAnyH_take (i := 8) (v := ?_) rfl (by kernel_rfl) (by kernel_rfl) (by kernel_rfl) (fun _ _ _ h => h) (Or.inl ⟨by rfl, ?_⟩) hHeld ?_
        rotate_left 1
        · (intro w hSw; (try dsimp only at hSw); go_simp; try with_reducible rfl)
        try simp only [Act.put, List.getElem_toArray, List.getElem_cons_zero, List.getElem_cons_succ, List.setIfInBounds_toArray, List.set_cons_zero, List.set_cons_succ]
        refine wpAnyH_take (i := 9) (v := ?_) rfl (by kernel_rfl) (by kernel_rfl) (by kernel_rfl) (fun _ _ _ h => h) (Or.inl ⟨by rfl, ?_⟩) hHeld ?_
        rotate_left 1
        · (intro w hSw; (try dsimp only at hSw); go_simp; try with_reducible rfl)
        try simp only [Act.put, List.getElem_toArray, List.getElem_cons_zero, List.getElem_cons_succ, List.setIfInBounds_toArray, List.set_cons_zero, List.set_cons_succ]
        refine wpAnyH_take (i := 10) (v := ?_) rfl (by kernel_rfl) (by kernel_rfl) (by kernel_rfl) (fun _ _ _ h => h) (Or.inl ⟨by rfl, ?_⟩) hHeld ?_
        rotate_left 1
        · (intro w hSw; (try dsimp only at hSw); go_simp; try with_reducible rfl)
        try simp only [Act.put, List.getElem_toArray, List.getElem_cons_zero, List.getElem_cons_succ, List.setIfInBounds_toArray, List.set_cons_zero, List.set_cons_succ]
        refine wpAnyH_take (i := 11) (v := ?_) rfl (by kernel_rfl) (by kernel_rfl) (by kernel_rfl) (fun _ _ _ h => h) (Or.inl ⟨by rfl, ?_⟩) hHeld ?_
        rotate_left 1
        · (intro w hSw; (try dsimp only at hSw); go_simp; try with_reducible rfl)
        try simp only [Act.put, List.getElem_toArray, List.getElem_cons_zero, List.getElem_cons_succ, List.setIfInBounds_toArray, List.set_cons_zero, List.set_cons_succ]
        refine wpAnyH_take (i := 12) (v := ?_) rfl (by kernel_rfl) (by kernel_rfl) (by kernel_rfl) (fun _ _ _ h => h) (Or.inl ⟨by rfl, ?_⟩) hHeld ?_
        rotate_left 1
        · (intro w hSw; obtain ⟨q1, q2⟩ := hSw; go_simp; try with_reducible rfl)
        try simp only [Act.put, List.getElem_toArray, List.getElem_cons_zero, List.getElem_cons_succ, List.setIfInBounds_toArray, List.set_cons_zero, List.set_cons_succ]
        refine wpAnyH_take (i := 13) (v := ?_) rfl (by kernel_rfl) (by kernel_rfl) (by kernel_rfl) (fun _ _ _ h => h) (Or.inl ⟨by rfl, ?_⟩) hHeld ?_
        rotate_left 1
        · (intro w hSw; (try dsimp only at hSw); go_simp; try with_reducible rfl)
        try simp only [Act.put, List.getElem_toArray, List.getElem_cons_zero, List.getElem_cons_succ, List.setIfInBounds_toArray, List.set_cons_zero, List.set_cons_succ]
        refine wpAnyH_take (i := 14) (v := ?_) rfl (by kernel_rfl) (by kernel_rfl) (by kernel_rfl) (fun _ _ _ h => h) (Or.inl ⟨by rfl, ?_⟩) hHeld ?_
        rotate_left 1
        · (intro w hSw; (try dsimp only at hSw); go_simp; try with_reducible rfl)
        try simp only [Act.put, List.getElem_toArray, List.getElem_cons_zero, List.getElem_cons_succ, List.setIfInBounds_toArray, List.set_cons_zero, List.set_cons_succ]
        refine wpAnyH_done (by kernel_rfl) ?_ _
        refine NoPanic.normal ?_
        go_wp2
        go_roundw
        case rel => exact ⟨m + 1, by omega, by go_num, HTW.out.G (G.drew (G.refl _)), HGG.out.drew⟩
        case measure => simp [RowKit.intOf]; omega
      · go_wp2_with fail
        refine wp_region_noPanic ?_
        refine wp_region_held_drew (S := (fun W => W.cell? ⟨w.heap.size, s, none⟩ = some (.pointer (some pa)) ∧ W.cell? ⟨w.heap.size, 2 + s, none⟩ = some (.pointer (some ra)))) (by kernel_rfl) (⟨hp2, hr2⟩) (fun hHeld => ?_)
        refine wpAnyH_take (i := 0) (v := ?_) rfl (by kernel_rfl) (by kernel_rfl) (by kernel_rfl) (fun _ _ _ h => h) (Or.inl ⟨by rfl, ?_⟩) hHeld ?_
        rotate_left 1
        · (intro w hSw; (try dsimp only at hSw); go_simp; try with_reducible rfl)
        try simp only [Act.put, List.getElem_toArray, List.getElem_cons_zero, List.setIfInBounds_toArray, List.set_cons_zero, List.set_cons_succ]
        refine wpAnyH_take (i := 1) (v := ?_) rfl (by kernel_rfl) (by kernel_rfl) (by kernel_rfl) (fun _ _ _ h => h) (Or.inl ⟨by rfl, ?_⟩) hHeld ?_
        rotate_left 1
        · (intro w hSw; (try dsimp only at hSw); go_simp; try with_reducible rfl)
        try simp only [Act.put, List.getElem_toArray, List.getElem_cons_zero, List.getElem_cons_succ, List.setIfInBounds_toArray, List.set_cons_zero, List.set_cons_succ]
        refine wpAnyH_take (i := 2) (v := ?_) rfl (by kernel_rfl) (by kernel_rfl) (by kernel_rfl) (fun _ _ _ h => h) (Or.inl ⟨by rfl, ?_⟩) hHeld ?_
        rotate_left 1
        · (intro w hSw; (try dsimp only at hSw); go_simp; try with_reducible rfl)
        try simp only [Act.put, List.getElem_toArray, List.getElem_cons_zero, List.getElem_cons_succ, List.setIfInBounds_toArray, List.set_cons_zero, List.set_cons_succ]
        refine wpAnyH_take (i := 3) (v := ?_) rfl (by kernel_rfl) (by kernel_rfl) (by kernel_rfl) (fun _ _ _ h => h) (Or.inl ⟨by rfl, ?_⟩) hHeld ?_
        rotate_left 1
        · (intro w hSw; (try dsimp only at hSw); go_simp; try with_reducible rfl)
        try simp only [Act.put, List.getElem_toArray, List.getElem_cons_zero, List.getElem_cons_succ, List.setIfInBounds_toArray, List.set_cons_zero, List.set_cons_succ]
        refine wpAnyH_take (i := 4) (v := ?_) rfl (by kernel_rfl) (by kernel_rfl) (by kernel_rfl) (fun _ _ _ h => h) (Or.inl ⟨by rfl, ?_⟩) hHeld ?_
        rotate_left 1
        · (intro w hSw; (try dsimp only at hSw); go_simp; try with_reducible rfl)
        try simp only [Act.put, List.getElem_toArray, List.getElem_cons_zero, List.getElem_cons_succ, List.setIfInBounds_toArray, List.set_cons_zero, List.set_cons_succ]
        refine wpAnyH_take (i := 5) (v := ?_) rfl (by kernel_rfl) (by kernel_rfl) (by kernel_rfl) (fun _ _ _ h => h) (Or.inl ⟨by rfl, ?_⟩) hHeld ?_
        rotate_left 1
        · (intro w hSw; obtain ⟨q1, q2⟩ := hSw; go_simp; try with_reducible rfl)
        try simp only [Act.put, List.getElem_toArray, List.getElem_cons_zero, List.getElem_cons_succ, List.setIfInBounds_toArray, List.set_cons_zero, List.set_cons_succ]
        refine wpAnyH_take (i := 6) (v := ?_) rfl (by kernel_rfl) (by kernel_rfl) (by kernel_rfl) (fun _ _ _ h => h) (Or.inl ⟨by rfl, ?_⟩) hHeld ?_
        rotate_left 1
        · (intro w hSw; (try dsimp only at hSw); go_simp; try with_reducible rfl)
        try simp only [Act.put, List.getElem_toArray, List.getElem_cons_zero, List.getElem_cons_succ, List.setIfInBounds_toArray, List.set_cons_zero, List.set_cons_succ]
        refine wpAnyH_take (i := 7) (v := ?_) rfl (by kernel_rfl) (by kernel_rfl) (by kernel_rfl) (fun _ _ _ h => h) (Or.inl ⟨by rfl, ?_⟩) hHeld ?_
        rotate_left 1
        · (intro w hSw; (try dsimp only at hSw); go_simp; try with_reducible rfl)
        try simp only [Act.put, List.getElem_toArray, List.getElem_cons_zero, List.getElem_cons_succ, List.setIfInBounds_toArray, List.set_cons_zero, List.set_cons_succ]
        refine wpAnyH_take (i := 8) (v := ?_) rfl (by kernel_rfl) (by kernel_rfl) (by kernel_rfl) (fun _ _ _ h => h) (Or.inl ⟨by rfl, ?_⟩) hHeld ?_
        rotate_left 1
        · (intro w hSw; (try dsimp only at hSw); go_simp; try with_reducible rfl)
        try simp only [Act.put, List.getElem_toArray, List.getElem_cons_zero, List.getElem_cons_succ, List.setIfInBounds_toArray, List.set_cons_zero, List.set_cons_succ]
        refine wpAnyH_take (i := 9) (v := ?_) rfl (by kernel_rfl) (by kernel_rfl) (by kernel_rfl) (fun _ _ _ h => h) (Or.inl ⟨by rfl, ?_⟩) hHeld ?_
        rotate_left 1
        · (intro w hSw; (try dsimp only at hSw); go_simp; try with_reducible rfl)
        try simp only [Act.put, List.getElem_toArray, List.getElem_cons_zero, List.getElem_cons_succ, List.setIfInBounds_toArray, List.set_cons_zero, List.set_cons_succ]
        refine wpAnyH_take (i := 10) (v := ?_) rfl (by kernel_rfl) (by kernel_rfl) (by kernel_rfl) (fun _ _ _ h => h) (Or.inl ⟨by rfl, ?_⟩) hHeld ?_
        rotate_left 1
        · (intro w hSw; (try dsimp only at hSw); go_simp; try with_reducible rfl)
        try simp only [Act.put, List.getElem_toArray, List.getElem_cons_zero, List.getElem_cons_succ, List.setIfInBounds_toArray, List.set_cons_zero, List.set_cons_succ]
        refine wpAnyH_take (i := 11) (v := ?_) rfl (by kernel_rfl) (by kernel_rfl) (by kernel_rfl) (fun _ _ _ h => h) (Or.inl ⟨by rfl, ?_⟩) hHeld ?_
        rotate_left 1
        · (intro w hSw; (try dsimp only at hSw); go_simp; try with_reducible rfl)
        try simp only [Act.put, List.getElem_toArray, List.getElem_cons_zero, List.getElem_cons_succ, List.setIfInBounds_toArray, List.set_cons_zero, List.set_cons_succ]
        refine wpAnyH_take (i := 12) (v := ?_) rfl (by kernel_rfl) (by kernel_rfl) (by kernel_rfl) (fun _ _ _ h => h) (Or.inl ⟨by rfl, ?_⟩) hHeld ?_
        rotate_left 1
        · (intro w hSw; obtain ⟨q1, q2⟩ := hSw; go_simp; try with_reducible rfl)
        try simp only [Act.put, List.getElem_toArray, List.getElem_cons_zero, List.getElem_cons_succ, List.setIfInBounds_toArray, List.set_cons_zero, List.set_cons_succ]
        refine wpAnyH_take (i := 13) (v := ?_) rfl (by kernel_rfl) (by kernel_rfl) (by kernel_rfl) (fun _ _ _ h => h) (Or.inl ⟨by rfl, ?_⟩) hHeld ?_
        rotate_left 1
        · (intro w hSw; (try dsimp only at hSw); go_simp; try with_reducible rfl)
        try simp only [Act.put, List.getElem_toArray, List.getElem_cons_zero, List.getElem_cons_succ, List.setIfInBounds_toArray, List.set_cons_zero, List.set_cons_succ]
        refine wpAnyH_take (i := 14) (v := ?_) rfl (by kernel_rfl) (by kernel_rfl) (by kernel_rfl) (fun _ _ _ h => h) (Or.inl ⟨by rfl, ?_⟩) hHeld ?_
        rotate_left 1
        · (intro w hSw; (try dsimp only at hSw); go_simp; try with_reducible rfl)
        try simp only [Act.put, List.getElem_toArray, List.getElem_cons_zero, List.getElem_cons_succ, List.setIfInBounds_toArray, List.set_cons_zero, List.set_cons_succ]
        refine wpAnyH_done (by kernel_rfl) ?_ _
        refine NoPanic.normal ?_
        go_wp2
        go_roundw
        case rel => exact ⟨m + 1, by omega, by go_num, HTW.out.G (G.drew (G.refl _)), HGG.out.drew⟩
        case measure => simp [RowKit.intOf]; omega
    · go_wp2
      go_ret
      exact ⟨rfl, HG.out⟩
end Go.Proofs.Ytkbeldnndhhioaa
