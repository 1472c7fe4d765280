/- Paths: Push. -/
import Derived.Test.YtbhbmcgjfcgdgaaPa4
import Derived.Test.YtbhbmcgjfcgdgaaPaL
namespace Go.Proofs.Ytbhbmcgjfcgdgaa
open Go.RowKit

theorem info_it : ∃ i, Try.prog.info? 47 = some i ∧ i.zero = some (.agg #[I 0, I 0, I 0]) ∧ i.size = 3 ∧ i.bytes = 24 := info_parts (by kernel_rfl)
theorem cell_new (w : World) (xs : List Value) (e : TypeId) : ∀ (j : Nat) (u : Value), xs[j]? = some u → (w.alloc (.cells xs.toArray e)).drew.cell? ((⟨w.heap.size, 0, none⟩ : Addr).add j) = some u := fun j u hj => by
  rw [Addr.add_mid, Nat.zero_add]
  have := (Blk.new w xs e).cell j
  rw [hj] at this
  exact this
theorem app_chg {W W' : World} {v v' : Value} (h : (v'.ownBlock = v.ownBlock ∧ v'.ownBlock ≠ none ∧ Chg (fun k => v.ownBlock = some k) W W') ∨ (v'.ownBlock = some W.heap.size ∧ G W W')) : Chg (fun k => v.ownBlock = some k) W W' := by
  rcases h with h | h
  · exact h.2.2
  · exact h.2.chg
/-- What a Push leaves ahead of the rise: the head's items are stored. -/
theorem push_mid {w w7 : World} {h : Nat} {f v v' : Value} {l : List It} {t k g : Int} (hp : HP w h f v l t) (hrow : w7.ownsRow 0 47 3 v' (l.length + 1) (fl l ++ [I k, I g, I t])) (hc : Chg (fun k => v.ownBlock = some k) w w7) (hob : ∀ b, v'.ownBlock = some b → b ≠ h) :
    HP ((w7.setCell ⟨h, 1, none⟩ v').setCell ⟨h, 2, none⟩ (I (t + 1))) h f v' (l ++ [((k, g), t)]) (t + 1) := by
  have hb7 : Blk w7 h 45 [f, v, I t] := hp.blk.chg hc (fun e => hp.ne e rfl)
  have hb8 := (hb7.set 1 v').set 2 (I (t + 1))
  refine ⟨hb8, ?_⟩
  have hsl : Sl w7 v' (l ++ [((k, g), t)]) := Sl.of_row (b := 0) (by rw [fl_snoc, List.length_append]; exact hrow)
  exact hsl.keep fun b hb => by
    rw [Below.heap_setCell _ _ _ _ (hob b hb), Below.heap_setCell _ _ _ _ (hob b hb)]
set_option maxRecDepth 100000 in
set_option maxHeartbeats 2000000 in
theorem push_any (w0 : World) (f : Value) (lt : Int × Int → Int × Int → Bool) (ha : AhOk w0 f lt) (h : Nat) (v : Value) (l : List It) (t : Int) (k g : Int) (W : World) (hG : G w0 W) (hp : HP W h f v l t) (hm : l.length < 1073741824) (ht0 : -1 < t) (ht : t < 1073741824) (h0 : w0.heap.size ≤ h) (hv0 : ∀ b, v.ownBlock = some b → w0.heap.size ≤ b) :
    Calls Try.prog 8 #[ptr h, .agg #[I k, I g]] W fun e W' => e = .returned (.tuple #[]) ∧ ∃ v' l', HP W' h f v' l' (t + 1) ∧ l'.Perm (((k, g), t) :: l) ∧ (Hp.WO lt → Hp.HI (Hp.ah lt) l → Hp.HI (Hp.ah lt) l') ∧ Chg (hpB h v) W W' ∧ (v'.ownBlock = v.ownBlock ∨ ∃ b, v'.ownBlock = some b ∧ W.heap.size ≤ b) := by
  obtain ⟨va, vc, rfl⟩ : ∃ a c, v = .slice a l.length c := by
    rcases hp.sl with ⟨rfl, rfl⟩ | ⟨g, cap, rest, rfl, _⟩ <;> exact ⟨_, _, rfl⟩
  have hc := hp.blk.cell
  have hhl := hp.blk.lt
  have hw1 : wrap64 (t + 1) = t + 1 := by unfold wrap64; omega
  have HN1 : Hid (l.length + 1 ≤ maxLen) := Nat.le_trans (Nat.succ_le_of_lt hm) (of_decide_eq_true (by kernel_rfl))
  have HN2 : Hid ((l.length + 1) * 24 ≤ 140737488355328) := by show _ ≤ _; omega
  have HNE : Hid ((Value.slice va l.length vc).ownBlock ≠ some W.heap.size) := fun e => Nat.lt_irrefl _ (hp.sl.lt e)
  have HA := hide ha
  have HGG := hide hG
  have HV0 := hide hv0
  have HPP := hide hp
  clear ha hp hG hv0 hm
  go_enter Try.func8, Try.ntmps8
  go_wp2_with fail
  have HB4 := hide (HPP.out.G ((G.refl W).alloc (.cells #[I k, I g] 26)))
  have HX4 := hide (Blk.new W [I k, I g] 26)
  have HGW := hide ((G.refl W).alloc (.cells #[I k, I g] 26))
  generalize W.alloc (.cells #[I k, I g] 26) = w4 at HB4 HX4 HGW ⊢
  refine wp_region_noPanic ?_
  refine wp_region_L (S := (fun V => (∀ j, V.cell? ⟨h, j, none⟩ = ([f, .slice va l.length vc, I t] : List Value)[j]?) ∧ (∀ j, V.cell? ⟨W.heap.size, j, none⟩ = ([I k, I g] : List Value)[j]?))) 15 (by kernel_rfl) (⟨(HB4.out.blk.G (G.drew (G.refl _))).cell, (HX4.out.G (G.drew (G.refl _))).cell⟩) (fun hHeld => ?_)
  refine wpAnyL_take (i := 0) (v := ?_) rfl (by kernel_rfl) (by kernel_rfl) (by kernel_rfl) (by kernel_rfl) (fun _ _ _ h => h) (Or.inl ⟨by rfl, ?_⟩) hHeld ?_
  rotate_left 1
  · (intro w hSw; (try dsimp only at hSw); go_simp; try with_reducible rfl)
  try simp only [Act.put, List.getElem_toArray, List.getElem_cons_zero, List.setIfInBounds_toArray, List.set_cons_zero, List.set_cons_succ]
  refine wpAnyL_take (i := 1) (v := ?_) rfl (by kernel_rfl) (by kernel_rfl) (by kernel_rfl) (by kernel_rfl) (fun _ _ _ h => h) (Or.inl ⟨by rfl, ?_⟩) hHeld ?_
  rotate_left 1
  · (intro w hSw; (try dsimp only at hSw); go_simp; try with_reducible rfl)
  try simp only [Act.put, List.getElem_toArray, List.getElem_cons_zero, List.getElem_cons_succ, List.setIfInBounds_toArray, List.set_cons_zero, List.set_cons_succ]
  refine wpAnyL_take (i := 2) (v := ?_) rfl (by kernel_rfl) (by kernel_rfl) (by kernel_rfl) (by kernel_rfl) (fun _ _ _ h => h) (Or.inl ⟨by rfl, ?_⟩) hHeld ?_
  rotate_left 1
  · (intro w hSw; (try dsimp only at hSw); go_simp; try with_reducible rfl)
  try simp only [Act.put, List.getElem_toArray, List.getElem_cons_zero, List.getElem_cons_succ, List.setIfInBounds_toArray, List.set_cons_zero, List.set_cons_succ]
  refine wpAnyL_take (i := 3) (v := ?_) rfl (by kernel_rfl) (by kernel_rfl) (by kernel_rfl) (by kernel_rfl) (fun _ _ _ h => h) (Or.inl ⟨by rfl, ?_⟩) hHeld ?_
  rotate_left 1
  · (intro w hSw; (try dsimp only at hSw); go_simp; try with_reducible rfl)
  try simp only [Act.put, List.getElem_toArray, List.getElem_cons_zero, List.getElem_cons_succ, List.setIfInBounds_toArray, List.set_cons_zero, List.set_cons_succ]
  refine wpAnyL_take (i := 4) (v := ?_) rfl (by kernel_rfl) (by kernel_rfl) (by kernel_rfl) (by kernel_rfl) (fun _ _ _ h => h) (Or.inl ⟨by rfl, ?_⟩) hHeld ?_
  rotate_left 1
  · (intro w hSw; obtain ⟨q1, q2⟩ := hSw; go_simp; try with_reducible rfl)
  try simp only [Act.put, List.getElem_toArray, List.getElem_cons_zero, List.getElem_cons_succ, List.setIfInBounds_toArray, List.set_cons_zero, List.set_cons_succ]
  refine wpAnyL_take (i := 5) (v := ?_) rfl (by kernel_rfl) (by kernel_rfl) (by kernel_rfl) (by kernel_rfl) (fun _ _ _ h => h) (Or.inl ⟨by rfl, ?_⟩) hHeld ?_
  rotate_left 1
  · (intro w hSw; obtain ⟨q1, q2⟩ := hSw; go_simp; try with_reducible rfl)
  try simp only [Act.put, List.getElem_toArray, List.getElem_cons_zero, List.getElem_cons_succ, List.setIfInBounds_toArray, List.set_cons_zero, List.set_cons_succ]
  refine wpAnyL_take (i := 6) (v := ?_) rfl (by kernel_rfl) (by kernel_rfl) (by kernel_rfl) (by kernel_rfl) (fun _ _ _ h => h) (Or.inl ⟨by rfl, ?_⟩) hHeld ?_
  rotate_left 1
  · (intro w hSw; (try dsimp only at hSw); go_simp; try with_reducible rfl)
  try simp only [Act.put, List.getElem_toArray, List.getElem_cons_zero, List.getElem_cons_succ, List.setIfInBounds_toArray, List.set_cons_zero, List.set_cons_succ]
  refine wpAnyL_take (i := 7) (v := ?_) rfl (by kernel_rfl) (by kernel_rfl) (by kernel_rfl) (by kernel_rfl) (fun _ _ _ h => h) (Or.inl ⟨by rfl, ?_⟩) hHeld ?_
  rotate_left 1
  · (intro w hSw; (try dsimp only at hSw); go_simp; try with_reducible rfl)
  try simp only [Act.put, List.getElem_toArray, List.getElem_cons_zero, List.getElem_cons_succ, List.setIfInBounds_toArray, List.set_cons_zero, List.set_cons_succ]
  refine wpAnyL_take (i := 8) (v := ?_) rfl (by kernel_rfl) (by kernel_rfl) (by kernel_rfl) (by kernel_rfl) (fun _ _ _ h => h) (Or.inl ⟨by rfl, ?_⟩) hHeld ?_
  rotate_left 1
  · (intro w hSw; (try dsimp only at hSw); go_simp; try with_reducible rfl)
  try simp only [Act.put, List.getElem_toArray, List.getElem_cons_zero, List.getElem_cons_succ, List.setIfInBounds_toArray, List.set_cons_zero, List.set_cons_succ]
  refine wpAnyL_take (i := 9) (v := ?_) rfl (by kernel_rfl) (by kernel_rfl) (by kernel_rfl) (by kernel_rfl) (fun _ _ _ h => h) (Or.inl ⟨by rfl, ?_⟩) hHeld ?_
  rotate_left 1
  · (intro w hSw; obtain ⟨q1, q2⟩ := hSw; go_simp; try with_reducible rfl)
  try simp only [Act.put, List.getElem_toArray, List.getElem_cons_zero, List.getElem_cons_succ, List.setIfInBounds_toArray, List.set_cons_zero, List.set_cons_succ]
  refine wpAnyL_take (i := 10) (v := ?_) rfl (by kernel_rfl) (by kernel_rfl) (by kernel_rfl) (by kernel_rfl) (fun _ _ _ h => h) (Or.inl ⟨by rfl, ?_⟩) hHeld ?_
  rotate_left 1
  · (intro w hSw; (try dsimp only at hSw); go_simp; try with_reducible rfl)
  try simp only [Act.put, List.getElem_toArray, List.getElem_cons_zero, List.getElem_cons_succ, List.setIfInBounds_toArray, List.set_cons_zero, List.set_cons_succ]
  refine wpAnyL_one (i := 11) (by kernel_rfl) rfl (by kernel_rfl) (fun K hK => ?_)
  clear hHeld
  go_simp
  have HG6 : Hid (G w4 (w4.alloc (.cells #[I k, I g, I t] 47)).drew) := ((G.refl w4).alloc _).drew
  have HC6 : Hid (∀ j u, ([I k, I g, I t] : List Value)[j]? = some u → (w4.alloc (.cells #[I k, I g, I t] 47)).drew.cell? ((⟨w4.heap.size, 0, none⟩ : Addr).add j) = some u) := cell_new w4 [I k, I g, I t] 47
  generalize (w4.alloc (.cells #[I k, I g, I t] 47)).drew = w6 at HG6 HC6 ⊢
  refine hK.out _ _ (⟨(HB4.out.blk.G HG6.out).cell, (HX4.out.G HG6.out).cell⟩) (fun hHeld => ?_)
  clear hK K
  try simp only [Act.put, List.getElem_toArray, List.getElem_cons_zero, List.getElem_cons_succ, List.setIfInBounds_toArray, List.set_cons_zero, List.set_cons_succ]
  refine wpAnyL_one (i := 12) (by kernel_rfl) rfl (by kernel_rfl) (fun K hK => ?_)
  clear hHeld
  obtain ⟨i0, hi0, hz0, hz1, hz2⟩ := info_it
  obtain ⟨v7, w7, hrun, hrow7, hap7⟩ := app_stay (P := Try.prog) w6 0 43 43 47 i0 _ 3 24 Try.underlying43 hi0 hz0 hz1 hz2 rfl (by decide) (.slice va l.length vc) l.length (fl l) (HB4.out.G HG6.out).sl.row ⟨w4.heap.size, 0, none⟩ 1 [I k, I g, I t] rfl HC6.out (fun u hu => by simp at hu; rcases hu with rfl | rfl | rfl <;> rfl) HN1.out HN2.out (Nat.zero_le _)
  obtain ⟨g7, c7, rfl⟩ := own_block hrow7 (Nat.succ_pos _)
  have HAP := hide hap7
  have HRW := hide hrow7
  clear hap7 hrow7 hi0 hz0 hz1 hz2
  refine (if_pos rfl).mpr ?_
  refine wp_of_exec (exec_append _ _ 43 rfl (.slice va l.length vc) (.slice (some ⟨w4.heap.size, 0, none⟩) 1 1) rfl rfl 43 rfl hrun) ?_
  clear hrun
  have HC7 := hide (app_chg HAP.out)
  have HNB : Hid (¬ ((Value.slice va l.length vc).ownBlock = some h)) := fun e => (HB4.out.G HG6.out).ne e rfl
  have HNX : Hid (¬ ((Value.slice va l.length vc).ownBlock = some W.heap.size)) := fun e => HNE.out e
  refine hK.out _ _ (⟨((HB4.out.blk.G HG6.out).chg HC7.out HNB.out).cell, ((HX4.out.G HG6.out).chg HC7.out HNX.out).cell⟩) (fun hHeld => ?_)
  clear hK K
  try simp only [Act.put, List.getElem_toArray, List.getElem_cons_zero, List.getElem_cons_succ, List.setIfInBounds_toArray, List.set_cons_zero, List.set_cons_succ]
  refine wpAnyL_take2 14 (i := 13) (v := ?_) rfl (by kernel_rfl) (by kernel_rfl) (by kernel_rfl) (by kernel_rfl) (fun _ _ _ h => h) (Or.inl ⟨by rfl, ?_⟩) hHeld ?_
  rotate_left 1
  · (intro w hSw; (try dsimp only at hSw); go_simp; try with_reducible rfl)
  try simp only [Act.put, List.getElem_toArray, List.getElem_cons_zero, List.getElem_cons_succ, List.setIfInBounds_toArray, List.set_cons_zero, List.set_cons_succ]
  refine wpAnyL_take (i := 14) (v := ?_) rfl (by kernel_rfl) (by kernel_rfl) (by kernel_rfl) (by kernel_rfl) (fun _ _ _ h => h) (Or.inl ⟨by rfl, ?_⟩) hHeld ?_
  rotate_left 1
  · (intro w hSw; (try dsimp only at hSw); go_simp; try with_reducible rfl)
  try simp only [Act.put, List.getElem_toArray, List.getElem_cons_zero, List.getElem_cons_succ, List.setIfInBounds_toArray, List.set_cons_zero, List.set_cons_succ]
  refine wpAnyL_last (by kernel_rfl) rfl (by kernel_rfl) (fun K hK => ?_)
  clear hHeld
  have hc7 := ((HB4.out.blk.G HG6.out).chg HC7.out HNB.out).cell
  have hz7 := ((HB4.out.blk.G HG6.out).chg HC7.out HNB.out).frozen
  go_simp
  refine hK.out _ _ ?_
  clear hK K
  refine NoPanic.normal ?_
  have hob : ∀ b, (Value.slice (some ⟨g7, 0, none⟩) (l.length + 1) c7).ownBlock = some b → b ≠ h := fun b hb => by
    rcases HAP.out with q | q
    · rw [q.1] at hb; exact (HB4.out.G HG6.out).ne hb
    · rw [q.1] at hb
      have h1 := (HB4.out.G HG6.out).blk.lt
      have h2 := Option.some.inj hb
      omega
  have HMID := hide (push_mid (HB4.out.G HG6.out) HRW.out HC7.out hob)
  have hb8 := ((HB4.out.blk.G HG6.out).chg HC7.out HNB.out).set 1 (.slice (some ⟨g7, 0, none⟩) (l.length + 1) c7)
  have HCH : Hid (Chg (hpB h (.slice va l.length vc)) W ((w7.setCell ⟨h, 1, none⟩ (.slice (some ⟨g7, 0, none⟩) (l.length + 1) c7)).setCell ⟨h, 2, none⟩ (I (t + 1)))) :=
    ((((HGW.out.trans HG6.out).chg (F := hpB h (.slice va l.length vc))).trans (HC7.out.mono (fun b e => .inr e))).trans (chg_setCell (F := hpB h (.slice va l.length vc)) _ _ (.inl (.inl rfl)))).trans (chg_setCell (F := hpB h (.slice va l.length vc)) _ _ (.inl (.inl rfl)))
  have HOB : Hid (∀ b, (Value.slice (some ⟨g7, 0, none⟩) (l.length + 1) c7).ownBlock = some b → (Value.slice va l.length vc).ownBlock = some b ∨ W.heap.size ≤ b) := fun b hb => by
    rcases HAP.out with q | q
    · rw [q.1] at hb; exact .inl hb
    · rw [q.1] at hb
      have h2 := Option.some.inj hb
      have := (HGW.out.trans HG6.out).size
      exact .inr (by omega)
  have HEND : Hid ((Value.slice (some ⟨g7, 0, none⟩) (l.length + 1) c7).ownBlock = (Value.slice va l.length vc).ownBlock ∨ ∃ b, (Value.slice (some ⟨g7, 0, none⟩) (l.length + 1) c7).ownBlock = some b ∧ W.heap.size ≤ b) := by
    rcases HAP.out with q | q
    · exact .inl q.1
    · exact .inr ⟨_, q.1, (HGW.out.trans HG6.out).size⟩
  clear hob HAP HRW HC7 HNB HNX HC6 HG6 HGW HX4 HB4 HPP HNE hc hhl
  have hc8 := hb8.cell
  have hz8 := hb8.frozen
  clear hb8
  generalize hw8 : w7.setCell ⟨h, 1, none⟩ (.slice (some ⟨g7, 0, none⟩) (l.length + 1) c7) = w8 at hc8 hz8 HMID HCH ⊢
  have hw2 : wrap64 (l.length : Int) = l.length := by unfold wrap64; have := HN2.out; omega
  have HRI := hide (rise_any w0 f lt HA.out h (.slice (some ⟨g7, 0, none⟩) (l.length + 1) c7) (l ++ [((k, g), t)]) (t + 1) l.length (w8.setCell ⟨h, 2, none⟩ (I (t + 1)))
    (g_of HGG.out h0 HV0.out HCH.out) HMID.out (by simp) (by rw [List.length_append]; exact HN1.out) h0 (fun b hb => (HOB.out b hb).elim (HV0.out b) (fun q => Nat.le_trans HGG.out.size q)))
  clear HMID HN1 HN2
  go_wp2_with fail
  refine HRI.out.mono ?_
  rintro e w9 ⟨rfl, l', hp9, hperm, hhi, hch9⟩
  go_wp2_with fail
  go_end0
  refine ⟨rfl, _, l', hp9, hperm.trans (List.perm_append_singleton _ _), fun o q => hhi o (q.push _), ?_, HEND.out⟩
  refine HCH.out.more hch9 (fun i hi q => ?_)
  rcases q with q | q
  · exact .inl q
  · rcases HOB.out i q with r | r
    · exact .inr r
    · omega
end Go.Proofs.Ytbhbmcgjfcgdgaa
