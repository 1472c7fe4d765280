/- Paths: Push. -/
import Derived.Test.YtemkilffagjmcaaDoorPi4
import Derived.Test.YtemkilffagjmcaaDoorPaL
namespace Go.Proofs.YtemkilffagjmcaaDoor
open Go.RowKit

theorem info_it : ∃ i, Tryd.prog.info? 97 = some i ∧ i.zero = some (.agg #[I 0, I 0]) ∧ i.size = 2 ∧ i.bytes = 16 := info_parts (by kernel_rfl)
theorem cell_new (w : World) (xs : List Value) (e : TypeId) : ∀ (j : Nat) (u : Value), xs[j]? = some u → (w.alloc (.cells xs.toArray e)).drew.cell? ((⟨w.heap.size, 0, none⟩ : Addr).add j) = some u := fun j u hj => by
  rw [Addr.add_mid, Nat.zero_add]
  have := (Blk.new w xs e).cell j
  rw [hj] at this
  exact this
theorem app_chg {W W' : World} {v v' : Value} (h : (v'.ownBlock = v.ownBlock ∧ v'.ownBlock ≠ none ∧ Chg (fun k => v.ownBlock = some k) W W') ∨ (v'.ownBlock = some W.heap.size ∧ G W W')) : Chg (fun k => v.ownBlock = some k) W W' := by
  rcases h with h | h
  · exact h.2.2
  · exact h.2.chg
/-- What a Push leaves ahead of the rise: the head's items are stored. -/
theorem push_mid {w w7 : World} {h : Nat} {f v v' : Value} {l : List It} {t k : Int} (hp : HP w h f v l t) (hrow : w7.ownsRow 0 97 2 v' (l.length + 1) (fl l ++ [I k, I t])) (hc : Chg (fun k => v.ownBlock = some k) w w7) (hob : ∀ b, v'.ownBlock = some b → b ≠ h) :
    HP ((w7.setCell ⟨h, 1, none⟩ v').setCell ⟨h, 2, none⟩ (I (t + 1))) h f v' (l ++ [(k, t)]) (t + 1) := by
  have hb7 : Blk w7 h 95 [f, v, I t] := hp.blk.chg hc (fun e => hp.ne e rfl)
  have hb8 := (hb7.set 1 v').set 2 (I (t + 1))
  refine ⟨hb8, ?_⟩
  have hsl : Sl w7 v' (l ++ [(k, t)]) := Sl.of_row (b := 0) (by rw [fl_snoc, List.length_append]; exact hrow)
  exact hsl.keep fun b hb => by
    rw [Below.heap_setCell _ _ _ _ (hob b hb), Below.heap_setCell _ _ _ _ (hob b hb)]
set_option maxRecDepth 100000 in
set_option maxHeartbeats 2000000 in
theorem push_any (K : World → Prop) (D : Int → Prop) (f : Value) (lt : Int → Int → Bool) (ha : AhOk K D f lt) (h : Nat) (v : Value) (l : List It) (t : Int) (k : Int) (W : World) (hK : ∀ W', Chg (hpB h v) W W' → K W') (hp : HP W h f v l t) (hD : ∀ x ∈ l, D x.1) (hDk : D k) (hm : l.length < 17179869184) (ht0 : -1 < t) (ht : t < 17179869184) :
    Calls Tryd.prog 33 #[ptr h, I k] W fun e W' => e = .returned (.tuple #[]) ∧ ∃ v' l', HP W' h f v' l' (t + 1) ∧ l'.Perm ((k, t) :: l) ∧ (Hp.WO lt → Hp.HI (Hp.ah lt) l → Hp.HI (Hp.ah lt) l') ∧ Chg (hpB h v) W W' ∧ (v'.ownBlock = v.ownBlock ∨ ∃ b, v'.ownBlock = some b ∧ W.heap.size ≤ b) := by
  obtain ⟨va, vc, rfl⟩ : ∃ a c, v = .slice a l.length c := by
    rcases hp.sl with ⟨rfl, rfl⟩ | ⟨g, cap, rest, rfl, _⟩ <;> exact ⟨_, _, rfl⟩
  have hc := hp.blk.cell
  have hw1 : wrap64 (t + 1) = t + 1 := by unfold wrap64; omega
  have HN1 : Hid (l.length + 1 ≤ maxLen) := Nat.le_trans (Nat.succ_le_of_lt hm) (of_decide_eq_true (by kernel_rfl))
  have HN2 : Hid ((l.length + 1) * 16 ≤ 140737488355328) := by show _ ≤ _; omega
  have HA := hide ha
  have HKK := hide hK
  have HPP := hide hp
  have HDD : Hid (∀ x ∈ l ++ [(k, t)], D x.1) := fun x hx => by
    rcases List.mem_append.1 hx with q | q
    · exact hD x q
    · simp at q; subst q; exact hDk
  clear ha hp hK hm hD hDk
  go_enter Tryd.func33, Tryd.ntmps33
  go_wp2_with fail
  refine wp_region_noPanic ?_
  refine wp_region_L (S := (fun V => (∀ j, V.cell? ⟨h, j, none⟩ = ([f, .slice va l.length vc, I t] : List Value)[j]?))) 15 (by kernel_rfl) ((HPP.out.blk.G (G.drew (G.refl _))).cell) (fun hHeld => ?_)
  refine wpAnyL_take (i := 0) (v := ?_) rfl (by kernel_rfl) (by kernel_rfl) (by kernel_rfl) (by kernel_rfl) (fun _ _ _ h => h) (Or.inl ⟨by rfl, ?_⟩) hHeld ?_
  rotate_left 1
  · (intro w hSw; (try dsimp only at hSw); go_simp; try with_reducible rfl)
  try simp only [Act.put, List.getElem_toArray, List.getElem_cons_zero, List.setIfInBounds_toArray, List.set_cons_zero, List.set_cons_succ]
  refine wpAnyL_take (i := 1) (v := ?_) rfl (by kernel_rfl) (by kernel_rfl) (by kernel_rfl) (by kernel_rfl) (fun _ _ _ h => h) (Or.inl ⟨by rfl, ?_⟩) hHeld ?_
  rotate_left 1
  · (intro w hSw; (try dsimp only at hSw); go_simp; try with_reducible rfl)
  try simp only [Act.put, List.getElem_toArray, List.getElem_cons_zero, List.getElem_cons_succ, List.setIfInBounds_toArray, List.set_cons_zero, List.set_cons_succ]
  refine wpAnyL_take (i := 2) (v := ?_) rfl (by kernel_rfl) (by kernel_rfl) (by kernel_rfl) (by kernel_rfl) (fun _ _ _ h => h) (Or.inl ⟨by rfl, ?_⟩) hHeld ?_
  rotate_left 1
  · (intro w hSw; (try dsimp only at hSw); go_simp; try with_reducible rfl)
  try simp only [Act.put, List.getElem_toArray, List.getElem_cons_zero, List.getElem_cons_succ, List.setIfInBounds_toArray, List.set_cons_zero, List.set_cons_succ]
  refine wpAnyL_take (i := 3) (v := ?_) rfl (by kernel_rfl) (by kernel_rfl) (by kernel_rfl) (by kernel_rfl) (fun _ _ _ h => h) (Or.inl ⟨by rfl, ?_⟩) hHeld ?_
  rotate_left 1
  · (intro w hSw; (try dsimp only at hSw); go_simp; try with_reducible rfl)
  try simp only [Act.put, List.getElem_toArray, List.getElem_cons_zero, List.getElem_cons_succ, List.setIfInBounds_toArray, List.set_cons_zero, List.set_cons_succ]
  refine wpAnyL_take (i := 4) (v := ?_) rfl (by kernel_rfl) (by kernel_rfl) (by kernel_rfl) (by kernel_rfl) (fun _ _ _ h => h) (Or.inl ⟨by rfl, ?_⟩) hHeld ?_
  rotate_left 1
  · (intro w hSw; have q1 := hSw; go_simp; try with_reducible rfl)
  try simp only [Act.put, List.getElem_toArray, List.getElem_cons_zero, List.getElem_cons_succ, List.setIfInBounds_toArray, List.set_cons_zero, List.set_cons_succ]
  refine wpAnyL_take (i := 5) (v := ?_) rfl (by kernel_rfl) (by kernel_rfl) (by kernel_rfl) (by kernel_rfl) (fun _ _ _ h => h) (Or.inl ⟨by rfl, ?_⟩) hHeld ?_
  rotate_left 1
  · (intro w hSw; (try dsimp only at hSw); go_simp; try with_reducible rfl)
  try simp only [Act.put, List.getElem_toArray, List.getElem_cons_zero, List.getElem_cons_succ, List.setIfInBounds_toArray, List.set_cons_zero, List.set_cons_succ]
  refine wpAnyL_take (i := 6) (v := ?_) rfl (by kernel_rfl) (by kernel_rfl) (by kernel_rfl) (by kernel_rfl) (fun _ _ _ h => h) (Or.inl ⟨by rfl, ?_⟩) hHeld ?_
  rotate_left 1
  · (intro w hSw; (try dsimp only at hSw); go_simp; try with_reducible rfl)
  try simp only [Act.put, List.getElem_toArray, List.getElem_cons_zero, List.getElem_cons_succ, List.setIfInBounds_toArray, List.set_cons_zero, List.set_cons_succ]
  refine wpAnyL_take (i := 7) (v := ?_) rfl (by kernel_rfl) (by kernel_rfl) (by kernel_rfl) (by kernel_rfl) (fun _ _ _ h => h) (Or.inl ⟨by rfl, ?_⟩) hHeld ?_
  rotate_left 1
  · (intro w hSw; (try dsimp only at hSw); go_simp; try with_reducible rfl)
  try simp only [Act.put, List.getElem_toArray, List.getElem_cons_zero, List.getElem_cons_succ, List.setIfInBounds_toArray, List.set_cons_zero, List.set_cons_succ]
  refine wpAnyL_take (i := 8) (v := ?_) rfl (by kernel_rfl) (by kernel_rfl) (by kernel_rfl) (by kernel_rfl) (fun _ _ _ h => h) (Or.inl ⟨by rfl, ?_⟩) hHeld ?_
  rotate_left 1
  · (intro w hSw; (try dsimp only at hSw); go_simp; try with_reducible rfl)
  try simp only [Act.put, List.getElem_toArray, List.getElem_cons_zero, List.getElem_cons_succ, List.setIfInBounds_toArray, List.set_cons_zero, List.set_cons_succ]
  refine wpAnyL_take (i := 9) (v := ?_) rfl (by kernel_rfl) (by kernel_rfl) (by kernel_rfl) (by kernel_rfl) (fun _ _ _ h => h) (Or.inl ⟨by rfl, ?_⟩) hHeld ?_
  rotate_left 1
  · (intro w hSw; have q1 := hSw; go_simp; try with_reducible rfl)
  try simp only [Act.put, List.getElem_toArray, List.getElem_cons_zero, List.getElem_cons_succ, List.setIfInBounds_toArray, List.set_cons_zero, List.set_cons_succ]
  refine wpAnyL_take (i := 10) (v := ?_) rfl (by kernel_rfl) (by kernel_rfl) (by kernel_rfl) (by kernel_rfl) (fun _ _ _ h => h) (Or.inl ⟨by rfl, ?_⟩) hHeld ?_
  rotate_left 1
  · (intro w hSw; (try dsimp only at hSw); go_simp; try with_reducible rfl)
  try simp only [Act.put, List.getElem_toArray, List.getElem_cons_zero, List.getElem_cons_succ, List.setIfInBounds_toArray, List.set_cons_zero, List.set_cons_succ]
  refine wpAnyL_one (i := 11) (by kernel_rfl) rfl (by kernel_rfl) (fun K hK => ?_)
  clear hHeld
  go_simp
  have HG6 : Hid (G W (W.alloc (.cells #[I k, I t] 97)).drew) := ((G.refl W).alloc _).drew
  have HC6 : Hid (∀ j u, ([I k, I t] : List Value)[j]? = some u → (W.alloc (.cells #[I k, I t] 97)).drew.cell? ((⟨W.heap.size, 0, none⟩ : Addr).add j) = some u) := cell_new W [I k, I t] 97
  generalize (W.alloc (.cells #[I k, I t] 97)).drew = w6 at HG6 HC6 ⊢
  refine hK.out _ _ ((HPP.out.blk.G HG6.out).cell) (fun hHeld => ?_)
  clear hK K
  try simp only [Act.put, List.getElem_toArray, List.getElem_cons_zero, List.getElem_cons_succ, List.setIfInBounds_toArray, List.set_cons_zero, List.set_cons_succ]
  refine wpAnyL_one (i := 12) (by kernel_rfl) rfl (by kernel_rfl) (fun K hK => ?_)
  clear hHeld
  obtain ⟨i0, hi0, hz0, hz1, hz2⟩ := info_it
  obtain ⟨v7, w7, hrun, hrow7, hap7⟩ := app_stay (P := Tryd.prog) w6 0 93 93 97 i0 _ 2 16 Tryd.underlying93 hi0 hz0 hz1 hz2 rfl (by decide) (.slice va l.length vc) l.length (fl l) (HPP.out.G HG6.out).sl.row ⟨W.heap.size, 0, none⟩ 1 [I k, I t] rfl HC6.out (fun u hu => by simp at hu; rcases hu with rfl | rfl <;> rfl) HN1.out HN2.out (Nat.zero_le _)
  obtain ⟨g7, c7, rfl⟩ := own_block hrow7 (Nat.succ_pos _)
  have HAP := hide hap7
  have HRW := hide hrow7
  clear hap7 hrow7 hi0 hz0 hz1 hz2
  refine (if_pos rfl).mpr ?_
  refine wp_of_exec (exec_append _ _ 93 rfl (.slice va l.length vc) (.slice (some ⟨W.heap.size, 0, none⟩) 1 1) rfl rfl 93 rfl hrun) ?_
  clear hrun
  have HC7 := hide (app_chg HAP.out)
  have HNB : Hid (¬ ((Value.slice va l.length vc).ownBlock = some h)) := fun e => (HPP.out.G HG6.out).ne e rfl
  refine hK.out _ _ (((HPP.out.blk.G HG6.out).chg HC7.out HNB.out).cell) (fun hHeld => ?_)
  clear hK K
  try simp only [Act.put, List.getElem_toArray, List.getElem_cons_zero, List.getElem_cons_succ, List.setIfInBounds_toArray, List.set_cons_zero, List.set_cons_succ]
  refine wpAnyL_take2 14 (i := 13) (v := ?_) rfl (by kernel_rfl) (by kernel_rfl) (by kernel_rfl) (by kernel_rfl) (fun _ _ _ h => h) (Or.inl ⟨by rfl, ?_⟩) hHeld ?_
  rotate_left 1
  · (intro w hSw; (try dsimp only at hSw); go_simp; try with_reducible rfl)
  try simp only [Act.put, List.getElem_toArray, List.getElem_cons_zero, List.getElem_cons_succ, List.setIfInBounds_toArray, List.set_cons_zero, List.set_cons_succ]
  refine wpAnyL_take (i := 14) (v := ?_) rfl (by kernel_rfl) (by kernel_rfl) (by kernel_rfl) (by kernel_rfl) (fun _ _ _ h => h) (Or.inl ⟨by rfl, ?_⟩) hHeld ?_
  rotate_left 1
  · (intro w hSw; (try dsimp only at hSw); go_simp; try with_reducible rfl)
  try simp only [Act.put, List.getElem_toArray, List.getElem_cons_zero, List.getElem_cons_succ, List.setIfInBounds_toArray, List.set_cons_zero, List.set_cons_succ]
  refine wpAnyL_last (by kernel_rfl) rfl (by kernel_rfl) (fun K hK => ?_)
  clear hHeld
  have hc7 := ((HPP.out.blk.G HG6.out).chg HC7.out HNB.out).cell
  have hz7 := ((HPP.out.blk.G HG6.out).chg HC7.out HNB.out).frozen
  go_simp
  refine hK.out _ _ ?_
  clear hK K
  refine NoPanic.normal ?_
  have hob : ∀ b, (Value.slice (some ⟨g7, 0, none⟩) (l.length + 1) c7).ownBlock = some b → b ≠ h := fun b hb => by
    rcases HAP.out with q | q
    · rw [q.1] at hb; exact (HPP.out.G HG6.out).ne hb
    · rw [q.1] at hb
      have h1 := (HPP.out.G HG6.out).blk.lt
      have h2 := Option.some.inj hb
      omega
  have HMID := hide (push_mid (HPP.out.G HG6.out) HRW.out HC7.out hob)
  have hb8 := ((HPP.out.blk.G HG6.out).chg HC7.out HNB.out).set 1 (.slice (some ⟨g7, 0, none⟩) (l.length + 1) c7)
  have HCH : Hid (Chg (hpB h (.slice va l.length vc)) W ((w7.setCell ⟨h, 1, none⟩ (.slice (some ⟨g7, 0, none⟩) (l.length + 1) c7)).setCell ⟨h, 2, none⟩ (I (t + 1)))) :=
    (((HG6.out.chg (F := hpB h (.slice va l.length vc))).trans (HC7.out.mono (fun b e => .inr e))).trans (chg_setCell (F := hpB h (.slice va l.length vc)) _ _ (.inl (.inl rfl)))).trans (chg_setCell (F := hpB h (.slice va l.length vc)) _ _ (.inl (.inl rfl)))
  have HOB : Hid (∀ b, (Value.slice (some ⟨g7, 0, none⟩) (l.length + 1) c7).ownBlock = some b → (Value.slice va l.length vc).ownBlock = some b ∨ W.heap.size ≤ b) := fun b hb => by
    rcases HAP.out with q | q
    · rw [q.1] at hb; exact .inl hb
    · rw [q.1] at hb
      have h2 := Option.some.inj hb
      have := HG6.out.size
      exact .inr (by omega)
  have HMR : Hid (∀ W9, Chg (hpB h (.slice (some ⟨g7, 0, none⟩) (l.length + 1) c7)) ((w7.setCell ⟨h, 1, none⟩ (.slice (some ⟨g7, 0, none⟩) (l.length + 1) c7)).setCell ⟨h, 2, none⟩ (I (t + 1))) W9 → Chg (hpB h (.slice va l.length vc)) W W9) := fun W9 hch9 => by
    refine HCH.out.more hch9 (fun i hi q => ?_)
    rcases q with q | q
    · exact .inl q
    · rcases HOB.out i q with r | r
      · exact .inr r
      · omega
  have HEND : Hid ((Value.slice (some ⟨g7, 0, none⟩) (l.length + 1) c7).ownBlock = (Value.slice va l.length vc).ownBlock ∨ ∃ b, (Value.slice (some ⟨g7, 0, none⟩) (l.length + 1) c7).ownBlock = some b ∧ W.heap.size ≤ b) := by
    rcases HAP.out with q | q
    · exact .inl q.1
    · exact .inr ⟨_, q.1, HG6.out.size⟩
  clear hob HAP HRW HC7 HNB HC6 HG6 HPP hc
  have hc8 := hb8.cell
  have hz8 := hb8.frozen
  clear hb8
  generalize hw8 : w7.setCell ⟨h, 1, none⟩ (.slice (some ⟨g7, 0, none⟩) (l.length + 1) c7) = w8 at hc8 hz8 HMID HCH HMR ⊢
  have hw2 : wrap64 (l.length : Int) = l.length := by unfold wrap64; have := HN2.out; omega
  have HRI := hide (rise_any K D f lt HA.out h (.slice (some ⟨g7, 0, none⟩) (l.length + 1) c7) (l ++ [(k, t)]) (t + 1) l.length (w8.setCell ⟨h, 2, none⟩ (I (t + 1)))
    (fun W9 q => HKK.out W9 (HMR.out W9 q)) HMID.out HDD.out (by simp) (by rw [List.length_append]; exact HN1.out))
  clear HMID HN1 HN2
  go_wp2_with fail
  refine HRI.out.mono ?_
  rintro e w9 ⟨rfl, l', hp9, hperm, hhi, hch9⟩
  go_wp2_with fail
  go_end0
  exact ⟨rfl, _, l', hp9, hperm.trans (List.perm_append_singleton _ _), fun o q => hhi o (q.push _), HMR.out _ hch9, HEND.out⟩
end Go.Proofs.YtemkilffagjmcaaDoor
