/- Wire: WireAsked. -/
import Derived.Test.YtnjeingpjoadjaaDoorW35
import Derived.Test.YtnjeingpjoadjaaDoorW18
import Derived.Test.YtnjeingpjoadjaaDoorW37
namespace Go.Proofs.YtnjeingpjoadjaaDoor
open Go.RowKit

/-- What both answer. -/
def GqR (q : Rq) (cd : Int) (w : World) (e : Ending) (w' : World) : Prop := ∃ v', e = .returned (.tuple #[v', I cd]) ∧ (∀ (F : Nat → Prop) w9, (∀ j, F j → j < w.heap.size) → Chg F w' w9 → RqV w9 v' q) ∧ G w w'
/-- A request as a value. -/
theorem RqV.form {w : World} {v : Value} {q : Rq} (h : RqV w v q) : ∃ a n c a' n' c', v = .agg #[I q.k, .slice a n c, .string q.t, .slice a' n' c'] := by
  obtain ⟨vn, vb, rfl, h1, h2⟩ := h.h
  obtain ⟨a, c, rfl⟩ := h1.form
  obtain ⟨a', c', rfl⟩ := h2.form
  exact ⟨_, _, _, _, _, _, rfl⟩
set_option maxRecDepth 100000 in
set_option maxHeartbeats 1000000 in
theorem wireAsked (c k : Int) (l : List Nat) (v : Value) (W : World) (hr : Rb W v l) (hb : By l) (hT : Tks W) (hn : l.length ≤ 140737488351232) :
    Calls Tryd.prog 4 #[.agg #[I c, I k, v]] W fun e W' => e = .returned (.bool true) ∧ G W W' := by
  obtain ⟨p, cap, rfl⟩ := hr.form
  have hB := Blk.new W [I c, I k, .slice p l.length cap] 35
  have hA := (G.refl W).alloc (.cells #[I c, I k, .slice p l.length cap] 35)
  have hc := hB.cell
  have K1 := hide (room_big l _ (W.alloc (.cells #[I c, I k, .slice p l.length cap] 35)) (hr.G hA) (by omega))
  have HH := hide (And.intro hr (And.intro hb (And.intro hT hn)))
  have HB := hide (And.intro hB hA)
  clear hr hb hT hn hB hA
  go_enter Tryd.func4, Tryd.ntmps4
  go_wp2_with fail
  generalize W.alloc (.cells #[I c, I k, .slice p l.length cap] 35) = w1 at K1 HB hc ⊢
  refine K1.out.mono ?_
  rintro e w2 ⟨v2, rfl, hs2, hg2, hf2⟩
  have hl2 : (l ++ mks).length = l.length + 8 := by simp [mks]
  obtain ⟨g2, o2, c2, rfl⟩ := hs2.toRow.addr (by omega)
  have hcp := hs2.toRow.cap.1
  have hpre : Rb w2 (.slice (some ⟨g2, o2, none⟩) l.length c2) l := by
    have := Row.pre hs2.toRow l.length (by rw [hl2]; omega)
    rw [List.take_left] at this
    exact this
  rw [hl2] at hs2 hcp hf2 ⊢
  have hB2 := HB.out.1.G hg2
  have b2 := hB2.cell
  have i1 : (l.length : Int) ≤ (l.length : Int) + 8 := by omega
  have i2 : l.length ≤ c2 := by omega
  have i3 : (l.length : Int) ≤ (c2 : Int) := by omega
  have i4 : ¬ (l.length : Int) < 0 := by omega
  have hg12 := HB.out.2.trans hg2
  obtain ⟨hr, hb, hT, hn⟩ := HH.out
  obtain ⟨q, cd, KG, KR⟩ : ∃ q cd, Hid (∀ w, G w2 w → Calls Tryd.prog 12 #[.agg #[I c, I k, .slice (some ⟨g2, o2, none⟩) l.length c2]] w (GqR q cd w)) ∧ Hid (∀ w, G W w → Calls Tryd.prog 13 #[.agg #[I c, I k, .slice p l.length cap]] w (GqR q cd w)) :=
    ⟨gqQ c k l, gqC c k l, fun w g => getq_any c k l _ w (hpre.G g) hb (hT.G (hg12.trans g)) (by omega), fun w g => rgetq_any c k l _ w (hr.G g) hb (by omega)⟩
  have HB2 := hide hB2
  have HS2 := hide hs2
  have HG2 := hide (And.intro hg2 hf2)
  clear hs2 hg2 hf2 hB2 K1 hr hb hT hn hg12 hpre hcp hl2
  go_wp2_with fail
  refine wp_region_noPanic ?_
  refine wp_region_held_drew (S := (fun V => ∀ o, V.cell? ⟨W.heap.size, o, none⟩ = ([I c, I k, .slice p l.length cap] : List Value)[o]?)) (by kernel_rfl) (HB2.out.drew.cell) (fun hHeld => ?_)
  refine wpAnyH_take (i := 0) (v := ?_) rfl (by kernel_rfl) (by kernel_rfl) (by kernel_rfl) (fun _ _ _ h => h) (Or.inl ⟨by rfl, ?_⟩) hHeld ?_
  rotate_left 1
  · (intro w hSw; have q1 := hSw; (try dsimp only at hSw); go_simp; try with_reducible rfl)
  try simp only [Act.put, List.getElem_toArray, List.getElem_cons_zero, List.setIfInBounds_toArray, List.set_cons_zero, List.set_cons_succ]
  refine wpAnyH_take (i := 1) (v := ?_) rfl (by kernel_rfl) (by kernel_rfl) (by kernel_rfl) (fun _ _ _ h => h) (Or.inl ⟨by rfl, ?_⟩) hHeld ?_
  rotate_left 1
  · (intro w hSw; have q1 := hSw; (try dsimp only at hSw); go_simp; try with_reducible rfl)
  try simp only [Act.put, List.getElem_toArray, List.getElem_cons_zero, List.getElem_cons_succ, List.setIfInBounds_toArray, List.set_cons_zero, List.set_cons_succ]
  refine wpAnyH_take (i := 2) (v := ?_) rfl (by kernel_rfl) (by kernel_rfl) (by kernel_rfl) (fun _ _ _ h => h) (Or.inl ⟨by rfl, ?_⟩) hHeld ?_
  rotate_left 1
  · (intro w hSw; have q1 := hSw; (try dsimp only at hSw); go_simp; try with_reducible rfl)
  try simp only [Act.put, List.getElem_toArray, List.getElem_cons_zero, List.getElem_cons_succ, List.setIfInBounds_toArray, List.set_cons_zero, List.set_cons_succ]
  refine wpAnyH_take (i := 3) (v := ?_) rfl (by kernel_rfl) (by kernel_rfl) (by kernel_rfl) (fun _ _ _ h => h) (Or.inl ⟨by rfl, ?_⟩) hHeld ?_
  rotate_left 1
  · (intro w hSw; have q1 := hSw; (try dsimp only at hSw); go_simp; try with_reducible rfl)
  try simp only [Act.put, List.getElem_toArray, List.getElem_cons_zero, List.getElem_cons_succ, List.setIfInBounds_toArray, List.set_cons_zero, List.set_cons_succ]
  refine wpAnyH_take (i := 4) (v := ?_) rfl (by kernel_rfl) (by kernel_rfl) (by kernel_rfl) (fun _ _ _ h => h) (Or.inl ⟨by rfl, ?_⟩) hHeld ?_
  rotate_left 1
  · (intro w hSw; have q1 := hSw; (try dsimp only at hSw); go_simp; try with_reducible rfl)
  try simp only [Act.put, List.getElem_toArray, List.getElem_cons_zero, List.getElem_cons_succ, List.setIfInBounds_toArray, List.set_cons_zero, List.set_cons_succ]
  refine wpAnyH_take (i := 5) (v := ?_) rfl (by kernel_rfl) (by kernel_rfl) (by kernel_rfl) (fun _ _ _ h => h) (Or.inl ⟨by rfl, ?_⟩) hHeld ?_
  rotate_left 1
  · (intro w hSw; have q1 := hSw; (try dsimp only at hSw); go_simp; try with_reducible rfl)
  try simp only [Act.put, List.getElem_toArray, List.getElem_cons_zero, List.getElem_cons_succ, List.setIfInBounds_toArray, List.set_cons_zero, List.set_cons_succ]
  refine wpAnyH_take (i := 6) (v := ?_) rfl (by kernel_rfl) (by kernel_rfl) (by kernel_rfl) (fun _ _ _ h => h) (Or.inl ⟨by rfl, ?_⟩) hHeld ?_
  rotate_left 1
  · (intro w hSw; have q1 := hSw; (try dsimp only at hSw); go_simp; try with_reducible rfl)
  try simp only [Act.put, List.getElem_toArray, List.getElem_cons_zero, List.getElem_cons_succ, List.setIfInBounds_toArray, List.set_cons_zero, List.set_cons_succ]
  refine wpAnyH_take (i := 7) (v := ?_) rfl (by kernel_rfl) (by kernel_rfl) (by kernel_rfl) (fun _ _ _ h => h) (Or.inl ⟨by rfl, ?_⟩) hHeld ?_
  rotate_left 1
  · (intro w hSw; have q1 := hSw; (try dsimp only at hSw); go_simp; try with_reducible rfl)
  try simp only [Act.put, List.getElem_toArray, List.getElem_cons_zero, List.getElem_cons_succ, List.setIfInBounds_toArray, List.set_cons_zero, List.set_cons_succ]
  refine wpAnyH_take (i := 8) (v := ?_) rfl (by kernel_rfl) (by kernel_rfl) (by kernel_rfl) (fun _ _ _ h => h) (Or.inl ⟨by rfl, ?_⟩) hHeld ?_
  rotate_left 1
  · (intro w hSw; have q1 := hSw; (try dsimp only at hSw); go_simp; try with_reducible rfl)
  try simp only [Act.put, List.getElem_toArray, List.getElem_cons_zero, List.getElem_cons_succ, List.setIfInBounds_toArray, List.set_cons_zero, List.set_cons_succ]
  refine wpAnyH_take (i := 9) (v := ?_) rfl (by kernel_rfl) (by kernel_rfl) (by kernel_rfl) (fun _ _ _ h => h) (Or.inl ⟨by rfl, ?_⟩) hHeld ?_
  rotate_left 1
  · (intro w hSw; have q1 := hSw; (try dsimp only at hSw); go_simp; try with_reducible rfl)
  try simp only [Act.put, List.getElem_toArray, List.getElem_cons_zero, List.getElem_cons_succ, List.setIfInBounds_toArray, List.set_cons_zero, List.set_cons_succ]
  refine wpAnyH_ready (rs := [10, 14]) (by kernel_rfl) (by simp) (AllReadyH.cons rfl (fun K hK => ?_) (AllReadyH.cons rfl (fun K hK => ?_) AllReadyH.nil))
  · -- the call, then the variable
    clear hHeld
    go_simp
    refine (KG.out _ (G.refl w2).drew).mono ?_
    rintro e w3 ⟨v3, rfl, hv3, hg3⟩
    obtain ⟨xa, xn, xc, xa', xn', xc', ev⟩ := (hv3 (fun _ => False) w3 (fun _ h => h.elim) (Chg.refl _ _)).form
    subst ev
    have HB3 := hide (HB2.out.drew.G hg3)
    have HV3 := hide (And.intro hv3 hg3)
    clear hv3 hg3 KG
    refine hK.out _ _ (HB3.out.cell) (fun hHeld => ?_)
    clear hK K
    try simp only [Act.put, List.getElem_toArray, List.getElem_cons_zero, List.getElem_cons_succ, List.setIfInBounds_toArray, List.set_cons_zero, List.set_cons_succ]
    refine wpAnyH_take (i := 11) (v := ?_) rfl (by kernel_rfl) (by kernel_rfl) (by kernel_rfl) (fun _ _ _ h => h) (Or.inl ⟨by rfl, ?_⟩) hHeld ?_
    rotate_left 1
    · (intro w hSw; have q1 := hSw; (try dsimp only at hSw); go_simp; try with_reducible rfl)
    try simp only [Act.put, List.getElem_toArray, List.getElem_cons_zero, List.getElem_cons_succ, List.setIfInBounds_toArray, List.set_cons_zero, List.set_cons_succ]
    refine wpAnyH_take (i := 12) (v := ?_) rfl (by kernel_rfl) (by kernel_rfl) (by kernel_rfl) (fun _ _ _ h => h) (Or.inl ⟨by rfl, ?_⟩) hHeld ?_
    rotate_left 1
    · (intro w hSw; have q1 := hSw; (try dsimp only at hSw); go_simp; try with_reducible rfl)
    try simp only [Act.put, List.getElem_toArray, List.getElem_cons_zero, List.getElem_cons_succ, List.setIfInBounds_toArray, List.set_cons_zero, List.set_cons_succ]
    refine wpAnyH_take (i := 13) (v := ?_) rfl (by kernel_rfl) (by kernel_rfl) (by kernel_rfl) (fun _ _ _ h => h) (Or.inl ⟨by rfl, ?_⟩) hHeld ?_
    rotate_left 1
    · (intro w hSw; have q1 := hSw; (try dsimp only at hSw); go_simp; try with_reducible rfl)
    try simp only [Act.put, List.getElem_toArray, List.getElem_cons_zero, List.getElem_cons_succ, List.setIfInBounds_toArray, List.set_cons_zero, List.set_cons_succ]
    refine wpAnyH_ready (rs := [14]) (by kernel_rfl) (by simp) (AllReadyH.cons rfl (fun K hK => ?_) AllReadyH.nil)
    clear hHeld
    go_simp
    obtain ⟨w4, hw4⟩ : ∃ w4, w4 = w3.alloc (.cells #[I 0, .slice none 0 0, .string { data := #[] }, .slice none 0 0] 25) := ⟨_, rfl⟩
    rw [← hw4]
    have H4 : Hid (Blk w4 w3.heap.size 25 [I 0, .slice none 0 0, .string { data := #[] }, .slice none 0 0] ∧ G w3 w4) := by rw [hw4]; exact ⟨Blk.new w3 [I 0, .slice none 0 0, .string { data := #[] }, .slice none 0 0] 25, (G.refl w3).alloc _⟩
    have HB4 := hide (HB3.out.G H4.out.2)
    have HSZ := hide (HV3.out.2.size)
    obtain ⟨xb, hxb⟩ : ∃ xb, xb = w3.heap.size := ⟨_, rfl⟩
    rw [← hxb] at H4 ⊢
    have HXB := hide hxb
    clear hw4 hxb
    refine hK.out _ _ (HB4.out.cell) (fun hHeld => ?_)
    clear hK K
    try simp only [Act.put, List.getElem_toArray, List.getElem_cons_zero, List.getElem_cons_succ, List.setIfInBounds_toArray, List.set_cons_zero, List.set_cons_succ]
    refine wpAnyH_ready (rs := [15]) (by kernel_rfl) (by simp) (AllReadyH.cons rfl (fun K hK => ?_) AllReadyH.nil)
    clear hHeld
    have hcR := H4.out.1.cell
    have hzR := H4.out.1.frozen
    go_simp
    have HX5 : Hid (Blk (WS w4 xb (I q.k) (.slice xa xn xc) (.string q.t) (.slice xa' xn' xc')) W.heap.size 35 [I c, I k, .slice p l.length cap] ∧ Blk (WS w4 xb (I q.k) (.slice xa xn xc) (.string q.t) (.slice xa' xn' xc')) xb 25 [I q.k, .slice xa xn xc, .string q.t, .slice xa' xn' xc'] ∧ G w2 (WS w4 xb (I q.k) (.slice xa xn xc) (.string q.t) (.slice xa' xn' xc')) ∧ RqV (WS w4 xb (I q.k) (.slice xa xn xc) (.string q.t) (.slice xa' xn' xc')) (.agg #[I q.k, .slice xa xn xc, .string q.t, .slice xa' xn' xc']) q ∧ w2.heap.size ≤ xb) := by
      have hle : w2.heap.size ≤ xb := by have h1 := HSZ.out; have h2 := HXB.out; have h3 : w2.drew.heap.size = w2.heap.size := rfl; omega
      obtain ⟨q1, q2, q3, q4⟩ := ws_set (I q.k) (.slice xa xn xc) (.string q.t) (.slice xa' xn' xc') HB4.out H4.out.1 ((G.refl w2).drew.trans (HV3.out.2.trans H4.out.2)) hle
      exact ⟨q1, q2, q3, HV3.out.1 (fun _ => False) _ (fun _ h => h.elim) ((H4.out.2.chg).more q4 (fun i hi e => by have h2 := HXB.out; omega)), hle⟩
    clear hcR hzR
    show K _ (WS w4 xb (I q.k) (.slice xa xn xc) (.string q.t) (.slice xa' xn' xc'))
    generalize WS w4 xb (I q.k) (.slice xa xn xc) (.string q.t) (.slice xa' xn' xc') = w5 at HX5 ⊢
    refine hK.out _ _ (HX5.out.1.cell) (fun hHeld => ?_)
    clear hK K
    try simp only [Act.put, List.getElem_toArray, List.getElem_cons_zero, List.getElem_cons_succ, List.setIfInBounds_toArray, List.set_cons_zero, List.set_cons_succ]
    refine wpAnyH_take (i := 16) (v := ?_) rfl (by kernel_rfl) (by kernel_rfl) (by kernel_rfl) (fun _ _ _ h => h) (Or.inl ⟨by rfl, ?_⟩) hHeld ?_
    rotate_left 1
    · (intro w hSw; have q1 := hSw; (try dsimp only at hSw); go_simp; try with_reducible rfl)
    try simp only [Act.put, List.getElem_toArray, List.getElem_cons_zero, List.getElem_cons_succ, List.setIfInBounds_toArray, List.set_cons_zero, List.set_cons_succ]
    refine wpAnyH_done (by kernel_rfl) ?_ _
    refine NoPanic.normal ?_
    clear hHeld H4 HB4 HB3 HV3 HSZ HXB
    have hG5 := HB.out.2.trans (HG2.out.1.trans HX5.out.2.2.1)
    have KR5 := hide (KR.out w5 hG5)
    have HG5 := hide hG5
    have k5 := HX5.out.1.cell
    clear hG5 KR hc b2 i1 i2 i3 i4
    go_wp2_with fail
    refine KR5.out.mono ?_
    rintro e w6 ⟨v6, rfl, hv6, hg6⟩
    have hrv := hv6 (fun _ => False) w6 (fun _ h => h.elim) (Chg.refl _ _)
    obtain ⟨ya, yn, yc, ya', yn', yc', ev⟩ := hrv.form
    subst ev
    have hA7 := (G.refl w6).alloc (.cells #[I q.k, .slice ya yn yc, .string q.t, .slice ya' yn' yc'] 25)
    have hY7 := Blk.new w6 [I q.k, .slice ya yn yc, .string q.t, .slice ya' yn' yc'] 25
    have hg7 := hg6.trans hA7
    have hX7 := HX5.out.2.1.G hg7
    have hf7 := HX5.out.1.G hg7
    have z3 := Blk.new w6 [I 0, .slice none 0 0, .string { data := #[] }, .slice none 0 0] 25
    have z4 := z3.cell
    have z5 := z3.frozen
    have x7 := hX7.cell
    have y7 := hY7.cell
    have f7 := hf7.cell
    have KS := hide (sreq_any q _ _ _ (HX5.out.2.2.2.1.G hg7) (hrv.G hA7))
    have H7 := hide (And.intro hf7 hg7)
    clear hrv hv6 hg6 hA7 hY7 hX7 hf7 hg7 z3 KR5 k5
    go_wp2_with fail
    generalize w6.alloc (.cells #[I q.k, .slice ya yn yc, .string q.t, .slice ya' yn' yc'] 25) = w7 at KS H7 x7 y7 f7 ⊢
    refine KS.out.mono ?_
    rintro e w8 ⟨rfl, g8⟩
    have hg28 := HX5.out.2.2.1.trans (H7.out.2.trans g8)
    have hgW8 := HG5.out.trans (H7.out.2.trans g8)
    have hf8 := (H7.out.1.G g8).cell
    have KT := hide (stays_big l _ _ w8 (HS2.out.toRow.G hg28) (HH.out.1.G hgW8) HH.out.2.2.2)
    have HG8 := hide hgW8
    clear hg28 hgW8 g8 KS x7 y7 f7
    go_wp2_with fail
    refine KT.out.mono ?_
    rintro e w9 ⟨rfl, g9⟩
    have HG9 := hide g9
    clear g9 KT hf8
    go_wp2_with fail
    go_ret
    exact ⟨rfl, HG8.out.trans HG9.out⟩
  · -- the variable, then the call
    clear hHeld
    go_simp
    obtain ⟨w3, hw3⟩ : ∃ w3, w3 = (w2.alloc (.cells #[I 0, .slice none 0 0, .string { data := #[] }, .slice none 0 0] 25)).drew := ⟨_, rfl⟩
    rw [← hw3]
    have H3 : Hid (Blk w3 w2.heap.size 25 [I 0, .slice none 0 0, .string { data := #[] }, .slice none 0 0] ∧ G w2 w3) := by rw [hw3]; exact ⟨(Blk.new w2 [I 0, .slice none 0 0, .string { data := #[] }, .slice none 0 0] 25).drew, ((G.refl w2).alloc _).drew⟩
    have HB3 := hide (HB2.out.G H3.out.2)
    obtain ⟨xb, hxb⟩ : ∃ xb, xb = w2.heap.size := ⟨_, rfl⟩
    rw [← hxb] at H3
    try rw [show w2.drew.heap.size = xb from hxb.symm]
    try rw [← hxb]
    have HXB := hide hxb
    clear hw3 hxb
    refine hK.out _ _ (HB3.out.cell) (fun hHeld => ?_)
    clear hK K
    try simp only [Act.put, List.getElem_toArray, List.getElem_cons_zero, List.getElem_cons_succ, List.setIfInBounds_toArray, List.set_cons_zero, List.set_cons_succ]
    refine wpAnyH_ready (rs := [10]) (by kernel_rfl) (by simp) (AllReadyH.cons rfl (fun K hK => ?_) AllReadyH.nil)
    clear hHeld
    go_simp
    refine (KG.out _ H3.out.2).mono ?_
    rintro e w4 ⟨v3, rfl, hv3, hg3⟩
    obtain ⟨xa, xn, xc, xa', xn', xc', ev⟩ := (hv3 (fun _ => False) w4 (fun _ h => h.elim) (Chg.refl _ _)).form
    subst ev
    have HB4 := hide (HB3.out.G hg3)
    have HV3 := hide (And.intro hv3 hg3)
    have HC4 := hide (H3.out.1.G hg3)
    clear hv3 hg3 KG
    refine hK.out _ _ (HB4.out.cell) (fun hHeld => ?_)
    clear hK K
    try simp only [Act.put, List.getElem_toArray, List.getElem_cons_zero, List.getElem_cons_succ, List.setIfInBounds_toArray, List.set_cons_zero, List.set_cons_succ]
    refine wpAnyH_take (i := 11) (v := ?_) rfl (by kernel_rfl) (by kernel_rfl) (by kernel_rfl) (fun _ _ _ h => h) (Or.inl ⟨by rfl, ?_⟩) hHeld ?_
    rotate_left 1
    · (intro w hSw; have q1 := hSw; (try dsimp only at hSw); go_simp; try with_reducible rfl)
    try simp only [Act.put, List.getElem_toArray, List.getElem_cons_zero, List.getElem_cons_succ, List.setIfInBounds_toArray, List.set_cons_zero, List.set_cons_succ]
    refine wpAnyH_take (i := 12) (v := ?_) rfl (by kernel_rfl) (by kernel_rfl) (by kernel_rfl) (fun _ _ _ h => h) (Or.inl ⟨by rfl, ?_⟩) hHeld ?_
    rotate_left 1
    · (intro w hSw; have q1 := hSw; (try dsimp only at hSw); go_simp; try with_reducible rfl)
    try simp only [Act.put, List.getElem_toArray, List.getElem_cons_zero, List.getElem_cons_succ, List.setIfInBounds_toArray, List.set_cons_zero, List.set_cons_succ]
    refine wpAnyH_take (i := 13) (v := ?_) rfl (by kernel_rfl) (by kernel_rfl) (by kernel_rfl) (fun _ _ _ h => h) (Or.inl ⟨by rfl, ?_⟩) hHeld ?_
    rotate_left 1
    · (intro w hSw; have q1 := hSw; (try dsimp only at hSw); go_simp; try with_reducible rfl)
    try simp only [Act.put, List.getElem_toArray, List.getElem_cons_zero, List.getElem_cons_succ, List.setIfInBounds_toArray, List.set_cons_zero, List.set_cons_succ]
    refine wpAnyH_ready (rs := [15]) (by kernel_rfl) (by simp) (AllReadyH.cons rfl (fun K hK => ?_) AllReadyH.nil)
    clear hHeld
    have hcR := HC4.out.cell
    have hzR := HC4.out.frozen
    go_simp
    have HX5 : Hid (Blk (WS w4 xb (I q.k) (.slice xa xn xc) (.string q.t) (.slice xa' xn' xc')) W.heap.size 35 [I c, I k, .slice p l.length cap] ∧ Blk (WS w4 xb (I q.k) (.slice xa xn xc) (.string q.t) (.slice xa' xn' xc')) xb 25 [I q.k, .slice xa xn xc, .string q.t, .slice xa' xn' xc'] ∧ G w2 (WS w4 xb (I q.k) (.slice xa xn xc) (.string q.t) (.slice xa' xn' xc')) ∧ RqV (WS w4 xb (I q.k) (.slice xa xn xc) (.string q.t) (.slice xa' xn' xc')) (.agg #[I q.k, .slice xa xn xc, .string q.t, .slice xa' xn' xc']) q ∧ w2.heap.size ≤ xb) := by
      have hle : w2.heap.size ≤ xb := by have h2 := HXB.out; omega
      obtain ⟨q1, q2, q3, q4⟩ := ws_set (I q.k) (.slice xa xn xc) (.string q.t) (.slice xa' xn' xc') HB4.out HC4.out (H3.out.2.trans HV3.out.2) hle
      exact ⟨q1, q2, q3, HV3.out.1 (fun j => j = xb) _ (fun j hj => by rw [hj]; exact H3.out.1.lt) q4, hle⟩
    clear hcR hzR
    show K _ (WS w4 xb (I q.k) (.slice xa xn xc) (.string q.t) (.slice xa' xn' xc'))
    generalize WS w4 xb (I q.k) (.slice xa xn xc) (.string q.t) (.slice xa' xn' xc') = w5 at HX5 ⊢
    refine hK.out _ _ (HX5.out.1.cell) (fun hHeld => ?_)
    clear hK K
    try simp only [Act.put, List.getElem_toArray, List.getElem_cons_zero, List.getElem_cons_succ, List.setIfInBounds_toArray, List.set_cons_zero, List.set_cons_succ]
    refine wpAnyH_take (i := 16) (v := ?_) rfl (by kernel_rfl) (by kernel_rfl) (by kernel_rfl) (fun _ _ _ h => h) (Or.inl ⟨by rfl, ?_⟩) hHeld ?_
    rotate_left 1
    · (intro w hSw; have q1 := hSw; (try dsimp only at hSw); go_simp; try with_reducible rfl)
    try simp only [Act.put, List.getElem_toArray, List.getElem_cons_zero, List.getElem_cons_succ, List.setIfInBounds_toArray, List.set_cons_zero, List.set_cons_succ]
    refine wpAnyH_done (by kernel_rfl) ?_ _
    refine NoPanic.normal ?_
    clear hHeld H3 HB4 HB3 HV3 HC4 HXB
    have hG5 := HB.out.2.trans (HG2.out.1.trans HX5.out.2.2.1)
    have KR5 := hide (KR.out w5 hG5)
    have HG5 := hide hG5
    have k5 := HX5.out.1.cell
    clear hG5 KR hc b2 i1 i2 i3 i4
    go_wp2_with fail
    refine KR5.out.mono ?_
    rintro e w6 ⟨v6, rfl, hv6, hg6⟩
    have hrv := hv6 (fun _ => False) w6 (fun _ h => h.elim) (Chg.refl _ _)
    obtain ⟨ya, yn, yc, ya', yn', yc', ev⟩ := hrv.form
    subst ev
    have hA7 := (G.refl w6).alloc (.cells #[I q.k, .slice ya yn yc, .string q.t, .slice ya' yn' yc'] 25)
    have hY7 := Blk.new w6 [I q.k, .slice ya yn yc, .string q.t, .slice ya' yn' yc'] 25
    have hg7 := hg6.trans hA7
    have hX7 := HX5.out.2.1.G hg7
    have hf7 := HX5.out.1.G hg7
    have z3 := Blk.new w6 [I 0, .slice none 0 0, .string { data := #[] }, .slice none 0 0] 25
    have z4 := z3.cell
    have z5 := z3.frozen
    have x7 := hX7.cell
    have y7 := hY7.cell
    have f7 := hf7.cell
    have KS := hide (sreq_any q _ _ _ (HX5.out.2.2.2.1.G hg7) (hrv.G hA7))
    have H7 := hide (And.intro hf7 hg7)
    clear hrv hv6 hg6 hA7 hY7 hX7 hf7 hg7 z3 KR5 k5
    go_wp2_with fail
    generalize w6.alloc (.cells #[I q.k, .slice ya yn yc, .string q.t, .slice ya' yn' yc'] 25) = w7 at KS H7 x7 y7 f7 ⊢
    refine KS.out.mono ?_
    rintro e w8 ⟨rfl, g8⟩
    have hg28 := HX5.out.2.2.1.trans (H7.out.2.trans g8)
    have hgW8 := HG5.out.trans (H7.out.2.trans g8)
    have hf8 := (H7.out.1.G g8).cell
    have KT := hide (stays_big l _ _ w8 (HS2.out.toRow.G hg28) (HH.out.1.G hgW8) HH.out.2.2.2)
    have HG8 := hide hgW8
    clear hg28 hgW8 g8 KS x7 y7 f7
    go_wp2_with fail
    refine KT.out.mono ?_
    rintro e w9 ⟨rfl, g9⟩
    have HG9 := hide g9
    clear g9 KT hf8
    go_wp2_with fail
    go_ret
    exact ⟨rfl, HG8.out.trans HG9.out⟩
end Go.Proofs.YtnjeingpjoadjaaDoor
