/- Wire: WireTold. -/
import Derived.Test.YtcdjjmjhdoanlaaDoorW54
import Derived.Test.YtcdjjmjhdoanlaaDoorW55
import Derived.Test.YtcdjjmjhdoanlaaDoorW37
namespace Go.Proofs.YtcdjjmjhdoanlaaDoor
open Go.RowKit

/-- What both answer. -/
def GrR (q : Rp) (cd : Int) (w : World) (e : Ending) (w' : World) : Prop := ∃ v', e = .returned (.tuple #[v', I cd]) ∧ RpF v' ∧ dQ.r w' (parts v') q ∧ G w w'
theorem rp_form {w : World} {v : Value} {q : Rp} (hF : RpF v) (h : dQ.r w (parts v) q) : ∃ (na : Option Addr) (nn nc : Nat) (ta : Option Addr) (tn tc : Nat) (ba : Option Addr) (bn bc : Nat) (da : Option Addr) (dn dc : Nat) (ea : Option Addr) (en ec : Nat), v = .agg #[I q.dst, I q.code, .slice na nn nc, .slice ta tn tc, .slice ba bn bc, .slice da dn dc, .slice ea en ec] ∧ dQ.r w [I q.dst, I q.code, .slice na nn nc, .slice ta tn tc, .slice ba bn bc, .slice da dn dc, .slice ea en ec] q := by
  obtain ⟨k, cd, na, nn, nc, ta, tn, tc, ba, bn, bc, da, dn, dc, ea, en, ec, rfl⟩ := hF
  have h' := h
  obtain ⟨_, _, _, _, _, h0, _⟩ := h
  have h0 : [I k, I cd, .slice na nn nc, .slice ta tn tc, .slice ba bn bc, .slice da dn dc, .slice ea en ec] = _ := h0
  simp only [List.cons.injEq] at h0
  refine ⟨na, nn, nc, ta, tn, tc, ba, bn, bc, da, dn, dc, ea, en, ec, ?_, ?_⟩
  · rw [h0.1, h0.2.1]
  · rw [← h0.1, ← h0.2.1]; exact h'
theorem zRp_good : RpG zRp := ⟨by decide, by decide, ⟨by decide, fun t h => by cases h⟩, ⟨by decide, fun t h => by cases h⟩, ⟨by decide, fun t h => by cases h⟩⟩
theorem grQ_good (c k : Int) (l : List Nat) : RpG (grQ c k l) := by
  unfold grQ
  split
  · rename_i h
    unfold grC at h
    split at h
    · omega
    split at h
    · omega
    split at h
    · omega
    rename_i hl
    cases e : grB (k - 128) l with
    | none => exact zRp_good
    | some q =>
      show RpG q
      unfold grB at e
      split at e
      · rename_i q' e1
        split at e
        · cases e; exact (Pk.prp _ l q [] e1 (by omega)).2
        · cases e
      · cases e
  · exact zRp_good
set_option maxRecDepth 100000 in
set_option maxHeartbeats 1000000 in
theorem wireTold (c k : Int) (l : List Nat) (v : Value) (W : World) (hr : Rb W v l) (hb : By l) (hT : Tabs W ∧ R64 k) (hn : l.length ≤ 140737488351232) :
    Calls Tryd.prog 3 #[.agg #[I c, I k, v]] W fun e W' => e = .returned (.bool true) ∧ G W W' := by
  obtain ⟨p, cap, rfl⟩ := hr.form
  have hB := Blk.new W [I c, I k, .slice p l.length cap] 25
  have hA := (G.refl W).alloc (.cells #[I c, I k, .slice p l.length cap] 25)
  have hc := hB.cell
  have K1 := hide (room_big l _ (W.alloc (.cells #[I c, I k, .slice p l.length cap] 25)) (hr.G hA) (by omega))
  have HH := hide (And.intro hr (And.intro hb (And.intro hT hn)))
  have HB := hide (And.intro hB hA)
  clear hr hb hT hn hB hA
  go_enter Tryd.func3, Tryd.ntmps3
  go_wp2_with fail
  generalize W.alloc (.cells #[I c, I k, .slice p l.length cap] 25) = w1 at K1 HB hc ⊢
  refine K1.out.mono ?_
  rintro e w2 ⟨v2, rfl, hs2, hg2, hf2⟩
  have hl2 : (l ++ mks).length = l.length + 8 := by simp [mks]
  obtain ⟨g2, o2, c2, rfl⟩ := hs2.toRow.addr (by omega)
  have hcp := hs2.toRow.cap.1
  have hpre : Rb w2 (.slice (some ⟨g2, o2, none⟩) l.length c2) l := by
    have := Row.pre hs2.toRow l.length (by rw [hl2]; omega)
    rw [List.take_left] at this
    exact this
  rw [hl2] at hs2 hcp hf2 ⊢
  have hB2 := HB.out.1.G hg2
  have b2 := hB2.cell
  have i1 : (l.length : Int) ≤ (l.length : Int) + 8 := by omega
  have i2 : l.length ≤ c2 := by omega
  have i3 : (l.length : Int) ≤ (c2 : Int) := by omega
  have i4 : ¬ (l.length : Int) < 0 := by omega
  have hg12 := HB.out.2.trans hg2
  obtain ⟨hr, hb, hT, hn⟩ := HH.out
  obtain ⟨q, cd, HQG, KG, KR⟩ : ∃ q cd, Hid (RpG q) ∧ Hid (∀ w, G w2 w → Calls Tryd.prog 5 #[.agg #[I c, I k, .slice (some ⟨g2, o2, none⟩) l.length c2]] w (GrR q cd w)) ∧ Hid (∀ w, G W w → Calls Tryd.prog 6 #[.agg #[I c, I k, .slice p l.length cap]] w (GrR q cd w)) :=
    ⟨grQ c k l, grC c k l, grQ_good c k l, fun w g => getr_any c k l _ w (hpre.G g) hb (hT.1.G (hg12.trans g)) hT.2, fun w g => getr3_any c k l _ w (hr.G g) hb (hT.1.G g) hT.2⟩
  have HB2 := hide hB2
  have HS2 := hide hs2
  have HG2 := hide (And.intro hg2 hf2)
  clear hs2 hg2 hf2 hB2 K1 hr hb hT hn hg12 hpre hcp hl2
  go_wp2_with fail
  refine wp_region_noPanic ?_
  refine wp_region_held_drew (S := (fun V => ∀ o, V.cell? ⟨W.heap.size, o, none⟩ = ([I c, I k, .slice p l.length cap] : List Value)[o]?)) (by kernel_rfl) (HB2.out.drew.cell) (fun hHeld => ?_)
  refine wpAnyH_take (i := 0) (v := ?_) rfl (by kernel_rfl) (by kernel_rfl) (by kernel_rfl) (fun _ _ _ h => h) (Or.inl ⟨by rfl, ?_⟩) hHeld ?_
  rotate_left 1
  · (intro w hSw; have q1 := hSw; (try dsimp only at hSw); go_simp; try with_reducible rfl)
  try simp only [Act.put, List.getElem_toArray, List.getElem_cons_zero, List.setIfInBounds_toArray, List.set_cons_zero, List.set_cons_succ]
  refine wpAnyH_take (i := 1) (v := ?_) rfl (by kernel_rfl) (by kernel_rfl) (by kernel_rfl) (fun _ _ _ h => h) (Or.inl ⟨by rfl, ?_⟩) hHeld ?_
  rotate_left 1
  · (intro w hSw; have q1 := hSw; (try dsimp only at hSw); go_simp; try with_reducible rfl)
  try simp only [Act.put, List.getElem_toArray, List.getElem_cons_zero, List.getElem_cons_succ, List.setIfInBounds_toArray, List.set_cons_zero, List.set_cons_succ]
  refine wpAnyH_take (i := 2) (v := ?_) rfl (by kernel_rfl) (by kernel_rfl) (by kernel_rfl) (fun _ _ _ h => h) (Or.inl ⟨by rfl, ?_⟩) hHeld ?_
  rotate_left 1
  · (intro w hSw; have q1 := hSw; (try dsimp only at hSw); go_simp; try with_reducible rfl)
  try simp only [Act.put, List.getElem_toArray, List.getElem_cons_zero, List.getElem_cons_succ, List.setIfInBounds_toArray, List.set_cons_zero, List.set_cons_succ]
  refine wpAnyH_take (i := 3) (v := ?_) rfl (by kernel_rfl) (by kernel_rfl) (by kernel_rfl) (fun _ _ _ h => h) (Or.inl ⟨by rfl, ?_⟩) hHeld ?_
  rotate_left 1
  · (intro w hSw; have q1 := hSw; (try dsimp only at hSw); go_simp; try with_reducible rfl)
  try simp only [Act.put, List.getElem_toArray, List.getElem_cons_zero, List.getElem_cons_succ, List.setIfInBounds_toArray, List.set_cons_zero, List.set_cons_succ]
  refine wpAnyH_take (i := 4) (v := ?_) rfl (by kernel_rfl) (by kernel_rfl) (by kernel_rfl) (fun _ _ _ h => h) (Or.inl ⟨by rfl, ?_⟩) hHeld ?_
  rotate_left 1
  · (intro w hSw; have q1 := hSw; (try dsimp only at hSw); go_simp; try with_reducible rfl)
  try simp only [Act.put, List.getElem_toArray, List.getElem_cons_zero, List.getElem_cons_succ, List.setIfInBounds_toArray, List.set_cons_zero, List.set_cons_succ]
  refine wpAnyH_take (i := 5) (v := ?_) rfl (by kernel_rfl) (by kernel_rfl) (by kernel_rfl) (fun _ _ _ h => h) (Or.inl ⟨by rfl, ?_⟩) hHeld ?_
  rotate_left 1
  · (intro w hSw; have q1 := hSw; (try dsimp only at hSw); go_simp; try with_reducible rfl)
  try simp only [Act.put, List.getElem_toArray, List.getElem_cons_zero, List.getElem_cons_succ, List.setIfInBounds_toArray, List.set_cons_zero, List.set_cons_succ]
  refine wpAnyH_take (i := 6) (v := ?_) rfl (by kernel_rfl) (by kernel_rfl) (by kernel_rfl) (fun _ _ _ h => h) (Or.inl ⟨by rfl, ?_⟩) hHeld ?_
  rotate_left 1
  · (intro w hSw; have q1 := hSw; (try dsimp only at hSw); go_simp; try with_reducible rfl)
  try simp only [Act.put, List.getElem_toArray, List.getElem_cons_zero, List.getElem_cons_succ, List.setIfInBounds_toArray, List.set_cons_zero, List.set_cons_succ]
  refine wpAnyH_take (i := 7) (v := ?_) rfl (by kernel_rfl) (by kernel_rfl) (by kernel_rfl) (fun _ _ _ h => h) (Or.inl ⟨by rfl, ?_⟩) hHeld ?_
  rotate_left 1
  · (intro w hSw; have q1 := hSw; (try dsimp only at hSw); go_simp; try with_reducible rfl)
  try simp only [Act.put, List.getElem_toArray, List.getElem_cons_zero, List.getElem_cons_succ, List.setIfInBounds_toArray, List.set_cons_zero, List.set_cons_succ]
  refine wpAnyH_take (i := 8) (v := ?_) rfl (by kernel_rfl) (by kernel_rfl) (by kernel_rfl) (fun _ _ _ h => h) (Or.inl ⟨by rfl, ?_⟩) hHeld ?_
  rotate_left 1
  · (intro w hSw; have q1 := hSw; (try dsimp only at hSw); go_simp; try with_reducible rfl)
  try simp only [Act.put, List.getElem_toArray, List.getElem_cons_zero, List.getElem_cons_succ, List.setIfInBounds_toArray, List.set_cons_zero, List.set_cons_succ]
  refine wpAnyH_take (i := 9) (v := ?_) rfl (by kernel_rfl) (by kernel_rfl) (by kernel_rfl) (fun _ _ _ h => h) (Or.inl ⟨by rfl, ?_⟩) hHeld ?_
  rotate_left 1
  · (intro w hSw; have q1 := hSw; (try dsimp only at hSw); go_simp; try with_reducible rfl)
  try simp only [Act.put, List.getElem_toArray, List.getElem_cons_zero, List.getElem_cons_succ, List.setIfInBounds_toArray, List.set_cons_zero, List.set_cons_succ]
  refine wpAnyH_ready (rs := [10, 14]) (by kernel_rfl) (by simp) (AllReadyH.cons rfl (fun K hK => ?_) (AllReadyH.cons rfl (fun K hK => ?_) AllReadyH.nil))
  · -- the call, then the variable
    clear hHeld
    go_simp
    refine (KG.out _ (G.refl w2).drew).mono ?_
    rintro e w3 ⟨v3, rfl, hF3, hv3, hg3⟩
    obtain ⟨xna, xnn, xnc, xta, xtn, xtc, xba, xbn, xbc, xda, xdn, xdc, xea, xen, xec, ev, hd3⟩ := rp_form hF3 hv3
    subst ev
    have HB3 := hide (HB2.out.drew.G hg3)
    have HV3 := hide (And.intro hd3 hg3)
    clear hv3 hF3 hd3 hg3 KG
    refine hK.out _ _ (HB3.out.cell) (fun hHeld => ?_)
    clear hK K
    try simp only [Act.put, List.getElem_toArray, List.getElem_cons_zero, List.getElem_cons_succ, List.setIfInBounds_toArray, List.set_cons_zero, List.set_cons_succ]
    refine wpAnyH_take (i := 11) (v := ?_) rfl (by kernel_rfl) (by kernel_rfl) (by kernel_rfl) (fun _ _ _ h => h) (Or.inl ⟨by rfl, ?_⟩) hHeld ?_
    rotate_left 1
    · (intro w hSw; have q1 := hSw; (try dsimp only at hSw); go_simp; try with_reducible rfl)
    try simp only [Act.put, List.getElem_toArray, List.getElem_cons_zero, List.getElem_cons_succ, List.setIfInBounds_toArray, List.set_cons_zero, List.set_cons_succ]
    refine wpAnyH_take (i := 12) (v := ?_) rfl (by kernel_rfl) (by kernel_rfl) (by kernel_rfl) (fun _ _ _ h => h) (Or.inl ⟨by rfl, ?_⟩) hHeld ?_
    rotate_left 1
    · (intro w hSw; have q1 := hSw; (try dsimp only at hSw); go_simp; try with_reducible rfl)
    try simp only [Act.put, List.getElem_toArray, List.getElem_cons_zero, List.getElem_cons_succ, List.setIfInBounds_toArray, List.set_cons_zero, List.set_cons_succ]
    refine wpAnyH_take (i := 13) (v := ?_) rfl (by kernel_rfl) (by kernel_rfl) (by kernel_rfl) (fun _ _ _ h => h) (Or.inl ⟨by rfl, ?_⟩) hHeld ?_
    rotate_left 1
    · (intro w hSw; have q1 := hSw; (try dsimp only at hSw); go_simp; try with_reducible rfl)
    try simp only [Act.put, List.getElem_toArray, List.getElem_cons_zero, List.getElem_cons_succ, List.setIfInBounds_toArray, List.set_cons_zero, List.set_cons_succ]
    refine wpAnyH_ready (rs := [14]) (by kernel_rfl) (by simp) (AllReadyH.cons rfl (fun K hK => ?_) AllReadyH.nil)
    clear hHeld
    go_simp
    obtain ⟨w4, hw4⟩ : ∃ w4, w4 = w3.alloc (.cells #[I 0, I 0, .slice none 0 0, .slice none 0 0, .slice none 0 0, .slice none 0 0, .slice none 0 0] 35) := ⟨_, rfl⟩
    rw [← hw4]
    have H4 : Hid (Blk w4 w3.heap.size 35 [I 0, I 0, .slice none 0 0, .slice none 0 0, .slice none 0 0, .slice none 0 0, .slice none 0 0] ∧ G w3 w4) := by rw [hw4]; exact ⟨Blk.new w3 [I 0, I 0, .slice none 0 0, .slice none 0 0, .slice none 0 0, .slice none 0 0, .slice none 0 0] 35, (G.refl w3).alloc _⟩
    have HB4 := hide (HB3.out.G H4.out.2)
    have HSZ := hide (HV3.out.2.size)
    obtain ⟨xb, hxb⟩ : ∃ xb, xb = w3.heap.size := ⟨_, rfl⟩
    rw [← hxb] at H4 ⊢
    have HXB := hide hxb
    clear hw4 hxb
    refine hK.out _ _ (HB4.out.cell) (fun hHeld => ?_)
    clear hK K
    try simp only [Act.put, List.getElem_toArray, List.getElem_cons_zero, List.getElem_cons_succ, List.setIfInBounds_toArray, List.set_cons_zero, List.set_cons_succ]
    refine wpAnyH_ready (rs := [15]) (by kernel_rfl) (by simp) (AllReadyH.cons rfl (fun K hK => ?_) AllReadyH.nil)
    clear hHeld
    have hcR := H4.out.1.cell
    have hzR := H4.out.1.frozen
    go_simp
    have HX5 : Hid (Blk (WR w4 xb (I q.dst) (I q.code) (.slice xna xnn xnc) (.slice xta xtn xtc) (.slice xba xbn xbc) (.slice xda xdn xdc) (.slice xea xen xec)) W.heap.size 25 [I c, I k, .slice p l.length cap] ∧ Blk (WR w4 xb (I q.dst) (I q.code) (.slice xna xnn xnc) (.slice xta xtn xtc) (.slice xba xbn xbc) (.slice xda xdn xdc) (.slice xea xen xec)) xb 35 [I q.dst, I q.code, .slice xna xnn xnc, .slice xta xtn xtc, .slice xba xbn xbc, .slice xda xdn xdc, .slice xea xen xec] ∧ G w2 (WR w4 xb (I q.dst) (I q.code) (.slice xna xnn xnc) (.slice xta xtn xtc) (.slice xba xbn xbc) (.slice xda xdn xdc) (.slice xea xen xec)) ∧ dQ.r (WR w4 xb (I q.dst) (I q.code) (.slice xna xnn xnc) (.slice xta xtn xtc) (.slice xba xbn xbc) (.slice xda xdn xdc) (.slice xea xen xec)) [I q.dst, I q.code, .slice xna xnn xnc, .slice xta xtn xtc, .slice xba xbn xbc, .slice xda xdn xdc, .slice xea xen xec] q ∧ w2.heap.size ≤ xb) := by
      have hle : w2.heap.size ≤ xb := by have h1 := HSZ.out; have h2 := HXB.out; have h3 : w2.drew.heap.size = w2.heap.size := rfl; omega
      obtain ⟨q1, q2, q3, q4⟩ := wr_set (I q.dst) (I q.code) (.slice xna xnn xnc) (.slice xta xtn xtc) (.slice xba xbn xbc) (.slice xda xdn xdc) (.slice xea xen xec) HB4.out (by decide) H4.out.1 ((G.refl w2).drew.trans (HV3.out.2.trans H4.out.2)) hle
      exact ⟨q1, q2, q3, dQ.keep (X := [35]) ((Kx.of_G H4.out.2).trans (Kx.one q4 H4.out.1 (by simp))) (by decide) HV3.out.1, hle⟩
    clear hcR hzR
    show K _ (WR w4 xb (I q.dst) (I q.code) (.slice xna xnn xnc) (.slice xta xtn xtc) (.slice xba xbn xbc) (.slice xda xdn xdc) (.slice xea xen xec))
    generalize (WR w4 xb (I q.dst) (I q.code) (.slice xna xnn xnc) (.slice xta xtn xtc) (.slice xba xbn xbc) (.slice xda xdn xdc) (.slice xea xen xec)) = w5 at HX5 ⊢
    refine hK.out _ _ (HX5.out.1.cell) (fun hHeld => ?_)
    clear hK K
    try simp only [Act.put, List.getElem_toArray, List.getElem_cons_zero, List.getElem_cons_succ, List.setIfInBounds_toArray, List.set_cons_zero, List.set_cons_succ]
    refine wpAnyH_take (i := 16) (v := ?_) rfl (by kernel_rfl) (by kernel_rfl) (by kernel_rfl) (fun _ _ _ h => h) (Or.inl ⟨by rfl, ?_⟩) hHeld ?_
    rotate_left 1
    · (intro w hSw; have q1 := hSw; (try dsimp only at hSw); go_simp; try with_reducible rfl)
    try simp only [Act.put, List.getElem_toArray, List.getElem_cons_zero, List.getElem_cons_succ, List.setIfInBounds_toArray, List.set_cons_zero, List.set_cons_succ]
    refine wpAnyH_done (by kernel_rfl) ?_ _
    refine NoPanic.normal ?_
    clear hHeld H4 HB4 HB3 HV3 HSZ HXB
    have hG5 := HB.out.2.trans (HG2.out.1.trans HX5.out.2.2.1)
    have KR5 := hide (KR.out w5 hG5)
    have HG5 := hide hG5
    have k5 := HX5.out.1.cell
    clear hG5 KR hc b2 i1 i2 i3 i4
    go_wp2_with fail
    refine KR5.out.mono ?_
    rintro e w6 ⟨v6, rfl, hF6, hv6, hg6⟩
    obtain ⟨yna, ynn, ync, yta, ytn, ytc, yba, ybn, ybc, yda, ydn, ydc, yea, yen, yec, ev, hd6⟩ := rp_form hF6 hv6
    subst ev
    have hA7 := (G.refl w6).alloc (.cells #[I q.dst, I q.code, .slice yna ynn ync, .slice yta ytn ytc, .slice yba ybn ybc, .slice yda ydn ydc, .slice yea yen yec] 35)
    have hY7 := Blk.new w6 [I q.dst, I q.code, .slice yna ynn ync, .slice yta ytn ytc, .slice yba ybn ybc, .slice yda ydn ydc, .slice yea yen yec] 35
    have hg7 := hg6.trans hA7
    have hX7 := HX5.out.2.1.G hg7
    have hf7 := HX5.out.1.G hg7
    have z3 := Blk.new w6 [I 0, I 0, .slice none 0 0, .slice none 0 0, .slice none 0 0, .slice none 0 0, .slice none 0 0] 35
    have z4 := z3.cell
    have z5 := z3.frozen
    have x7 := hX7.cell
    have y7 := hY7.cell
    have f7 := hf7.cell
    have KS := hide (sreply_any q _ _ _ _ _ _ _ _ _ _ _ (HQG.out.lists (dQ.keep (X := []) (Kx.of_G hg7) (fun _ _ h => by simp at h) HX5.out.2.2.2.1)) (HQG.out.lists (dQ.keep (X := []) (Kx.of_G hA7) (fun _ _ h => by simp at h) hd6)))
    have H7 := hide (And.intro hf7 hg7)
    clear hd6 hv6 hF6 hg6 hA7 hY7 hX7 hf7 hg7 z3 KR5 k5
    go_wp2_with fail
    generalize w6.alloc (.cells #[I q.dst, I q.code, .slice yna ynn ync, .slice yta ytn ytc, .slice yba ybn ybc, .slice yda ydn ydc, .slice yea yen yec] 35) = w7 at KS H7 x7 y7 f7 ⊢
    refine KS.out.mono ?_
    rintro e w8 ⟨rfl, g8⟩
    have hg28 := HX5.out.2.2.1.trans (H7.out.2.trans g8)
    have hgW8 := HG5.out.trans (H7.out.2.trans g8)
    have hf8 := (H7.out.1.G g8).cell
    have KT := hide (stays_big l _ _ w8 (HS2.out.toRow.G hg28) (HH.out.1.G hgW8) HH.out.2.2.2)
    have HG8 := hide hgW8
    clear hg28 hgW8 g8 KS x7 y7 f7
    go_wp2_with fail
    refine KT.out.mono ?_
    rintro e w9 ⟨rfl, g9⟩
    have HG9 := hide g9
    clear g9 KT hf8
    go_wp2_with fail
    go_ret
    exact ⟨rfl, HG8.out.trans HG9.out⟩
  · -- the variable, then the call
    clear hHeld
    go_simp
    obtain ⟨w3, hw3⟩ : ∃ w3, w3 = (w2.alloc (.cells #[I 0, I 0, .slice none 0 0, .slice none 0 0, .slice none 0 0, .slice none 0 0, .slice none 0 0] 35)).drew := ⟨_, rfl⟩
    rw [← hw3]
    have H3 : Hid (Blk w3 w2.heap.size 35 [I 0, I 0, .slice none 0 0, .slice none 0 0, .slice none 0 0, .slice none 0 0, .slice none 0 0] ∧ G w2 w3) := by rw [hw3]; exact ⟨(Blk.new w2 [I 0, I 0, .slice none 0 0, .slice none 0 0, .slice none 0 0, .slice none 0 0, .slice none 0 0] 35).drew, ((G.refl w2).alloc _).drew⟩
    have HB3 := hide (HB2.out.G H3.out.2)
    obtain ⟨xb, hxb⟩ : ∃ xb, xb = w2.heap.size := ⟨_, rfl⟩
    rw [← hxb] at H3
    try rw [show w2.drew.heap.size = xb from hxb.symm]
    try rw [← hxb]
    have HXB := hide hxb
    clear hw3 hxb
    refine hK.out _ _ (HB3.out.cell) (fun hHeld => ?_)
    clear hK K
    try simp only [Act.put, List.getElem_toArray, List.getElem_cons_zero, List.getElem_cons_succ, List.setIfInBounds_toArray, List.set_cons_zero, List.set_cons_succ]
    refine wpAnyH_ready (rs := [10]) (by kernel_rfl) (by simp) (AllReadyH.cons rfl (fun K hK => ?_) AllReadyH.nil)
    clear hHeld
    go_simp
    refine (KG.out _ H3.out.2).mono ?_
    rintro e w4 ⟨v3, rfl, hF3, hv3, hg3⟩
    obtain ⟨xna, xnn, xnc, xta, xtn, xtc, xba, xbn, xbc, xda, xdn, xdc, xea, xen, xec, ev, hd3⟩ := rp_form hF3 hv3
    subst ev
    have HB4 := hide (HB3.out.G hg3)
    have HV3 := hide (And.intro hd3 hg3)
    have HC4 := hide (H3.out.1.G hg3)
    clear hv3 hF3 hd3 hg3 KG
    refine hK.out _ _ (HB4.out.cell) (fun hHeld => ?_)
    clear hK K
    try simp only [Act.put, List.getElem_toArray, List.getElem_cons_zero, List.getElem_cons_succ, List.setIfInBounds_toArray, List.set_cons_zero, List.set_cons_succ]
    refine wpAnyH_take (i := 11) (v := ?_) rfl (by kernel_rfl) (by kernel_rfl) (by kernel_rfl) (fun _ _ _ h => h) (Or.inl ⟨by rfl, ?_⟩) hHeld ?_
    rotate_left 1
    · (intro w hSw; have q1 := hSw; (try dsimp only at hSw); go_simp; try with_reducible rfl)
    try simp only [Act.put, List.getElem_toArray, List.getElem_cons_zero, List.getElem_cons_succ, List.setIfInBounds_toArray, List.set_cons_zero, List.set_cons_succ]
    refine wpAnyH_take (i := 12) (v := ?_) rfl (by kernel_rfl) (by kernel_rfl) (by kernel_rfl) (fun _ _ _ h => h) (Or.inl ⟨by rfl, ?_⟩) hHeld ?_
    rotate_left 1
    · (intro w hSw; have q1 := hSw; (try dsimp only at hSw); go_simp; try with_reducible rfl)
    try simp only [Act.put, List.getElem_toArray, List.getElem_cons_zero, List.getElem_cons_succ, List.setIfInBounds_toArray, List.set_cons_zero, List.set_cons_succ]
    refine wpAnyH_take (i := 13) (v := ?_) rfl (by kernel_rfl) (by kernel_rfl) (by kernel_rfl) (fun _ _ _ h => h) (Or.inl ⟨by rfl, ?_⟩) hHeld ?_
    rotate_left 1
    · (intro w hSw; have q1 := hSw; (try dsimp only at hSw); go_simp; try with_reducible rfl)
    try simp only [Act.put, List.getElem_toArray, List.getElem_cons_zero, List.getElem_cons_succ, List.setIfInBounds_toArray, List.set_cons_zero, List.set_cons_succ]
    refine wpAnyH_ready (rs := [15]) (by kernel_rfl) (by simp) (AllReadyH.cons rfl (fun K hK => ?_) AllReadyH.nil)
    clear hHeld
    have hcR := HC4.out.cell
    have hzR := HC4.out.frozen
    go_simp
    have HX5 : Hid (Blk (WR w4 xb (I q.dst) (I q.code) (.slice xna xnn xnc) (.slice xta xtn xtc) (.slice xba xbn xbc) (.slice xda xdn xdc) (.slice xea xen xec)) W.heap.size 25 [I c, I k, .slice p l.length cap] ∧ Blk (WR w4 xb (I q.dst) (I q.code) (.slice xna xnn xnc) (.slice xta xtn xtc) (.slice xba xbn xbc) (.slice xda xdn xdc) (.slice xea xen xec)) xb 35 [I q.dst, I q.code, .slice xna xnn xnc, .slice xta xtn xtc, .slice xba xbn xbc, .slice xda xdn xdc, .slice xea xen xec] ∧ G w2 (WR w4 xb (I q.dst) (I q.code) (.slice xna xnn xnc) (.slice xta xtn xtc) (.slice xba xbn xbc) (.slice xda xdn xdc) (.slice xea xen xec)) ∧ dQ.r (WR w4 xb (I q.dst) (I q.code) (.slice xna xnn xnc) (.slice xta xtn xtc) (.slice xba xbn xbc) (.slice xda xdn xdc) (.slice xea xen xec)) [I q.dst, I q.code, .slice xna xnn xnc, .slice xta xtn xtc, .slice xba xbn xbc, .slice xda xdn xdc, .slice xea xen xec] q ∧ w2.heap.size ≤ xb) := by
      have hle : w2.heap.size ≤ xb := by have h2 := HXB.out; omega
      obtain ⟨q1, q2, q3, q4⟩ := wr_set (I q.dst) (I q.code) (.slice xna xnn xnc) (.slice xta xtn xtc) (.slice xba xbn xbc) (.slice xda xdn xdc) (.slice xea xen xec) HB4.out (by decide) HC4.out (H3.out.2.trans HV3.out.2) hle
      exact ⟨q1, q2, q3, dQ.keep (X := [35]) (Kx.one q4 HC4.out (by simp)) (by decide) HV3.out.1, hle⟩
    clear hcR hzR
    show K _ (WR w4 xb (I q.dst) (I q.code) (.slice xna xnn xnc) (.slice xta xtn xtc) (.slice xba xbn xbc) (.slice xda xdn xdc) (.slice xea xen xec))
    generalize (WR w4 xb (I q.dst) (I q.code) (.slice xna xnn xnc) (.slice xta xtn xtc) (.slice xba xbn xbc) (.slice xda xdn xdc) (.slice xea xen xec)) = w5 at HX5 ⊢
    refine hK.out _ _ (HX5.out.1.cell) (fun hHeld => ?_)
    clear hK K
    try simp only [Act.put, List.getElem_toArray, List.getElem_cons_zero, List.getElem_cons_succ, List.setIfInBounds_toArray, List.set_cons_zero, List.set_cons_succ]
    refine wpAnyH_take (i := 16) (v := ?_) rfl (by kernel_rfl) (by kernel_rfl) (by kernel_rfl) (fun _ _ _ h => h) (Or.inl ⟨by rfl, ?_⟩) hHeld ?_
    rotate_left 1
    · (intro w hSw; have q1 := hSw; (try dsimp only at hSw); go_simp; try with_reducible rfl)
    try simp only [Act.put, List.getElem_toArray, List.getElem_cons_zero, List.getElem_cons_succ, List.setIfInBounds_toArray, List.set_cons_zero, List.set_cons_succ]
    refine wpAnyH_done (by kernel_rfl) ?_ _
    refine NoPanic.normal ?_
    clear hHeld H3 HB4 HB3 HV3 HC4 HXB
    have hG5 := HB.out.2.trans (HG2.out.1.trans HX5.out.2.2.1)
    have KR5 := hide (KR.out w5 hG5)
    have HG5 := hide hG5
    have k5 := HX5.out.1.cell
    clear hG5 KR hc b2 i1 i2 i3 i4
    go_wp2_with fail
    refine KR5.out.mono ?_
    rintro e w6 ⟨v6, rfl, hF6, hv6, hg6⟩
    obtain ⟨yna, ynn, ync, yta, ytn, ytc, yba, ybn, ybc, yda, ydn, ydc, yea, yen, yec, ev, hd6⟩ := rp_form hF6 hv6
    subst ev
    have hA7 := (G.refl w6).alloc (.cells #[I q.dst, I q.code, .slice yna ynn ync, .slice yta ytn ytc, .slice yba ybn ybc, .slice yda ydn ydc, .slice yea yen yec] 35)
    have hY7 := Blk.new w6 [I q.dst, I q.code, .slice yna ynn ync, .slice yta ytn ytc, .slice yba ybn ybc, .slice yda ydn ydc, .slice yea yen yec] 35
    have hg7 := hg6.trans hA7
    have hX7 := HX5.out.2.1.G hg7
    have hf7 := HX5.out.1.G hg7
    have z3 := Blk.new w6 [I 0, I 0, .slice none 0 0, .slice none 0 0, .slice none 0 0, .slice none 0 0, .slice none 0 0] 35
    have z4 := z3.cell
    have z5 := z3.frozen
    have x7 := hX7.cell
    have y7 := hY7.cell
    have f7 := hf7.cell
    have KS := hide (sreply_any q _ _ _ _ _ _ _ _ _ _ _ (HQG.out.lists (dQ.keep (X := []) (Kx.of_G hg7) (fun _ _ h => by simp at h) HX5.out.2.2.2.1)) (HQG.out.lists (dQ.keep (X := []) (Kx.of_G hA7) (fun _ _ h => by simp at h) hd6)))
    have H7 := hide (And.intro hf7 hg7)
    clear hd6 hv6 hF6 hg6 hA7 hY7 hX7 hf7 hg7 z3 KR5 k5
    go_wp2_with fail
    generalize w6.alloc (.cells #[I q.dst, I q.code, .slice yna ynn ync, .slice yta ytn ytc, .slice yba ybn ybc, .slice yda ydn ydc, .slice yea yen yec] 35) = w7 at KS H7 x7 y7 f7 ⊢
    refine KS.out.mono ?_
    rintro e w8 ⟨rfl, g8⟩
    have hg28 := HX5.out.2.2.1.trans (H7.out.2.trans g8)
    have hgW8 := HG5.out.trans (H7.out.2.trans g8)
    have hf8 := (H7.out.1.G g8).cell
    have KT := hide (stays_big l _ _ w8 (HS2.out.toRow.G hg28) (HH.out.1.G hgW8) HH.out.2.2.2)
    have HG8 := hide hgW8
    clear hg28 hgW8 g8 KS x7 y7 f7
    go_wp2_with fail
    refine KT.out.mono ?_
    rintro e w9 ⟨rfl, g9⟩
    have HG9 := hide g9
    clear g9 KT hf8
    go_wp2_with fail
    go_ret
    exact ⟨rfl, HG8.out.trans HG9.out⟩
end Go.Proofs.YtcdjjmjhdoanlaaDoor
