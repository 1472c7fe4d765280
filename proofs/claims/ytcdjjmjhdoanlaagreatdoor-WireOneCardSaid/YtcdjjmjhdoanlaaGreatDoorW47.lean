/- Wire: GetReply. -/
import Derived.Test.YtcdjjmjhdoanlaaGreatDoorW46
import Derived.Test.YtcdjjmjhdoanlaaGreatDoorW26
namespace Go.Proofs.YtcdjjmjhdoanlaaGreatDoor
open Go.RowKit

def RpF (v : Value) : Prop := ∃ (k cd : Int) (na : Option Addr) (nn nc : Nat) (ta : Option Addr) (tn tc : Nat) (ba : Option Addr) (bn bc : Nat) (da : Option Addr) (dn dc : Nat) (ea : Option Addr) (en ec : Nat), v = .agg #[I k, I cd, .slice na nn nc, .slice ta tn tc, .slice ba bn bc, .slice da dn dc, .slice ea en ec]
def zRp : Rp := ⟨0, 0, [], [], [], [], []⟩
theorem NRow.nil {α : Type} (D : Nst α) (ty : TypeId) (w : World) : NRow D ty w (.slice none 0 0) [] := ⟨[], Sw.nil _ _ _, rfl, fun i c x e => by simp at e⟩
theorem zRp_v (w : World) : dQ.r w [I 0, I 0, .slice none 0 0, .slice none 0 0, .slice none 0 0, .slice none 0 0, .slice none 0 0] zRp := ⟨_, _, _, _, _, rfl, Sw.nil _ _ _, Sw.nil _ _ _, NRow.nil _ _ _, NRow.nil _ _ _, NRow.nil _ _ _⟩
/-- What GetReply answers. -/
def grB (k : Int) (l : List Nat) : Option Rp := match prp k l with | some (q, []) => if q.nums.length ≤ 4096 then some q else none | _ => none
def grC (c k : Int) (l : List Nat) : Int := if c ≠ 0 then c else if ¬ (128 ≤ k ∧ k ≤ 140) then 162 else if 2097152 < l.length then 163 else if (grB (k - 128) l).isSome then 0 else 163
def grQ (c k : Int) (l : List Nat) : Rp := if grC c k l = 0 then (grB (k - 128) l).getD zRp else zRp
def GrP (c k : Int) (l : List Nat) (w : World) (e : Ending) (w' : World) : Prop := ∃ v', e = .returned (.tuple #[v', I (grC c k l)]) ∧ RpF v' ∧ dQ.r w' (parts v') (grQ c k l) ∧ G w w'
theorem GrP.bad (c k : Int) (l : List Nat) (w w' : World) (x : Int) (h : grC c k l = x) (hx : x ≠ 0) (g : G w w') : GrP c k l w (.returned (.tuple #[.agg #[I 0, I 0, .slice none 0 0, .slice none 0 0, .slice none 0 0, .slice none 0 0, .slice none 0 0], I x])) w' :=
  ⟨_, by rw [h], ⟨_, _, _, _, _, _, _, _, _, _, _, _, _, _, _, _, _, rfl⟩, by rw [grQ, h, if_neg hx]; exact zRp_v w', g⟩
abbrev WR (x : World) (rb : Nat) (a b c d e f g : Value) : World := ((((((x.setCell ⟨rb, 0, none⟩ a).setCell ⟨rb, 1, none⟩ b).setCell ⟨rb, 2, none⟩ c).setCell ⟨rb, 3, none⟩ d).setCell ⟨rb, 4, none⟩ e).setCell ⟨rb, 5, none⟩ f).setCell ⟨rb, 6, none⟩ g
theorem wr_set {w x : World} {fb rb : Nat} {t0 : TypeId} {F : List Value} {y0 y1 y2 y3 y4 y5 y6 : Value} (a b c d e f g : Value) (hB : Blk x fb t0 F) (ht : t0 ≠ 41) (hC : Blk x rb 41 [y0, y1, y2, y3, y4, y5, y6]) (hg : G w x) (hrb : w.heap.size ≤ rb) : Blk (WR x rb a b c d e f g) fb t0 F ∧ Blk (WR x rb a b c d e f g) rb 41 [a, b, c, d, e, f, g] ∧ G w (WR x rb a b c d e f g) ∧ Chg (fun k => k = rb) x (WR x rb a b c d e f g) := by
  have hne : fb ≠ rb := hB.ne hC ht
  exact ⟨((((((hB.off hne).off hne).off hne).off hne).off hne).off hne).off hne, ((((((hC.set 0 a).set 1 b).set 2 c).set 3 d).set 4 e).set 5 f).set 6 g, ((((((hg.setCell hrb _).setCell hrb _).setCell hrb _).setCell hrb _).setCell hrb _).setCell hrb _).setCell hrb _,
    (((((((chg_setCell (F := fun k => k = rb) (b := rb) (o := 0) _ (a) (.inl rfl)).trans (chg_setCell (F := fun k => k = rb) (b := rb) (o := 1) _ (b) (.inl rfl))).trans (chg_setCell (F := fun k => k = rb) (b := rb) (o := 2) _ (c) (.inl rfl))).trans (chg_setCell (F := fun k => k = rb) (b := rb) (o := 3) _ (d) (.inl rfl))).trans (chg_setCell (F := fun k => k = rb) (b := rb) (o := 4) _ (e) (.inl rfl))).trans (chg_setCell (F := fun k => k = rb) (b := rb) (o := 5) _ (f) (.inl rfl))).trans (chg_setCell (F := fun k => k = rb) (b := rb) (o := 6) _ (g) (.inl rfl)))⟩
theorem ret_p (tmps : Array Value) (W : World) (rb : Nat) (cs : List Value) (c : Int) (hp : tmps.getD 2 undef = .pointer (some ⟨rb, 0, none⟩)) (hc : tmps.getD 3 undef = I c) (hr : Blk W rb 41 cs) (hl : cs.length = 7) :
    (results Tryz.f12 tmps).run Tryz.prog W = .ok (.tuple #[.agg cs.toArray, I c]) W := by
  rw [results_cell_tmp Tryz.results12, hp, hc]
  have h := run_loadVar_mid (P := Tryz.prog) W rb 0 41 cs _ (by have := hr.range 0 7; rw [List.drop_zero, List.take_of_length_le (by omega)] at this; exact this) Tryz.underlying41 rfl (by rw [hl]; kernel_rfl)
  simp only [asAddr, Sem.run_pure, Result.andThen_ok, h]
set_option maxRecDepth 100000 in
set_option maxHeartbeats 1000000 in
theorem answers_any (k : Int) (w : World) : Calls Tryz.prog 25 #[I k] w fun e w' => e = .returned (.bool (decide (0 ≤ k ∧ k ≤ 12))) ∧ w' = w := by
  by_cases c0 : k = 0
  · subst c0
    go_enter Tryz.func25, Tryz.ntmps25
    go_wp2_with fail
    go_ret
    exact ⟨rfl, rfl⟩
  · have i0 : (k == 0) = false := beq_eq_false_iff_ne.2 c0
    have KA := hide (asks_any k w)
    have e : decide (0 ≤ k ∧ k ≤ 12) = decide (1 ≤ k ∧ k ≤ 12) := by rw [decide_eq_decide]; omega
    rw [e]
    generalize decide (1 ≤ k ∧ k ≤ 12) = q at KA ⊢
    clear c0 e
    go_enter Tryz.func25, Tryz.ntmps25
    go_wp2_with fail
    refine KA.out.mono ?_
    rintro e w1 ⟨rfl, hw⟩
    subst hw
    go_wp2_with fail
    go_ret
    exact ⟨rfl, rfl⟩
set_option maxRecDepth 100000 in
set_option maxHeartbeats 1000000 in
theorem rmayp_any (w : World) (v : Value) (q : Rp) (hv : RpF v) (hq : dQ.r w (parts v) q) : Calls Tryz.prog 27 #[v] w fun e w' => e = .returned (.bool (decide (q.nums.length ≤ 4096))) ∧ G w w' := by
  obtain ⟨k, cd, na, nn, nc, ta, tn, tc, ba, bn, bc, da, dn, dc, ea, en, ec, rfl⟩ := hv
  obtain ⟨a, b, c, d, e, h0, h1, _⟩ := hq
  have h0 : [I k, I cd, .slice na nn nc, .slice ta tn tc, .slice ba bn bc, .slice da dn dc, .slice ea en ec] = _ := h0
  simp only [List.cons.injEq] at h0
  obtain ⟨_, _, rfl, _⟩ := h0
  obtain ⟨xa, xc, hx⟩ := h1.form
  injection hx with hx1 hx2 hx3
  subst hx2
  generalize q.nums.length = m
  clear h1
  by_cases c : m ≤ 4096
  · have i1 : (m : Int) ≤ 4096 := by omega
    rw [decide_eq_true c]
    go_enter Tryz.func27, Tryz.ntmps27
    go_wp2_with fail
    go_ret
    exact ⟨rfl, (G.refl _).alloc _⟩
  · have i1 : ¬ (m : Int) ≤ 4096 := by omega
    rw [decide_eq_false c]
    go_enter Tryz.func27, Tryz.ntmps27
    go_wp2_with fail
    go_ret
    exact ⟨rfl, (G.refl _).alloc _⟩
set_option maxRecDepth 100000 in
set_option maxHeartbeats 1000000 in
theorem getr_any (c k : Int) (l : List Nat) (v : Value) (w : World) (hr : Rb w v l) (hb : By l) (hT : Tabs w) (hk : R64 k) :
    Calls Tryz.prog 12 #[.agg #[I c, I k, v]] w (GrP c k l w) := by
  obtain ⟨p, cap, rfl⟩ := hr.form
  obtain ⟨w2, hw2⟩ : ∃ w2, w2 = (w.alloc (.cells #[I c, I k, .slice p l.length cap] 25)).alloc (.cells #[I 0, I 0, .slice none 0 0, .slice none 0 0, .slice none 0 0, .slice none 0 0, .slice none 0 0] 41) := ⟨_, rfl⟩
  have hA2 : G w w2 := by rw [hw2]; exact ((G.refl w).alloc _).alloc _
  have hB2 : Blk w2 w.heap.size 25 [I c, I k, .slice p l.length cap] := by rw [hw2]; exact (Blk.new w [I c, I k, .slice p l.length cap] 25).G ((G.refl _).alloc _)
  have hC2 : Blk w2 (w.heap.size + 1) 41 [I 0, I 0, .slice none 0 0, .slice none 0 0, .slice none 0 0, .slice none 0 0, .slice none 0 0] := by
    have := Blk.new (w.alloc (.cells #[I c, I k, .slice p l.length cap] 25)) [I 0, I 0, .slice none 0 0, .slice none 0 0, .slice none 0 0, .slice none 0 0, .slice none 0 0] 41
    rw [hw2]
    simpa using this
  have HA := hide hA2
  have HB := hide (And.intro hB2 hC2)
  have b2 := hB2.cell
  have b3 := hC2.cell
  have b4 := hC2.frozen
  have HEW : Hid ((w.alloc (.cells #[I c, I k, .slice p l.length cap] 25)).alloc (.cells #[I 0, I 0, .slice none 0 0, .slice none 0 0, .slice none 0 0, .slice none 0 0, .slice none 0 0] 41) = w2) := hw2.symm
  have hbx := b2
  rw [hw2] at hbx
  by_cases c0 : c ≠ 0
  · have d0 : (c != 0) = true := bne_iff_ne.2 c0
    have HC : Hid (grC c k l = c) := by show _ = _; unfold grC; rw [if_pos c0]
    have HN0 := hide c0
    clear hr hb hT hk hA2 hB2 hC2 hw2 c0
    go_enter Tryz.func12, Tryz.ntmps12
    go_wp2_with fail
    rw [HEW.out]
    clear hbx
    refine wp_region_noPanic ?_
    refine wp_region_held_drew (S := (fun V => ∀ o, V.cell? ⟨w.heap.size, o, none⟩ = ([I c, I k, .slice p l.length cap] : List Value)[o]?)) (by kernel_rfl) (HB.out.1.drew.cell) (fun hHeld => ?_)
    refine wpAnyH_take (i := 0) (v := ?_) rfl (by kernel_rfl) (by kernel_rfl) (by kernel_rfl) (fun _ _ _ h => h) (Or.inl ⟨by rfl, ?_⟩) hHeld ?_
    rotate_left 1
    · (intro w hSw; (try dsimp only at hSw); go_simp; try with_reducible rfl)
    try simp only [Act.put, List.getElem_toArray, List.getElem_cons_zero, List.setIfInBounds_toArray, List.set_cons_zero, List.set_cons_succ]
    refine wpAnyH_take (i := 1) (v := ?_) rfl (by kernel_rfl) (by kernel_rfl) (by kernel_rfl) (fun _ _ _ h => h) (Or.inl ⟨by rfl, ?_⟩) hHeld ?_
    rotate_left 1
    · (intro w hSw; (try dsimp only at hSw); go_simp; try with_reducible rfl)
    try simp only [Act.put, List.getElem_toArray, List.getElem_cons_zero, List.getElem_cons_succ, List.setIfInBounds_toArray, List.set_cons_zero, List.set_cons_succ]
    refine wpAnyH_take (i := 2) (v := ?_) rfl (by kernel_rfl) (by kernel_rfl) (by kernel_rfl) (fun _ _ _ h => h) (Or.inl ⟨by rfl, ?_⟩) hHeld ?_
    rotate_left 1
    · (intro w hSw; have q1 := hSw; go_simp; try with_reducible rfl)
    try simp only [Act.put, List.getElem_toArray, List.getElem_cons_zero, List.getElem_cons_succ, List.setIfInBounds_toArray, List.set_cons_zero, List.set_cons_succ]
    refine wpAnyH_ready (rs := [3]) (by kernel_rfl) (by simp) (AllReadyH.cons rfl (fun K hK => ?_) AllReadyH.nil)
    clear hHeld
    have hcR : ∀ o, w2.drew.cell? ⟨w.heap.size + 1, o, none⟩ = _ := HB.out.2.drew.cell
    have hzR := HB.out.2.drew.frozen
    go_simp
    have HQ : Hid (Blk (WR w2 (w.heap.size + 1) (I 0) (I 0) (.slice none 0 0) (.slice none 0 0) (.slice none 0 0) (.slice none 0 0) (.slice none 0 0)).drew w.heap.size 25 [I c, I k, .slice p l.length cap] ∧ Blk (WR w2 (w.heap.size + 1) (I 0) (I 0) (.slice none 0 0) (.slice none 0 0) (.slice none 0 0) (.slice none 0 0) (.slice none 0 0)).drew (w.heap.size + 1) 41 [I 0, I 0, .slice none 0 0, .slice none 0 0, .slice none 0 0, .slice none 0 0, .slice none 0 0] ∧ G w (WR w2 (w.heap.size + 1) (I 0) (I 0) (.slice none 0 0) (.slice none 0 0) (.slice none 0 0) (.slice none 0 0) (.slice none 0 0)).drew) := by
      obtain ⟨q1, q2, q3, _⟩ := wr_set (I 0) (I 0) (.slice none 0 0) (.slice none 0 0) (.slice none 0 0) (.slice none 0 0) (.slice none 0 0) HB.out.1 (by decide) HB.out.2 HA.out (Nat.le_succ _)
      exact ⟨q1.drew, q2.drew, q3.drew⟩
    clear hcR hzR
    generalize (WR w2 (w.heap.size + 1) (I 0) (I 0) (.slice none 0 0) (.slice none 0 0) (.slice none 0 0) (.slice none 0 0) (.slice none 0 0)).drew = x9 at HQ ⊢
    refine hK.out _ _ (HQ.out.1.cell) (fun hHeld => ?_)
    clear hK K
    try simp only [Act.put, List.getElem_toArray, List.getElem_cons_zero, List.getElem_cons_succ, List.setIfInBounds_toArray, List.set_cons_zero, List.set_cons_succ]
    refine wpAnyH_take (i := 4) (v := ?_) rfl (by kernel_rfl) (by kernel_rfl) (by kernel_rfl) (fun _ _ _ h => h) (Or.inl ⟨by rfl, ?_⟩) hHeld ?_
    rotate_left 1
    · (intro w hSw; (try dsimp only at hSw); go_simp; try with_reducible rfl)
    try simp only [Act.put, List.getElem_toArray, List.getElem_cons_zero, List.getElem_cons_succ, List.setIfInBounds_toArray, List.set_cons_zero, List.set_cons_succ]
    refine wpAnyH_done (by kernel_rfl) ?_ _
    refine NoPanic.normal ?_
    go_wp2_with fail
    exact bodyPost_ret_by (v := .tuple #[.agg #[I 0, I 0, .slice none 0 0, .slice none 0 0, .slice none 0 0, .slice none 0 0, .slice none 0 0], I c]) (ret_p _ _ (w.heap.size + 1) [I 0, I 0, .slice none 0 0, .slice none 0 0, .slice none 0 0, .slice none 0 0, .slice none 0 0] c rfl rfl HQ.out.2.1 rfl) rfl (GrP.bad c k l w x9 c HC.out HN0.out HQ.out.2.2)
  · have hc0 : c = 0 := Classical.not_not.1 c0
    subst hc0
    have HZ : ∀ (x : World), Blk x w.heap.size 25 [I 0, I k, .slice p l.length cap] → Blk x (w.heap.size + 1) 41 [I 0, I 0, .slice none 0 0, .slice none 0 0, .slice none 0 0, .slice none 0 0, .slice none 0 0] → G w x → ∀ y : Int, grC 0 k l = y → y ≠ 0 → Hid (Blk (WR x (w.heap.size + 1) (I 0) (I 0) (.slice none 0 0) (.slice none 0 0) (.slice none 0 0) (.slice none 0 0) (.slice none 0 0)) (w.heap.size + 1) 41 [I 0, I 0, .slice none 0 0, .slice none 0 0, .slice none 0 0, .slice none 0 0, .slice none 0 0] ∧ GrP 0 k l w (.returned (.tuple #[.agg #[I 0, I 0, .slice none 0 0, .slice none 0 0, .slice none 0 0, .slice none 0 0, .slice none 0 0], I y])) (WR x (w.heap.size + 1) (I 0) (I 0) (.slice none 0 0) (.slice none 0 0) (.slice none 0 0) (.slice none 0 0) (.slice none 0 0))) := fun x h1 h2 h3 y h4 h5 => by
      obtain ⟨_, q2, q3, _⟩ := wr_set (I 0) (I 0) (.slice none 0 0) (.slice none 0 0) (.slice none 0 0) (.slice none 0 0) (.slice none 0 0) h1 (by decide) h2 h3 (Nat.le_succ _)
      exact ⟨q2, GrP.bad 0 k l w _ y h4 h5 q3⟩
    by_cases cL : k < 128
    · have HF : Hid (grC 0 k l = 162) := by show _ = _; unfold grC; rw [if_neg (by simp), if_pos (by omega)]
      clear hr hb hT hk hA2 hB2 hC2 hw2 c0 HZ
      go_enter Tryz.func12, Tryz.ntmps12
      go_wp2_with fail
      rw [HEW.out]
      clear hbx
      go_wp2_with fail
      exact bodyPost_ret_by (v := .tuple #[.agg #[I 0, I 0, .slice none 0 0, .slice none 0 0, .slice none 0 0, .slice none 0 0, .slice none 0 0], I 162]) (ret_p _ _ (w.heap.size + 1) [I 0, I 0, .slice none 0 0, .slice none 0 0, .slice none 0 0, .slice none 0 0, .slice none 0 0] 162 rfl rfl HB.out.2 rfl) rfl (GrP.bad 0 k l w w2 162 HF.out (by decide) HA.out)
    have dL : decide (k < 128) = false := decide_eq_false cL
    have wk : wrap64 (k - 128) = k - 128 := by have h1 := hk.1; have h2 := hk.2; unfold wrap64; omega
    have KA := hide (answers_any (k - 128) w2)
    by_cases cK : 128 ≤ k ∧ k ≤ 140
    · rw [decide_eq_true (show 0 ≤ k - 128 ∧ k - 128 ≤ 12 by omega)] at KA
      by_cases cl : 2097152 < l.length
      · have i1 : (2097152 : Int) < (l.length : Int) := by omega
        have HF := HZ w2 HB.out.1 HB.out.2 HA.out 163 (by unfold grC; rw [if_neg (by simp), if_neg (not_not_intro cK), if_pos cl]) (by decide)
        clear hr hb hT hk hA2 hB2 hC2 hw2 c0 HZ cK cl cL
        go_enter Tryz.func12, Tryz.ntmps12
        go_wp2_with fail
        rw [HEW.out]
        clear hbx
        try rw [wk]
        refine KA.out.mono ?_
        rintro e w3 ⟨rfl, hw⟩
        subst w3
        clear KA
        go_wp2_with fail
        exact bodyPost_ret_by (v := .tuple #[.agg #[I 0, I 0, .slice none 0 0, .slice none 0 0, .slice none 0 0, .slice none 0 0, .slice none 0 0], I 163]) (ret_p _ _ (w.heap.size + 1) [I 0, I 0, .slice none 0 0, .slice none 0 0, .slice none 0 0, .slice none 0 0, .slice none 0 0] 163 rfl rfl HF.out.1 rfl) rfl HF.out.2
      · have i1 : ¬ (2097152 : Int) < (l.length : Int) := by omega
        have hs4 : Sc w2.heap.size (w2.alloc (.cells #[.slice p l.length cap, .bool false] 62)) w2.heap.size (some l) :=
          ⟨_, false, l, Blk.new w2 [.slice p l.length cap, .bool false] 62, (hr.G hA2).G ((G.refl w2).alloc _), hb, by omega, .inr ⟨rfl, rfl⟩, fun g o n c2 e q => by
            cases e
            obtain ⟨cs, q1, q2⟩ := (hr.G hA2).at (List.getElem?_eq_getElem (List.length_pos_iff.2 q))
            have q1 : cs = [bv _] := q1
            rw [q1] at q2
            exact cell_lt (q2 0 _ rfl)⟩
        have hA4 := (G.refl w2).alloc (.cells #[.slice p l.length cap, .bool false] 62)
        have KR := hide (reply2_any (k - 128) w2.heap.size _ w2.heap.size (some l) hs4 hA4.size ⟨w, hT, HA.out.trans hA4, hA2.size⟩)
        have hB4 := HB.out.1.G hA4
        have hC4 := HB.out.2.G hA4
        have b5 := hB4.cell
        have H4 := hide (And.intro hB4 (And.intro hC4 (HA.out.trans hA4)))
        have HK := hide (And.intro cK cl)
        clear hr hb hT hk hA2 hB2 hC2 hw2 c0 cK cl hs4 hA4 hB4 hC4 cL
        go_enter Tryz.func12, Tryz.ntmps12
        go_wp2_with fail
        rw [HEW.out]
        clear hbx
        try rw [wk]
        refine KA.out.mono ?_
        rintro e w3 ⟨rfl, hw⟩
        subst w3
        clear KA
        go_wp2_with fail
        try rw [wk]
        generalize w2.alloc (.cells #[.slice p l.length cap, .bool false] 62) = w4 at KR H4 b5 ⊢
        refine KR.out.mono ?_
        rintro e w5 ⟨v5, rfl, ⟨na, nn, nc, ta, tn, tc, ba, bn, bc, da, dn, dc, ea, en, ec, cd, rfl⟩, hc5, hs5, hv5⟩
        obtain ⟨hB4, hC4, hg4⟩ := H4.out
        have hsz : w.heap.size + 1 < w2.heap.size := HB.out.2.lt
        have hA6 := (G.refl w5).alloc (.cells #[I (k - 128), I cd, .slice na nn nc, .slice ta tn tc, .slice ba bn bc, .slice da dn dc, .slice ea en ec] 41)
        have hB5 := (hB4.chg hc5 (by omega : ¬ w.heap.size = w2.heap.size)).G hA6
        have hC5 := (hC4.chg hc5 (by omega : ¬ w.heap.size + 1 = w2.heap.size)).G hA6
        have hQ5 := Blk.new w5 [I (k - 128), I cd, .slice na nn nc, .slice ta tn tc, .slice ba bn bc, .slice da dn dc, .slice ea en ec] 41
        have hg5 : G w w5 := ⟨hc5.os.trans hg4.os, hc5.tape.trans hg4.tape, hc5.output.trans hg4.output, Nat.le_trans hg4.size hc5.size, fun i hi => (hc5.block i (Nat.lt_of_lt_of_le hi hg4.size) (by omega)).trans (hg4.block i hi)⟩
        have KU := hide (used_any w2.heap.size _ w2.heap.size _ (hs5.G hA6))
        have b6 := hB5.cell
        have q6 := hQ5.cell
        have H6 := hide (And.intro hB5 (And.intro hC5 (And.intro (hg5.trans hA6) (And.intro hQ5 (fun q l' e => dQ.keep (X := []) (Kx.of_G hA6) (fun _ _ h => by simp at h) (hv5 q l' e))))))
        clear hB4 hC4 hg4 hsz hA6 hB5 hC5 hQ5 hg5 hc5 hs5 hv5 KR H4
        go_wp2_with fail
        generalize w5.alloc (.cells #[I (k - 128), I cd, .slice na nn nc, .slice ta tn tc, .slice ba bn bc, .slice da dn dc, .slice ea en ec] 41) = w6 at KU H6 b6 q6 ⊢
        refine KU.out.mono ?_
        rintro e w7 ⟨rfl, hw7⟩
        subst w7
        clear KU
        obtain ⟨hB6, hC6, hg6, hQ6, hv6⟩ := H6.out
        by_cases cU : ((some l).bind (prp (k - 128))).map (·.2) = some []
        · rw [decide_eq_true cU]
          obtain ⟨q, hq⟩ : ∃ q, prp (k - 128) l = some (q, []) := by
            cases e : prp (k - 128) l with
            | none => rw [show (some l).bind (prp (k - 128)) = prp (k - 128) l from rfl, e] at cU; cases cU
            | some x =>
              rw [show (some l).bind (prp (k - 128)) = prp (k - 128) l from rfl, e] at cU
              have : x.2 = [] := Option.some.inj cU
              exact ⟨x.1, by rw [← this]⟩
          have hqv := hv6 q [] hq
          have KM := hide (rmayp_any w6 (.agg #[I (k - 128), I cd, .slice na nn nc, .slice ta tn tc, .slice ba bn bc, .slice da dn dc, .slice ea en ec]) q ⟨_, _, _, _, _, _, _, _, _, _, _, _, _, _, _, _, _, rfl⟩ hqv)
          have hgB : grB (k - 128) l = if q.nums.length ≤ 4096 then some q else none := by unfold grB; rw [hq]
          by_cases hm : q.nums.length ≤ 4096
          · rw [decide_eq_true hm] at KM
            rw [if_pos hm] at hgB
            have hcd : grC 0 k l = 0 := by unfold grC; rw [if_neg (by simp), if_neg (not_not_intro HK.out.1), if_neg HK.out.2, hgB]; rfl
            have hqq : grQ 0 k l = q := by unfold grQ; rw [hcd, if_pos rfl, hgB]; rfl
            have HZZ : Hid (∀ w8, G w6 w8 → Blk (WR w8 (w.heap.size + 1) (I (k - 128)) (I cd) (.slice na nn nc) (.slice ta tn tc) (.slice ba bn bc) (.slice da dn dc) (.slice ea en ec)) (w.heap.size + 1) 41 [I (k - 128), I cd, .slice na nn nc, .slice ta tn tc, .slice ba bn bc, .slice da dn dc, .slice ea en ec] ∧ GrP 0 k l w (.returned (.tuple #[.agg #[I (k - 128), I cd, .slice na nn nc, .slice ta tn tc, .slice ba bn bc, .slice da dn dc, .slice ea en ec], I 0])) (WR w8 (w.heap.size + 1) (I (k - 128)) (I cd) (.slice na nn nc) (.slice ta tn tc) (.slice ba bn bc) (.slice da dn dc) (.slice ea en ec))) := fun w8 g => by
              obtain ⟨_, q2, q3, q4⟩ := wr_set (I (k - 128)) (I cd) (.slice na nn nc) (.slice ta tn tc) (.slice ba bn bc) (.slice da dn dc) (.slice ea en ec) (hB6.G g) (by decide) (hC6.G g) (hg6.trans g) (Nat.le_succ _)
              refine ⟨q2, _, by rw [hcd], ⟨_, _, _, _, _, _, _, _, _, _, _, _, _, _, _, _, _, rfl⟩, ?_, q3⟩
              rw [hqq]
              exact dQ.keep (X := [41]) ((Kx.of_G g).trans (Kx.one q4 (hC6.G g) (by simp))) (by decide) hqv
            have HBC := hide (And.intro hC6 hQ6)
            clear hB6 hC6 hg6 hQ6 hv6 cU hqv hgB hm hcd hqq HZ H6
            go_wp2_with fail
            refine KM.out.mono ?_
            rintro e w8 ⟨rfl, g8⟩
            have HF := hide (HZZ.out w8 g8)
            have hC8 := HBC.out.1.G g8
            have r8 := hC8.cell
            have r9 := hC8.frozen
            have hQ8 := HBC.out.2.G g8
            have t8 := hQ8.cell
            clear g8 KM HZZ hC8 hQ8
            go_wp2_with fail
            exact bodyPost_ret_by (v := .tuple #[.agg #[I (k - 128), I cd, .slice na nn nc, .slice ta tn tc, .slice ba bn bc, .slice da dn dc, .slice ea en ec], I 0]) (ret_p _ _ (w.heap.size + 1) [I (k - 128), I cd, .slice na nn nc, .slice ta tn tc, .slice ba bn bc, .slice da dn dc, .slice ea en ec] 0 rfl rfl HF.out.1 rfl) rfl HF.out.2
          · rw [decide_eq_false hm] at KM
            rw [if_neg hm] at hgB
            have hcd : grC 0 k l = 163 := by unfold grC; rw [if_neg (by simp), if_neg (not_not_intro HK.out.1), if_neg HK.out.2, hgB]; rfl
            have HZZ := hide (fun (w8 : World) (g : G w6 w8) => (HZ w8 (hB6.G g) (hC6.G g) (hg6.trans g) 163 hcd (by decide)).out)
            have HBC := hide hC6
            clear hB6 hC6 hg6 hQ6 hv6 cU hqv hgB hm hcd HZ H6
            go_wp2_with fail
            refine KM.out.mono ?_
            rintro e w8 ⟨rfl, g8⟩
            have HF := hide (HZZ.out w8 g8)
            have hC8 := HBC.out.G g8
            have r8 := hC8.cell
            have r9 := hC8.frozen
            clear g8 KM HZZ hC8
            go_wp2_with fail
            exact bodyPost_ret_by (v := .tuple #[.agg #[I 0, I 0, .slice none 0 0, .slice none 0 0, .slice none 0 0, .slice none 0 0, .slice none 0 0], I 163]) (ret_p _ _ (w.heap.size + 1) [I 0, I 0, .slice none 0 0, .slice none 0 0, .slice none 0 0, .slice none 0 0, .slice none 0 0] 163 rfl rfl HF.out.1 rfl) rfl HF.out.2
        · rw [decide_eq_false cU]
          have hcd : grC 0 k l = 163 := by
            have hgB : grB (k - 128) l = none := by
              unfold grB
              cases e : prp (k - 128) l with
              | none => rfl
              | some x =>
                obtain ⟨x1, x2⟩ := x
                cases x2 with
                | nil => exact absurd (by rw [show (some l).bind (prp (k - 128)) = prp (k - 128) l from rfl, e]; rfl) cU
                | cons a r => rfl
            unfold grC
            rw [if_neg (by simp), if_neg (not_not_intro HK.out.1), if_neg HK.out.2, hgB]; rfl
          have HF := HZ w6 hB6 hC6 hg6 163 hcd (by decide)
          have r8 := hC6.cell
          have r9 := hC6.frozen
          clear hB6 hC6 hg6 hQ6 hv6 cU hcd HZ H6
          go_wp2_with fail
          exact bodyPost_ret_by (v := .tuple #[.agg #[I 0, I 0, .slice none 0 0, .slice none 0 0, .slice none 0 0, .slice none 0 0, .slice none 0 0], I 163]) (ret_p _ _ (w.heap.size + 1) [I 0, I 0, .slice none 0 0, .slice none 0 0, .slice none 0 0, .slice none 0 0, .slice none 0 0] 163 rfl rfl HF.out.1 rfl) rfl HF.out.2
    · rw [decide_eq_false (show ¬ (0 ≤ k - 128 ∧ k - 128 ≤ 12) by omega)] at KA
      have HF := HZ w2 HB.out.1 HB.out.2 HA.out 162 (by unfold grC; rw [if_neg (by simp), if_pos cK]) (by decide)
      clear hr hb hT hk hA2 hB2 hC2 hw2 c0 HZ cK cL
      go_enter Tryz.func12, Tryz.ntmps12
      go_wp2_with fail
      rw [HEW.out]
      clear hbx
      try rw [wk]
      refine KA.out.mono ?_
      rintro e w3 ⟨rfl, hw⟩
      subst w3
      clear KA
      go_wp2_with fail
      exact bodyPost_ret_by (v := .tuple #[.agg #[I 0, I 0, .slice none 0 0, .slice none 0 0, .slice none 0 0, .slice none 0 0, .slice none 0 0], I 162]) (ret_p _ _ (w.heap.size + 1) [I 0, I 0, .slice none 0 0, .slice none 0 0, .slice none 0 0, .slice none 0 0, .slice none 0 0] 162 rfl rfl HF.out.1 rfl) rfl HF.out.2
end Go.Proofs.YtcdjjmjhdoanlaaGreatDoor
