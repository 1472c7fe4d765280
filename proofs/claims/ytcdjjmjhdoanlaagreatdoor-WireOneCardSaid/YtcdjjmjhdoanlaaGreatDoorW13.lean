/- Wire: PutRequest. -/
import Derived.Test.YtcdjjmjhdoanlaaGreatDoorW12
namespace Go.Proofs.YtcdjjmjhdoanlaaGreatDoor
open Go.RowKit

/-- What PutRequest answers. -/
def Rq.code (q : Rq) : Nat := if ¬ (1 ≤ q.k ∧ q.k ≤ 12) then 162 else if q.may = false then 163 else frC q.k q.body.length
def Rq.frame (q : Rq) : List Nat := if q.code = 0 then frB q.k.toNat q.body else []
def PutP (q : Rq) (W : World) (e : Ending) (W' : World) : Prop := ∃ v', e = .returned (.tuple #[v', I q.code]) ∧ SwB W' v' q.frame ∧ G W W' ∧ Fresh W v'
theorem PutP.bad (q : Rq) (W W' : World) (c : Nat) (h : q.code = c) (hc : c ≠ 0) (g : G W W') : PutP q W (.returned (.tuple #[.slice none 0 0, I c])) W' :=
  ⟨_, by rw [h], by rw [Rq.frame, h, if_neg hc]; exact Sw.nil _ _ _, g, Fresh.nil _⟩
theorem frC_in (k : Int) (n : Nat) (h : 1 ≤ k ∧ k ≤ 12) : frC k n = if 2097152 < n then 163 else 0 := by unfold frC; rw [if_neg (by omega)]
set_option maxRecDepth 100000 in
set_option maxHeartbeats 1000000 in
theorem putq_any (w : World) (v : Value) (q : Rq) (hv : RqV w v q) (hT : Tks w) : Calls Tryz.prog 10 #[v] w (PutP q w) := by
  obtain ⟨vn, vb, rfl, h1, h2⟩ := id hv.h
  have hB := Blk.new w [I q.k, vn, .string q.t, vb] 33
  have hA := (G.refl w).alloc (.cells #[I q.k, vn, .string q.t, vb] 33)
  have hc := hB.cell
  have KA := hide (asks_any q.k (w.alloc (.cells #[I q.k, vn, .string q.t, vb] 33)))
  by_cases cK : 1 ≤ q.k ∧ q.k ≤ 12
  · have KM := hide (may_any (w.alloc (.cells #[I q.k, vn, .string q.t, vb] 33)) _ q (hv.G hA) (hT.G hA) cK)
    rw [decide_eq_true cK] at KA
    have HC := hide cK
    have HV := hide (hv.G hA)
    have HBx := hide hB
    have HA := hide hA
    clear h1 h2 hv hT hB hA cK
    go_enter Tryz.func10, Tryz.ntmps10
    go_wp2_with fail
    generalize w.alloc (.cells #[I q.k, vn, .string q.t, vb] 33) = wA at KA KM HV HBx HA hc ⊢
    refine KA.out.mono ?_
    rintro e w1 ⟨rfl, rfl⟩
    clear KA
    go_wp2_with fail
    refine KM.out.mono ?_
    rintro e w2 ⟨rfl, hg2⟩
    cases hm : q.may with
    | false =>
      have HF := hide (PutP.bad q w w2 163 (by unfold Rq.code; rw [if_neg (not_not_intro HC.out), if_pos hm]) (by decide) (HA.out.trans hg2))
      clear hg2 KM hm
      go_wp2_with fail
      go_ret2
      exact HF.out
    | true =>
      have hb2 := HBx.out.G hg2
      have hc2 := hb2.cell
      have hA3 := (G.refl w2).alloc (.cells #[.slice none 0 0, .bool false] 67)
      have hW3 : Wst w2 (w2.alloc (.cells #[.slice none 0 0, .bool false] 67)) (w2.alloc (.cells #[.slice none 0 0, .bool false] 67)) w2.heap.size (some []) :=
        ⟨hA3, Nat.le_refl _, by simp, ⟨_, Blk.new w2 [.slice none 0 0, .bool false] 67, Sw.nil _ _ _, Fresh.nil _⟩, Kp.refl _⟩
      have KR := hide (request_any w2 _ _ w2.heap.size (some []) _ q hW3 (HV.out.G hg2))
      have hb3 := hb2.G hA3
      have HB3 := hide hb3
      have hc3 := hb3.cell
      have HG2 := hide (HA.out.trans hg2)
      have HM := hide hm
      clear hg2 KM hm hb2 hA3 hW3 hb3 HV HBx HA
      go_wp2_with fail
      refine KR.out.mono ?_
      rintro e w4 ⟨rfl, hw4⟩
      have hb4 := hw4.k.blk HB3.out (by decide) (by decide)
      have hc4 := hb4.cell
      have KF := hide (wframe_any w2 _ w4 w2.heap.size _ q.k hw4 (fun l e => by
        rw [wap_some] at e
        split at e
        · rw [← Option.some.inj e]; exact q.body_by
        · cases e))
      clear hw4 hb4 KR HB3
      go_wp2_with fail
      refine KF.out.mono ?_
      rintro e w5 ⟨v5, c5, rfl, hg5, hf5, h5⟩
      have HF : Hid (PutP q w (.returned (.tuple #[v5, I c5])) w5) := by
        have hcode : q.code = if 2097152 < q.body.length then 163 else 0 := by unfold Rq.code; rw [if_neg (not_not_intro HC.out), if_neg (by rw [HM.out]; decide), frC_in _ _ HC.out]
        rw [wap_some] at h5
        by_cases cl : 2097152 < q.body.length
        · rw [if_neg (by simp; omega)] at h5
          obtain ⟨rfl, rfl⟩ := h5
          exact PutP.bad q w w5 163 (by rw [hcode, if_pos cl]) (by decide) (HG2.out.trans hg5)
        · rw [if_pos (by simp; omega)] at h5
          obtain ⟨rfl, h6⟩ := h5
          rw [List.nil_append] at h6
          have e0 : frC q.k q.body.length = 0 := by rw [frC_in _ _ HC.out, if_neg cl]
          refine ⟨v5, by rw [List.nil_append, e0, hcode, if_neg cl], ?_, HG2.out.trans hg5, hf5.old HG2.out⟩
          rw [Rq.frame, hcode, if_neg cl, if_pos rfl]
          rw [frL, e0, if_pos rfl] at h6
          exact h6
      clear hg5 hf5 h5 KF
      go_wp2_with fail
      go_ret2
      exact HF.out
  · have HF := hide (PutP.bad q w _ 162 (by unfold Rq.code; rw [if_pos cK]) (by decide) hA)
    rw [decide_eq_false cK] at KA
    clear h1 h2 hv hT hB hA cK
    go_enter Tryz.func10, Tryz.ntmps10
    go_wp2_with fail
    refine KA.out.mono ?_
    rintro e w1 ⟨rfl, rfl⟩
    clear KA
    go_wp2_with fail
    go_ret2
    exact HF.out
end Go.Proofs.YtcdjjmjhdoanlaaGreatDoor
