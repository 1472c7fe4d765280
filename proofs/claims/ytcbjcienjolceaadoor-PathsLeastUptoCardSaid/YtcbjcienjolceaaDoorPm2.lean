/- Paths: Reach. -/
import Derived.Test.YtcbjcienjolceaaDoorPl2
import Derived.Test.YtcbjcienjolceaaDoorPm1
namespace Go.Proofs.YtcbjcienjolceaaDoor
open Go.RowKit

set_option maxRecDepth 100000 in
set_option maxHeartbeats 2000000 in
theorem reach_neg (W : World) (sh : Nat) (from_ most : Int) (hm : most < 0) :
    Calls Tryd.prog 11 #[(.func (.func 12) #[ptr sh] #[]), I from_, I most] W fun e W' => e = .returned (.tuple #[.slice none 0 0, I 1]) ∧ W' = W := by
  have q0 : ∀ w : World, (binOp .eql 35 (.func (.func 12) #[ptr sh] #[]) .nilFunc).run Tryd.prog w = .ok (.bool false) w := fun w => by rfl
  have hmd : decide (most < 0) = true := decide_eq_true hm
  go_enter Tryd.func11, Tryd.ntmps11
  go_wp2_with fail
  go_ret2
  exact ⟨rfl, rfl⟩
set_option maxRecDepth 100000 in
set_option maxHeartbeats 2000000 in
theorem reach_any (Wb W : World) (sh : Nat) (rv : Value) (rs : List Nr) (tail : Bool) (av gv : Value) (from_ most : Int) (bas : List Int) (gl : List Value) (hbas : bas.length ≤ 4294967296) (sn : Shn Wb W sh rv rs tail av gv bas gl) (hf : R64 from_) (hm0 : 0 ≤ most) (hrl : rs.length ≤ 1048576) (hal : ∀ id, (netOf rs tail id).1.length ≤ 1048576) (R : Rs) (hR : R = srch true rs tail none most 4097 [] [(from_, 0)] []) :
    Calls Tryd.prog 11 #[(.func (.func 12) #[ptr sh] #[]), I from_, I most] W fun e W' => ∃ (av' gv' : Value) (gl' : List Value) (nv : Value), e = .returned (.tuple #[nv, I R.code]) ∧ (R.code = 0 → Rw W.heap.size 2 1 W' nv R.st.length ((R.st.map (·.1)).map I)) ∧ (R.code ≠ 0 → nv = .slice none 0 0) ∧ Shn Wb W' sh rv rs tail av' gv' (bas ++ R.asked) gl' ∧ (∃ mp, Mv Wb (sTs ++ shTs) mp W W') ∧ (∀ b, nv.ownBlock = some b → av'.ownBlock ≠ some b) ∧ AskO W W' av av' := by
  have HNW := hide (new_any W (.func 12) (.func 28) #[ptr sh] #[] #[] #[] from_ hf)
  have q0 : ∀ w : World, (binOp .eql 35 (.func (.func 12) #[ptr sh] #[]) .nilFunc).run Tryd.prog w = .ok (.bool false) w := fun w => by rfl
  have hmn : ¬ (most < 0) := by omega
  have hmd : decide (most < 0) = false := decide_eq_false hmn
  have HSN := hide sn
  have HR := hide hR
  have HAL := hide hal
  clear sn hR hal
  go_enter Tryd.func11, Tryd.ntmps11
  go_wp2_with fail
  refine HNW.out.mono ?_
  rintro e w1 ⟨sb, B, mb, h, fv, v, rfl, hk⟩
  have HK := hide (hk.base HSN.out.g)
  have HN1 := hide (HSN.out.G hk.g)
  have HG1 := hide hk.g
  have HMV : Hid (∀ mp, Mv Wb (sTs ++ shTs) mp W w1) := fun mp => .of_G HSN.out.g hk.g
  clear hk HNW
  have HUN := hide (within_any Wb w1 sh sb B mb h rv rs tail most av R bas hbas hm0 HK.out.g hrl HAL.out ⟨_, _, _, fv, v, [], [(from_, 0)], [], av, gv, gl, PS.init hf, HK.out, by rw [List.append_nil]; exact HN1.out, HR.out.symm, Mv.refl _ _ _ _, Rw.nil _ _ _ _, fun b hb => by simp [Value.ownBlock] at hb, fun p hp => by simp at hp; subst hp; exact hm0, AskO.refl _ _⟩)
  go_wp2_with fail
  refine HUN.out.mono ?_
  rintro e w2 ⟨av2, gv2, gl2, nv, rfl, h1, h2, hn2, hmv2, hnd, hao⟩
  have HM2 := hide ((HMV.out _).trans hmv2)
  have H1 : Hid (R.code = 0 → Rw W.heap.size 2 1 w2 nv R.st.length ((R.st.map (·.1)).map I)) := fun q => Rw.base (h1 q) HG1.out.size
  have H2 := hide h2
  have HN2 := hide hn2
  have HND := hide hnd
  have HAO := hide (hao.left HG1.out)
  clear h1 h2 hn2 hmv2 hnd hao HUN
  go_wp2_with fail
  go_ret2
  exact ⟨_, _, _, _, rfl, H1.out, H2.out, HN2.out, ⟨_, HM2.out⟩, HND.out, HAO.out⟩
end Go.Proofs.YtcbjcienjolceaaDoor
