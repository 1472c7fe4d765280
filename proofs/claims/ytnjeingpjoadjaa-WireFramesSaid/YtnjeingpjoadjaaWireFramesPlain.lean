/- WireFrames: the row. -/
import Derived.Test.YtnjeingpjoadjaaRows
import Derived.Test.YtnjeingpjoadjaaW39
import Derived.Test.YtnjeingpjoadjaaWo
import Derived.OpenShut
import Derived.JoinedCond
import Derived.SizedLaws
import Derived.ProofKit
import Derived.Deep.DeepHandedRow
import Derived.LaidMore
import Derived.Lay
namespace Go.Proofs.Ytnjeingpjoadjaa
open Go.ChangeShapes Go.WideShapes Go.ChangeAt Go.RowKit
section
variable {H : Type} {enc : TypeId × Value → H} {w : World}
theorem bytes_u : Try.prog.bytesOf 5 = 1 := by kernel_rfl
theorem open_bytes2 {fuel : Nat} {c : Value} {x : DataW H × List MemPlace} (h : trodA enc w fuel 22 [c] = some x) : ∃ l, Rb w c l ∧ By l ∧ (l = [] ∨ ∃ es ss, x.1 = .slice es ss ∧ es.length = l.length) := by
  obtain ⟨l, r1, r2, _⟩ := open_bytes h
  obtain ⟨p, cap, e⟩ := r1.form
  refine ⟨l, r1, r2, ?_⟩
  rcases Go.Deep.open_slice Try.underlying22 h with ⟨hc, rfl⟩ | ⟨a, len, cap', m, n, D, Pl, hc, _, hl, hm, rfl, rfl, hx⟩
  · have hc : c = .slice none 0 0 := by simpa using hc
    rw [e] at hc
    injection hc with _ h2 _
    exact .inl (List.length_eq_zero_iff.1 h2)
  · have hc : c = .slice (some a) len m := by simpa using hc
    rw [e] at hc
    injection hc with _ h2 _
    exact .inr ⟨_, _, rfl, by simp; omega⟩
end
end Go.Proofs.Ytnjeingpjoadjaa
namespace Go.Proofs.Ytnjeingpjoadjaa.wireFrames
open Go.ChangeShapes Go.WideShapes Go.ChangeAt Go.RowKit

theorem own : ownKnob Try.prog.godebug = none := by kernel_rfl
theorem laidOut : laidOutB Try.prog = true := by kernel_rfl
/-- A world for the witness. -/
theorem laid_met (os : Os) : laidMet Try.prog Rows.wireFramesRow.laid ((World.laidAll Try.prog os Rows.wireFramesRow.laid).forCall (fun _ _ => 0) ⟨#[], #[.int .i64 0, .slice none 0 0, .int .i64 0], []⟩).memory :=
  laidMet_of_run' 8 (by kernel_rfl) (by kernel_rfl)
theorem reads (os : Os) {H : Type} (enc : TypeId × Value → H) : ∃ places, DataW.whole enc Try.prog ((World.laidAll Try.prog os Rows.wireFramesRow.laid).forCall (fun _ _ => 0) ⟨#[], #[.int .i64 0, .slice none 0 0, .int .i64 0], []⟩).memory Try.f3.params.toList Rows.wireFramesSpec.vars false (#[.int .i64 0, .slice none 0 0, .int .i64 0] : Array Value).toList 8 = some ([.lit (.int .i64 0), .nil, .lit (.int .i64 0)], [], places) :=
  ⟨[], by kernel_rfl⟩
set_option maxRecDepth 100000 in
theorem lifted (os : Os) (started : os.Started) (H : Type) (enc : TypeId × Value → H) (F : Stop.Interp) :
    ReturnsInHanded {} Try.checked os 3 .any ((OpenSpec.ofChange Rows.wireFramesSpec).preRow enc Try.prog Try.f3 Rows.wireFramesRow.domain false Rows.wireFramesRow.laid) (((OpenSpec.ofChange Rows.wireFramesSpec).at F).post enc Try.prog Try.f3 false true false false) := by
  obtain ⟨places, hx⟩ := reads os enc
  refine returnsInHanded_of_row (C := Try.checked) (s := OpenSpec.ofChange Rows.wireFramesSpec) own started (by kernel_rfl) Try.func3
    (witness_row_at (enc := enc) (C := Try.checked) false (World.laidAll Try.prog os Rows.wireFramesRow.laid) #[.int .i64 0, .slice none 0 0, .int .i64 0] (World.laidAll_os _ _ _) (by kernel_rfl) (by kernel_rfl) (by kernel_rfl)
      (OpenSpec.preRow_of_cond 8 hx (by kernel_rfl) (fun k hk => by cases hk) (by kernel_rfl) (laid_met os))) ?_
  intro W base args ds gs before hval0 hW _ _ hwt _ _ _
  have hval : ∀ (j : Nat) t v, Try.f3.params[j]? = some t → args[j]? = some v → Value.okWide Try.prog W .any base t v := hval0
  have hW' := hW
  obtain ⟨p, q, hA0, hV, rfl, _, _⟩ := hW
  have hA : DataW.TrodAll enc Try.prog W 0 (fun _ => true) true Try.f3.params.toList args.toList ds p := hA0
  rw [Try.params3] at hA hval
  obtain ⟨v0, vs0, d0, ds0, p0, q0, hargs, rfl, rfl, h0, r0⟩ := trodAll_cons hA
  obtain ⟨v1, vs1, d1, ds1, p1, q1, rfl, rfl, rfl, h1, r1⟩ := trodAll_cons r0
  obtain ⟨v2, vs2, d2, ds2, p2, q2, rfl, rfl, rfl, h2, r2⟩ := trodAll_cons r1
  obtain ⟨rfl, rfl, rfl⟩ := trodAll_nil r2
  obtain rfl : args = #[v0, v1, v2] := by cases args; simp_all
  obtain ⟨rfl, rfl⟩ := trodVars_none hV
  have hlt : ∀ x ∈ p0 ++ (p1 ++ (p2 ++ [])), x.block < W.heap.size := fun x hx => by simpa using hW'.lt x (by simpa using hx)
  have hlt0 : ∀ x ∈ p0, x.block < W.heap.size := fun x hx => hlt x (by simp [hx])
  have hlt1 : ∀ x ∈ p1, x.block < W.heap.size := fun x hx => hlt x (by simp [hx])
  have hlt2 : ∀ x ∈ p2, x.block < W.heap.size := fun x hx => hlt x (by simp [hx])
  have t0 := h0
  have t1 := h1
  have t2 := h2
  obtain ⟨n0, rfl, _, _, _⟩ := open_int Try.underlying3 (hval 0 3 v0 rfl rfl) t0
  obtain ⟨y1, len1, cap1, rfl⟩ := okWide_slice Try.underlying22 (hval 1 22 v1 rfl rfl)
  obtain ⟨f1, e1⟩ := t1
  obtain ⟨l1, hR1, hB1, hs1⟩ := open_bytes2 e1
  have hl1 : l1.length ≤ 140737488351232 := by
    rcases hs1 with hs1 | ⟨es, ss, hd, he⟩
    · rw [hs1]; simp
    · have h8 := sized_slice hwt (j := 1) (t := 22) (e := 5) (elems := es) (spare := ss) rfl (by simp; exact hd) Try.underlying22
      rw [show Try.checked.prog.bytesOf 5 = 1 from bytes_u] at h8
      have h9 : reachBytes = 140737488351232 := rfl
      omega
  obtain ⟨n2, rfl, _, _, _⟩ := open_int Try.underlying3 (hval 2 3 v2 rfl rfl) t2
  have hcall : Calls Try.prog 3 #[.int .i64 n0, .slice y1 len1 cap1, .int .i64 n2] W fun e W' => e = .returned (.bool true) ∧ G W W' := Go.Proofs.Ytnjeingpjoadjaa.wireFrames n0 l1 _ n2 W hR1 hB1 hl1
  refine hcall.mono fun e W' ⟨he, hg⟩ => ?_
  subst he
  exact ⟨_, rfl, _, _, _, [], _, [], hW', trodAll_mk1 (shut_bool Try.underlying4 _), (trodAll_cons_mk (Below.trod laidOut (by kernel_rfl) (of_decide_eq_true (by kernel_rfl)) h0 hg hlt0) (trodAll_cons_mk (Below.trod laidOut (by kernel_rfl) (of_decide_eq_true (by kernel_rfl)) h1 hg hlt1) (trodAll_cons_mk (Below.trod laidOut (by kernel_rfl) (of_decide_eq_true (by kernel_rfl)) h2 hg hlt2) trodAll_mk0))), rfl, Below.frame hg _, fun h => by cases h⟩
end Go.Proofs.Ytnjeingpjoadjaa.wireFrames
namespace Go.Proofs.Ytnjeingpjoadjaa
theorem wireFrames_said : Rows.WireFramesSaid :=
  OpenClaim.holds_of_cond 3 Try.f3 rfl rfl rfl rfl rfl rfl rfl ⟨rfl, rfl, rfl, rfl, rfl⟩ rfl rfl rfl rfl rfl (by kernel_rfl) Try.func3 (by kernel_rfl)
    (of_decide_eq_true (by kernel_rfl)) (by unfold Func.isWrapper; first | (rw [if_pos (by decide +kernel)]; kernel_rfl) | (rw [if_neg (by decide +kernel)]; exact ⟨rfl, rfl⟩))
    (fun os started H enc _ F => by rw [OpenClaim.pre_eq_preRow]; exact wireFrames.lifted os started H enc F)
#print axioms wireFrames_said
end Go.Proofs.Ytnjeingpjoadjaa
