/- Locks: slices.SortFunc of one resource. -/
import Derived.Test.YtfeiocahlhklaaaDoorLk23
namespace Go.Proofs.YtfeiocahlhklaaaDoor
open Go.RowKit

set_option maxRecDepth 100000 in
set_option maxHeartbeats 1000000 in
theorem ins_one (v fv : Value) (w : World) : Calls Tryd.prog 51 #[v, I 0, I 1, fv] w fun e w' => e = .returned (.tuple #[]) ∧ w' = w := by
  go_enter Tryd.func51, Tryd.ntmps51
  go_wp2
  go_loopw [8] (fun i wr => i = I 1 ∧ wr = w) (fun _ _ => 0)
  case atStart => exact ⟨rfl, rfl⟩
  case round =>
    obtain ⟨rfl, rfl⟩ := hrel
    go_wp2
    go_end0
    exact ⟨rfl, rfl⟩
set_option maxRecDepth 100000 in
set_option maxHeartbeats 1000000 in
theorem len64_one (w : World) : Calls Tryd.prog 60 #[.int .u64 1] w fun e w' => (∃ k, e = .returned (I k)) ∧ w' = w := by
  go_enter Tryd.func60, Tryd.ntmps60
  go_wp2
  go_ret
  exact ⟨⟨_, rfl⟩, rfl⟩
set_option maxRecDepth 100000 in
set_option maxHeartbeats 1000000 in
theorem len_one (w : World) : Calls Tryd.prog 42 #[.int .u64 1] w fun e w' => (∃ k, e = .returned (I k)) ∧ w' = w := by
  have K := hide (len64_one w)
  go_enter Tryd.func42, Tryd.ntmps42
  go_wp2_with (first | (go_at_call 60; refine K.out.mono ?_; rintro e w' ⟨⟨k, rfl⟩, rfl⟩) | fail)
  go_ret
  exact ⟨⟨_, rfl⟩, rfl⟩
set_option maxRecDepth 100000 in
set_option maxHeartbeats 1000000 in
theorem pdq_one (v fv : Value) (k : Int) (w : World) : Calls Tryd.prog 41 #[v, I 0, I 1, I k, fv] w fun e w' => e = .returned (.tuple #[]) ∧ w' = w := by
  have K := hide (ins_one v fv w)
  go_enter Tryd.func41, Tryd.ntmps41
  go_wp2
  go_loopw [1, 2, 3] (fun a b c wr => a = I 0 ∧ b = I 1 ∧ c = I k ∧ wr = w) (fun _ _ _ _ => 0)
  case atStart => exact ⟨rfl, rfl, rfl, rfl⟩
  case round =>
    obtain ⟨rfl, rfl, rfl, rfl⟩ := hrel
    go_wp2_with (first | (go_at_call 51; refine K.out.mono ?_; rintro e w' ⟨rfl, rfl⟩) | fail)
    refine bodyPost_ret (results_none rfl _ _ _) rfl ?_
    exact ⟨rfl, rfl⟩
set_option maxRecDepth 100000 in
set_option maxHeartbeats 1000000 in
theorem sortF_one (a : Option Addr) (c : Nat) (fv : Value) (w : World) : Calls Tryd.prog 28 #[.slice a 1 c, fv] w fun e w' => e = .returned (.tuple #[]) ∧ w' = w := by
  have K := hide (len_one w)
  have K2 := hide (fun k => pdq_one (.slice a 1 c) fv k w)
  go_enter Tryd.func28, Tryd.ntmps28
  go_wp2_with (first | (go_at_call 42; refine K.out.mono ?_; rintro e w' ⟨⟨k, rfl⟩, rfl⟩) | (go_at_call 41; refine (K2.out k).mono ?_; rintro e w' ⟨rfl, rfl⟩) | fail)
  go_end0
  exact ⟨rfl, rfl⟩
end Go.Proofs.YtfeiocahlhklaaaDoor
