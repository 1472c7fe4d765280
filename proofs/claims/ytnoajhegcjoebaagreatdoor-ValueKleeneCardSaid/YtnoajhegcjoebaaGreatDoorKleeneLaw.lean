/- ValueKleene's walk. -/
import Derived.Test.YtnoajhegcjoebaaGreatDoorKleeneA
import Derived.Test.YtnoajhegcjoebaaGreatDoorKleeneB
import Derived.Test.YtnoajhegcjoebaaGreatDoorKleeneC
import Derived.Test.YtnoajhegcjoebaaGreatDoorKleeneD
import Derived.Test.YtnoajhegcjoebaaGreatDoorKleeneE
import Derived.LoopTactic
namespace Go.Proofs.YtnoajhegcjoebaaGreatDoor
open Go.RowKit
theorem round_k (m : Int) : ∃ va vb : Value, (∀ w, Calls Tryz.prog 8 #[.int .i64 (m % 9 / 3)] w fun e w' => e = .returned va ∧ G w w') ∧
    (∀ w, Calls Tryz.prog 8 #[.int .i64 (m % 3)] w fun e w' => e = .returned vb ∧ G w w') ∧ (∀ w, Calls Tryz.prog 7 #[va, vb] w fun e w' => e = .returned (.bool true) ∧ G w w') := by
  have h9 : m % 9 = 0 ∨ m % 9 = 1 ∨ m % 9 = 2 ∨ m % 9 = 3 ∨ m % 9 = 4 ∨ m % 9 = 5 ∨ m % 9 = 6 ∨ m % 9 = 7 ∨ m % 9 = 8 := by omega
  rcases h9 with h | h | h | h | h | h | h | h | h
  · have e1 : m % 9 / 3 = 0 := by omega
    have e2 : m % 3 = 0 := by omega
    rw [e1, e2]; exact ⟨_, _, three_0, three_0, kleene_00⟩
  · have e1 : m % 9 / 3 = 0 := by omega
    have e2 : m % 3 = 1 := by omega
    rw [e1, e2]; exact ⟨_, _, three_0, three_1, kleene_01⟩
  · have e1 : m % 9 / 3 = 0 := by omega
    have e2 : m % 3 = 2 := by omega
    rw [e1, e2]; exact ⟨_, _, three_0, three_2, kleene_02⟩
  · have e1 : m % 9 / 3 = 1 := by omega
    have e2 : m % 3 = 0 := by omega
    rw [e1, e2]; exact ⟨_, _, three_1, three_0, kleene_10⟩
  · have e1 : m % 9 / 3 = 1 := by omega
    have e2 : m % 3 = 1 := by omega
    rw [e1, e2]; exact ⟨_, _, three_1, three_1, kleene_11⟩
  · have e1 : m % 9 / 3 = 1 := by omega
    have e2 : m % 3 = 2 := by omega
    rw [e1, e2]; exact ⟨_, _, three_1, three_2, kleene_12⟩
  · have e1 : m % 9 / 3 = 2 := by omega
    have e2 : m % 3 = 0 := by omega
    rw [e1, e2]; exact ⟨_, _, three_2, three_0, kleene_20⟩
  · have e1 : m % 9 / 3 = 2 := by omega
    have e2 : m % 3 = 1 := by omega
    rw [e1, e2]; exact ⟨_, _, three_2, three_1, kleene_21⟩
  · have e1 : m % 9 / 3 = 2 := by omega
    have e2 : m % 3 = 2 := by omega
    rw [e1, e2]; exact ⟨_, _, three_2, three_2, kleene_22⟩
set_option maxRecDepth 100000 in
set_option maxHeartbeats 1000000 in
theorem kleene_law (f : Int) (w : World) (_h0 : -9223372036854775808 ≤ f) (_h1 : f ≤ 9223372036854775807) :
    Calls Tryz.prog 3 #[.int .i64 f] w fun e w' => e = .returned (.bool true) ∧ G w w' := by
  have hm1 : -9 < f.tmod 9 := by have := Int.lt_tmod_of_pos f (b := 9) (by decide); omega
  have hm2 : f.tmod 9 < 9 := Int.tmod_lt_of_pos f (by decide)
  go_enter Tryz.func3, Tryz.ntmps3
  go_wp2
  go_loopw [3] (fun i W => ∃ n : Nat, n ≤ 9 ∧ i = .int .i64 n ∧ G w W) (fun i _ => 9 - (intOf i).toNat)
  case atStart => exact ⟨0, by omega, rfl, G.refl _⟩
  case round =>
    obtain ⟨n, hn, rfl, hG⟩ := hrel
    by_cases hlt : n < 9
    · go_wp2_with fail
      obtain ⟨va, vb, k1, k2, k3⟩ := round_k ((n : Int) + f.tmod 9)
      have K1 : Hid _ := k1; have K2 : Hid _ := k2; have K3 : Hid _ := k3
      clear k1 k2 k3
      refine (K1.out _).mono ?_
      rintro e w1 ⟨rfl, hb1⟩
      go_wp2_with fail
      refine (K2.out _).mono ?_
      rintro e w2 ⟨rfl, hb2⟩
      go_wp2_with fail
      refine (K3.out _).mono ?_
      rintro e w3 ⟨rfl, hb3⟩
      go_wp2
      go_roundw
      case rel => exact ⟨n + 1, by omega, by go_num, hG.trans (hb1.trans (hb2.trans hb3))⟩
      case measure => simp [intOf]; omega
    · go_wp2
      go_ret
      exact ⟨rfl, hG⟩
end Go.Proofs.YtnoajhegcjoebaaGreatDoor
