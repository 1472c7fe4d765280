/- LocksFits's walk. -/
import Derived.Test.YtbknpobmkamjiaaDoorLkR2
import Derived.Test.YtbknpobmkamjiaaDoorLkR3
import Derived.LoopTactic
namespace Go.Proofs.YtbknpobmkamjiaaDoor
open Go.RowKit

theorem rjoins_any (a b : Int) (w : World) : Calls Tryd.prog 8 #[I a, I b] w fun e w' => e = .returned (I (joinI a b)) ∧ w' = w := by
  by_cases h : jm a ∧ jm b
  · have h1 : a = 0 ∨ a = 1 ∨ a = 2 ∨ a = 3 ∨ a = 4 ∨ a = 5 := by rcases h.1 with h | h <;> omega
    rcases h1 with rfl | rfl | rfl | rfl | rfl | rfl
    · exact rjoins_0 b h.2 w
    · exact rjoins_1 b h.2 w
    · exact rjoins_2 b h.2 w
    · exact rjoins_3 b h.2 w
    · exact rjoins_4 b h.2 w
    · exact rjoins_5 b h.2 w
  · exact rjoins_no a b h w
set_option maxRecDepth 100000 in
set_option maxHeartbeats 1000000 in
theorem fits_law (a b : Int) (w : World) (ht : Tb w) : Calls Tryd.prog 3 #[I a, I b] w fun e w' => e = .returned (.bool true) ∧ w' = w := by
  have HT := hide ht
  clear ht
  go_enter Tryd.func3, Tryd.ntmps3
  go_wp2
  go_loopw [5] (fun i W => ∃ n : Nat, n ≤ 8 ∧ i = I ((n : Int) - 1) ∧ W = w) (fun i _ => 8 - (intOf i + 1).toNat)
  case atStart => exact ⟨0, by omega, rfl, rfl⟩
  case round =>
    obtain ⟨n, hn, rfl, hw⟩ := hrel
    replace hw := hw.symm; subst hw
    by_cases hlt : n < 8
    · have hl : (n : Int) - 1 < 7 := by omega
      go_wp2_with fail
      go_loopw [6] (fun i W => ∃ m : Nat, m ≤ 8 ∧ i = I ((m : Int) - 1) ∧ W = w) (fun i _ => 8 - (intOf i + 1).toNat)
      case atStart => exact ⟨0, by omega, rfl, rfl⟩
      case round =>
        obtain ⟨m, hm, rfl, hw⟩ := hrel
        replace hw := hw.symm; subst hw
        by_cases hlt2 : m < 8
        · have hl2 : (m : Int) - 1 < 7 := by omega
          have K1 := hide (fits_any ((n : Int) - 1) ((m : Int) - 1) w HT.out)
          have K2 := hide (rfits_any ((n : Int) - 1) ((m : Int) - 1) w)
          have K3 := hide (joins_any ((n : Int) - 1) ((m : Int) - 1) w HT.out)
          have K4 := hide (rjoins_any ((n : Int) - 1) ((m : Int) - 1) w)
          generalize fitB ((n : Int) - 1) ((m : Int) - 1) = x at K1 K2
          generalize joinI ((n : Int) - 1) ((m : Int) - 1) = y at K3 K4
          go_wp2_with (first | (go_at_call 5; with_reducible refine (K1.out).mono ?_; rintro e w' ⟨rfl, rfl⟩) | (go_at_call 6; with_reducible refine (K2.out).mono ?_; rintro e w' ⟨rfl, rfl⟩) | (go_at_call 7; with_reducible refine (K3.out).mono ?_; rintro e w' ⟨rfl, rfl⟩) | (go_at_call 8; with_reducible refine (K4.out).mono ?_; rintro e w' ⟨rfl, rfl⟩) | fail)
          go_roundw
          case rel => exact ⟨m + 1, by omega, by simp, trivial⟩
          case measure => simp only [RowKit.intOf]; omega
        · have hl2 : ¬ ((m : Int) - 1 < 7) := by omega
          go_wp2_with fail
          go_roundw
          case rel => exact ⟨n + 1, by omega, by simp, trivial⟩
          case measure => simp only [RowKit.intOf]; omega
    · have hl : ¬ ((n : Int) - 1 < 7) := by omega
      have K1 := hide (fits_any a b w HT.out)
      have K2 := hide (rfits_any a b w)
      have K3 := hide (joins_any a b w HT.out)
      have K4 := hide (rjoins_any a b w)
      generalize fitB a b = x at K1 K2
      generalize joinI a b = y at K3 K4
      go_wp2_with (first | (go_at_call 5; with_reducible refine (K1.out).mono ?_; rintro e w' ⟨rfl, rfl⟩) | (go_at_call 6; with_reducible refine (K2.out).mono ?_; rintro e w' ⟨rfl, rfl⟩) | (go_at_call 7; with_reducible refine (K3.out).mono ?_; rintro e w' ⟨rfl, rfl⟩) | (go_at_call 8; with_reducible refine (K4.out).mono ?_; rintro e w' ⟨rfl, rfl⟩) | fail)
      go_ret
      exact ⟨rfl, rfl⟩
end Go.Proofs.YtbknpobmkamjiaaDoor
