/- Locks: isMode, Fits, Joins. -/
import Derived.Test.YtkbgifhhnnfgoaaGreatDoorLk0
namespace Go.Proofs.YtkbgifhhnnfgoaaGreatDoor
open Go.RowKit

theorem modeB_pos {a : Int} (h1 : 1 ≤ a) (h2 : a ≤ 5) : modeB a = true := by simp [modeB, h1, h2]
theorem modeB_neg {a : Int} (h : ¬ (1 ≤ a ∧ a ≤ 5)) : modeB a = false := by
  unfold modeB; by_cases h1 : 1 ≤ a <;> by_cases h2 : a ≤ 5 <;> simp [h1, h2]; omega
theorem modeB_iff {a : Int} : modeB a = true ↔ 1 ≤ a ∧ a ≤ 5 := by simp [modeB]
set_option maxRecDepth 100000 in
set_option maxHeartbeats 1000000 in
theorem isMode_any (a : Int) (w : World) : Calls Tryz.prog 32 #[I a] w fun e w' => e = .returned (.bool (modeB a)) ∧ w' = w := by
  by_cases h1 : 1 ≤ a
  · by_cases h2 : a ≤ 5
    · go_enter Tryz.func32, Tryz.ntmps32
      go_wp2
      go_ret
      exact ⟨by rw [modeB_pos h1 h2]; rfl, rfl⟩
    · go_enter Tryz.func32, Tryz.ntmps32
      go_wp2
      go_ret
      exact ⟨by rw [modeB_neg (by omega)]; rfl, rfl⟩
  · go_enter Tryz.func32, Tryz.ntmps32
    go_wp2
    go_ret
    exact ⟨by rw [modeB_neg (by omega)]; rfl, rfl⟩
set_option maxRecDepth 100000 in
set_option maxHeartbeats 1000000 in
theorem fits_any (a b : Int) (w : World) (ht : Tb w) : Calls Tryz.prog 39 #[I a, I b] w fun e w' => e = .returned (.bool (fitB a b)) ∧ w' = w := by
  have ka := isMode_any a w
  have kb := isMode_any b w
  by_cases h1 : 1 ≤ a ∧ a ≤ 5
  · rw [modeB_pos h1.1 h1.2] at ka
    have KA := hide ka
    by_cases h2 : 1 ≤ b ∧ b ≤ 5
    · rw [modeB_pos h2.1 h2.2] at kb
      obtain ⟨n, rfl⟩ : ∃ n : Nat, a = n := ⟨a.toNat, by omega⟩
      obtain ⟨m, rfl⟩ : ∃ m : Nat, b = m := ⟨b.toNat, by omega⟩
      have hc := ht.f (n * 6 + m) (by omega)
      have KB := hide kb
      clear ka kb ht
      have hn : n < 6 := by omega
      have hm : m < 6 := by omega
      go_enter Tryz.func39, Tryz.ntmps39
      go_wp2_with (first | (go_at_call 32; with_reducible refine (KA.out).mono ?_; rintro e w' ⟨rfl, rfl⟩) | (go_at_call 32; with_reducible refine (KB.out).mono ?_; rintro e w' ⟨rfl, rfl⟩) | fail)
      go_ret
      exact ⟨by simp [fitB, modeB_pos h1.1 h1.2, modeB_pos h2.1 h2.2], rfl⟩
    · rw [modeB_neg h2] at kb
      have KB := hide kb
      have e : fitB a b = false := by simp [fitB, modeB_neg h2]
      clear ka kb ht
      rw [e]
      go_enter Tryz.func39, Tryz.ntmps39
      go_wp2_with (first | (go_at_call 32; with_reducible refine (KA.out).mono ?_; rintro e w' ⟨rfl, rfl⟩) | (go_at_call 32; with_reducible refine (KB.out).mono ?_; rintro e w' ⟨rfl, rfl⟩) | fail)
      go_ret
      exact ⟨rfl, rfl⟩
  · rw [modeB_neg h1] at ka
    have KA := hide ka
    have KB := hide kb
    have e : fitB a b = false := by simp [fitB, modeB_neg h1]
    clear ka kb ht
    rw [e]
    go_enter Tryz.func39, Tryz.ntmps39
    go_wp2_with (first | (go_at_call 32; with_reducible refine (KA.out).mono ?_; rintro e w' ⟨rfl, rfl⟩) | (go_at_call 32; with_reducible refine (KB.out).mono ?_; rintro e w' ⟨rfl, rfl⟩) | fail)
    go_ret
    exact ⟨rfl, rfl⟩
/-- What Joins may be given. -/
def jm (a : Int) : Prop := a = 0 ∨ (1 ≤ a ∧ a ≤ 5)
theorem joinI_no {a b : Int} (h : ¬ (jm a ∧ jm b)) : joinI a b = 0 := by
  unfold joinI; rw [if_neg]; simpa [jm, modeB_iff] using h
theorem joinI_yes {a b : Int} (h1 : jm a) (h2 : jm b) : joinI a b = joinT.getD (a.toNat * 6 + b.toNat) 0 := by
  unfold joinI; rw [if_pos]; simpa [jm, modeB_iff] using And.intro h1 h2
set_option maxRecDepth 100000 in
set_option maxHeartbeats 1000000 in
theorem joins_any (a b : Int) (w : World) (ht : Tb w) : Calls Tryz.prog 33 #[I a, I b] w fun e w' => e = .returned (I (joinI a b)) ∧ w' = w := by
  have KA := hide (isMode_any a w)
  have KB := hide (isMode_any b w)
  by_cases h1 : jm a
  · by_cases h2 : jm b
    · rw [joinI_yes h1 h2]
      have ha : modeB a = true ∨ a = 0 := h1.symm.imp (fun h => modeB_iff.2 h) id
      have hb : modeB b = true ∨ b = 0 := h2.symm.imp (fun h => modeB_iff.2 h) id
      obtain ⟨n, rfl⟩ : ∃ n : Nat, a = n := ⟨a.toNat, by rcases h1 with h | h <;> omega⟩
      obtain ⟨m, rfl⟩ : ∃ m : Nat, b = m := ⟨b.toNat, by rcases h2 with h | h <;> omega⟩
      have hn : n < 6 := by rcases h1 with h | h <;> omega
      have hm : m < 6 := by rcases h2 with h | h <;> omega
      have hc := ht.j (n * 6 + m) (by omega)
      clear h1 h2 ht
      rcases ha with ha | ha
      · have n0 : ¬ n = 0 := by have := modeB_iff.1 ha; omega
        rw [ha] at KA
        rcases hb with hb | hb
        · have m0 : ¬ m = 0 := by have := modeB_iff.1 hb; omega
          rw [hb] at KB
          clear ha hb
          go_enter Tryz.func33, Tryz.ntmps33
          go_wp2_with (first | (go_at_call 32; with_reducible refine (KA.out).mono ?_; rintro e w' ⟨rfl, rfl⟩) | (go_at_call 32; with_reducible refine (KB.out).mono ?_; rintro e w' ⟨rfl, rfl⟩) | fail)
          go_ret
          exact ⟨by first | rfl | simp, rfl⟩
        · obtain rfl : m = 0 := by omega
          rw [Nat.add_zero] at hc
          clear ha hb
          go_enter Tryz.func33, Tryz.ntmps33
          go_wp2_with (first | (go_at_call 32; with_reducible refine (KA.out).mono ?_; rintro e w' ⟨rfl, rfl⟩) | (go_at_call 32; with_reducible refine (KB.out).mono ?_; rintro e w' ⟨rfl, rfl⟩) | fail)
          go_ret
          exact ⟨by first | rfl | simp, rfl⟩
      · obtain rfl : n = 0 := by omega
        rcases hb with hb | hb
        · have m0 : ¬ m = 0 := by have := modeB_iff.1 hb; omega
          rw [hb] at KB
          rw [Nat.zero_mul, Nat.zero_add] at hc
          clear ha hb
          go_enter Tryz.func33, Tryz.ntmps33
          go_wp2_with (first | (go_at_call 32; with_reducible refine (KA.out).mono ?_; rintro e w' ⟨rfl, rfl⟩) | (go_at_call 32; with_reducible refine (KB.out).mono ?_; rintro e w' ⟨rfl, rfl⟩) | fail)
          go_ret
          exact ⟨by first | rfl | simp, rfl⟩
        · obtain rfl : m = 0 := by omega
          clear ha hb
          go_enter Tryz.func33, Tryz.ntmps33
          go_wp2_with (first | (go_at_call 32; with_reducible refine (KA.out).mono ?_; rintro e w' ⟨rfl, rfl⟩) | (go_at_call 32; with_reducible refine (KB.out).mono ?_; rintro e w' ⟨rfl, rfl⟩) | fail)
          go_ret
          exact ⟨by first | rfl | simp, rfl⟩
    · rw [joinI_no (fun h => h2 h.2)]
      rw [modeB_neg (fun h => h2 (.inr h))] at KB
      have m0 : ¬ b = 0 := fun h => h2 (.inl h)
      clear ht h2
      rcases h1 with rfl | h1
      · go_enter Tryz.func33, Tryz.ntmps33
        go_wp2_with (first | (go_at_call 32; with_reducible refine (KA.out).mono ?_; rintro e w' ⟨rfl, rfl⟩) | (go_at_call 32; with_reducible refine (KB.out).mono ?_; rintro e w' ⟨rfl, rfl⟩) | fail)
        go_ret
        exact ⟨by first | rfl | simp, rfl⟩
      · rw [modeB_pos h1.1 h1.2] at KA
        have n0 : ¬ a = 0 := by omega
        go_enter Tryz.func33, Tryz.ntmps33
        go_wp2_with (first | (go_at_call 32; with_reducible refine (KA.out).mono ?_; rintro e w' ⟨rfl, rfl⟩) | (go_at_call 32; with_reducible refine (KB.out).mono ?_; rintro e w' ⟨rfl, rfl⟩) | fail)
        go_ret
        exact ⟨by first | rfl | simp, rfl⟩
  · rw [joinI_no (fun h => h1 h.1)]
    rw [modeB_neg (fun h => h1 (.inr h))] at KA
    have n0 : ¬ a = 0 := fun h => h1 (.inl h)
    clear ht h1
    go_enter Tryz.func33, Tryz.ntmps33
    go_wp2_with (first | (go_at_call 32; with_reducible refine (KA.out).mono ?_; rintro e w' ⟨rfl, rfl⟩) | (go_at_call 32; with_reducible refine (KB.out).mono ?_; rintro e w' ⟨rfl, rfl⟩) | fail)
    go_ret
    exact ⟨by first | rfl | simp, rfl⟩
end Go.Proofs.YtkbgifhhnnfgoaaGreatDoor
