/- Whole numbers: sums, differences, products that are no int64. -/
import Derived.Test.YtnoajhegcjoebabGreatDoorArithW
namespace Go.Proofs.YtnoajhegcjoebabGreatDoor
open Go.RowKit

set_option maxRecDepth 100000 in
set_option maxHeartbeats 400000 in
theorem addWhole_no (a b : Int) (ha : I64 a) (hb : I64 b) (h : ¬ I64 (a + b)) (w : World) : Calls Tryz.prog 154 #[.int .i64 a, .int .i64 b] w fun e w' => e = .returned (.tuple #[.nilIface, .int .i64 11]) ∧ w' = w := by
  obtain ⟨a1, a2⟩ := ha; obtain ⟨b1, b2⟩ := hb
  unfold I64 at h
  by_cases c : 0 < b
  · have hw : wrap64 (a + b) = a + b - 18446744073709551616 := by unfold wrap64; omega
    have c1 : ¬ a < a + b - 18446744073709551616 := by omega
    clear h
    go_enter Tryz.func154, Tryz.ntmps154
    go_wp2
    go_ret2
    exact ⟨rfl, rfl⟩
  · have hw : wrap64 (a + b) = a + b + 18446744073709551616 := by unfold wrap64; omega
    have c1 : a < a + b + 18446744073709551616 := by omega
    clear h
    go_enter Tryz.func154, Tryz.ntmps154
    go_wp2
    go_ret2
    exact ⟨rfl, rfl⟩
set_option maxRecDepth 100000 in
set_option maxHeartbeats 400000 in
theorem subWhole_no (a b : Int) (ha : I64 a) (hb : I64 b) (h : ¬ I64 (a - b)) (w : World) : Calls Tryz.prog 155 #[.int .i64 a, .int .i64 b] w fun e w' => e = .returned (.tuple #[.nilIface, .int .i64 11]) ∧ w' = w := by
  obtain ⟨a1, a2⟩ := ha; obtain ⟨b1, b2⟩ := hb
  unfold I64 at h
  by_cases c : 0 < b
  · have hw : wrap64 (a - b) = a - b + 18446744073709551616 := by unfold wrap64; omega
    have c1 : ¬ a - b + 18446744073709551616 < a := by omega
    clear h
    go_enter Tryz.func155, Tryz.ntmps155
    go_wp2
    go_ret2
    exact ⟨rfl, rfl⟩
  · have hw : wrap64 (a - b) = a - b - 18446744073709551616 := by unfold wrap64; omega
    have c1 : a - b - 18446744073709551616 < a := by omega
    clear h
    go_enter Tryz.func155, Tryz.ntmps155
    go_wp2
    go_ret2
    exact ⟨rfl, rfl⟩
theorem wrap_mod (n : Int) : ∃ k : Int, wrap64 n = n + 18446744073709551616 * k ∧ I64 (wrap64 n) := by
  refine ⟨-((n + 9223372036854775808) / 18446744073709551616), ?_, ?_, ?_⟩ <;> unfold wrap64 <;> omega
/-- A product that wrapped does not divide back. -/
theorem no_back (a b : Int) (ha : I64 a) (ha0 : a ≠ 0) (hm1 : a ≠ -1) (h : ¬ I64 (a * b)) : (wrap64 (a * b)).tdiv a ≠ b := by
  intro e
  obtain ⟨k, hk, hi⟩ := wrap_mod (a * b)
  have h1 := Int.mul_tdiv_add_tmod (wrap64 (a * b)) a
  rw [e] at h1
  have h2 : ((wrap64 (a * b)).tmod a).natAbs < a.natAbs := by
    rw [Int.natAbs_tmod]
    exact Nat.mod_lt _ (by omega)
  have h3 : a.natAbs ≤ 9223372036854775808 := by obtain ⟨x, y⟩ := ha; omega
  have h4 : (wrap64 (a * b)).tmod a = 18446744073709551616 * k := by omega
  have hk0 : k = 0 := by omega
  rw [hk0] at hk
  rw [hk] at hi
  exact h (by simpa using hi)
theorem div_bd (p a : Int) (hp : I64 p) (ha0 : a ≠ 0) (hm1 : a ≠ -1) : I64 (p.tdiv a) := by
  obtain ⟨h1, h2⟩ := hp
  have hn : (p.tdiv a).natAbs = p.natAbs / a.natAbs := Int.natAbs_tdiv _ _
  by_cases h3 : a = 1
  · subst h3
    rw [Int.tdiv_one]; exact ⟨h1, h2⟩
  · have h4 : 2 ≤ a.natAbs := by omega
    have h5 : p.natAbs / a.natAbs ≤ p.natAbs / 2 := Nat.div_le_div_left h4 (by decide)
    unfold I64; omega
set_option maxRecDepth 100000 in
set_option maxHeartbeats 400000 in
theorem mulWhole_no (a b : Int) (ha : I64 a) (hb : I64 b) (h : ¬ I64 (a * b)) (w : World) : Calls Tryz.prog 156 #[.int .i64 a, .int .i64 b] w fun e w' => e = .returned (.tuple #[.nilIface, .int .i64 11]) ∧ w' = w := by
  have a0 : a ≠ 0 := fun e => h (by rw [e, Int.zero_mul]; unfold I64; omega)
  have z : (a == 0) = false := by simpa using a0
  by_cases c : a = -1
  · subst c
    have e : b = -9223372036854775808 := by unfold I64 at *; omega
    subst e
    clear h ha hb
    have hw : wrap64 9223372036854775808 = -9223372036854775808 := by unfold wrap64; omega
    go_enter Tryz.func156, Tryz.ntmps156
    go_wp2
    go_ret2
    exact ⟨rfl, rfl⟩
  · have n := no_back a b ha a0 c h
    obtain ⟨_, -, hi⟩ := wrap_mod (a * b)
    have hd := div_bd (wrap64 (a * b)) a hi a0 c
    obtain ⟨i1, i2⟩ := hi
    obtain ⟨d1, d2⟩ := hd
    have hw2 : wrap64 ((wrap64 (a * b)).tdiv a) = (wrap64 (a * b)).tdiv a := by unfold wrap64 at *; omega
    have n' : ((wrap64 (a * b)).tdiv a == b) = false := by simpa using n
    have m1 : (a == -1) = false := by simpa using c
    clear h ha hb
    go_enter Tryz.func156, Tryz.ntmps156
    go_wp2
    go_ret2
    exact ⟨rfl, rfl⟩
end Go.Proofs.YtnoajhegcjoebabGreatDoor
