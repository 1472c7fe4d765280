/- Floats that are no whole numbers: the quotient that does not come out even. Plain mathematics, no program. -/
import Derived.Test.YtficmpaeochcgaaGreatDoorFlDiv
namespace Go.Proofs.YtficmpaeochcgaaGreatDoor
open Ieee

theorem cut_zero (s : Bool) (M P : Nat) : Toward.zero.cut s M P = M / 2 ^ P := by
  unfold Toward.cut
  by_cases c : P ≤ M.log2 + 2
  · have hm : min P (M.log2 + 2) = P := by omega
    have e1 : 1 <<< P = 2 ^ P := by rw [Nat.shiftLeft_eq]; omega
    simp only [hm, e1, Bool.toNat_false, Nat.add_zero]
  · have hm : min P (M.log2 + 2) = M.log2 + 2 := by omega
    have e1 : 1 <<< (M.log2 + 2) = 2 ^ (M.log2 + 2) := by rw [Nat.shiftLeft_eq]; omega
    have hM : M < 2 ^ (M.log2 + 2) := by
      by_cases z : M = 0
      · rw [z]; exact Nat.two_pow_pos _
      · have := ((Nat.log2_eq_iff z).1 rfl).2
        exact Nat.lt_of_lt_of_le this (Nat.pow_le_pow_right (by decide) (by omega))
    have hM2 : M < 2 ^ P := Nat.lt_of_lt_of_le hM (Nat.pow_le_pow_right (by decide) (by omega))
    simp only [hm, e1, Nat.div_eq_of_lt hM, Nat.div_eq_of_lt hM2, Bool.toNat_false]
/-- What trunc makes of it. -/
def tr (x : Nat) : Nat := double.write ((double.read x).integral .zero)
theorem trunc_read {x : Nat} {s : Bool} {M P : Nat} (rd : double.read x = .number s M (-(P : Int))) (h : M / 2 ^ P < 2 ^ 53) :
    Fl (tr x) (if s then -((M / 2 ^ P : Nat) : Int) else ((M / 2 ^ P : Nat) : Int)) := by
  unfold tr
  rw [rd]
  simp only [Datum.integral]
  have e1 : (-(P : Int)).toNat = 0 := by omega
  have e2 : (- -(P : Int)).toNat = P := by omega
  rw [e1, e2, Nat.shiftLeft_zero, cut_zero]
  generalize M / 2 ^ P = q at h
  cases s
  · have := fl_write false (q : Int) 0 (by simpa using h) (fun _ => by simp)
    simpa using this
  · have := fl_write true (-(q : Int)) 0 (by simpa using h) (fun hq => by simp; omega)
    simpa using this
theorem order_self {x : Nat} {s : Bool} {M : Nat} {p : Int} (rd : double.read x = .number s M p) : double.order x x = some .eq := by
  show (double.read x).order (double.read x) = _
  rw [rd]
  simp [Datum.order, compare, compareOfLessAndEq]
theorem signed_abs (s : Bool) (m up : Nat) : (signed s m up).natAbs = m * 2 ^ up := by
  unfold signed
  rw [Nat.shiftLeft_eq]
  generalize m * 2 ^ up = q
  cases s <;> simp
theorem order_tr_ne {x : Nat} {s : Bool} {M P : Nat} (rd : double.read x = .number s M (-(P : Int))) (h : M / 2 ^ P < 2 ^ 53) (hne : M % 2 ^ P ≠ 0) : (double.order (tr x) x != some .eq) = true := by
  obtain ⟨_, t, k, rt, _⟩ := trunc_read rd h
  show ((double.read (tr x)).order (double.read x) != some .eq) = true
  rw [rt, rd]
  have eb : min (-(k : Int)) (-(P : Int)) = -((max k P : Nat) : Int) := by omega
  have e1 : (-(k : Int) - -((max k P : Nat) : Int)).toNat = max k P - k := by omega
  have e2 : (-(P : Int) - -((max k P : Nat) : Int)).toNat = max k P - P := by omega
  simp only [Datum.order, eb, e1, e2]
  have ha : (if s = true then -((M / 2 ^ P : Nat) : Int) else ((M / 2 ^ P : Nat) : Int)).natAbs = M / 2 ^ P := by
    generalize M / 2 ^ P = q
    cases s <;> simp
  rw [ha]
  have key : signed t (M / 2 ^ P * 2 ^ k) (max k P - k) ≠ signed s M (max k P - P) := fun he => by
    have h1 := congrArg Int.natAbs he
    rw [signed_abs, signed_abs] at h1
    have h2 : M / 2 ^ P * 2 ^ k * 2 ^ (max k P - k) = M / 2 ^ P * 2 ^ P * 2 ^ (max k P - P) := by
      rw [Nat.mul_assoc, Nat.mul_assoc, ← Nat.pow_add, ← Nat.pow_add]
      congr 2; omega
    rw [h2] at h1
    have h3 := Nat.eq_of_mul_eq_mul_right (Nat.two_pow_pos _) h1
    have h4 := Nat.div_add_mod M (2 ^ P)
    rw [Nat.mul_comm] at h4
    omega
  generalize signed t (M / 2 ^ P * 2 ^ k) (max k P - k) = a at key
  generalize signed s M (max k P - P) = b at key
  simp only [compare, compareOfLessAndEq]
  by_cases c : a < b
  · simp [c]
  · simp [c, key]
theorem order_tr_eq {x : Nat} {a : Int} (h : Fl x a) (ha : a.natAbs < 2 ^ 53) : (double.order (tr x) x != some .eq) = false := by
  have e : double.order (tr x) x = some (compare a a) := (h.integral ha .zero).1.order h
  rw [e]
  simp [compare, compareOfLessAndEq]
theorem order_most {x : Nat} {s : Bool} {M P : Nat} (hx : x < 2 ^ 64) (rd : double.read x = .number s M (-(P : Int))) (h : M ≤ 33554432 * 2 ^ P) : (double.order (x % 9223372036854775808) 4719772409484279808 == some .gt) = false := by
  obtain ⟨_, t, k, rt, ht⟩ := Fl.most
  have ht' := ht (by decide)
  simp at ht'
  subst ht'
  have r2 := read_strike x hx rd
  show ((double.read (x % 9223372036854775808)).order (double.read 4719772409484279808) == some .gt) = false
  rw [r2, rt]
  have eb : min (-(P : Int)) (-(k : Int)) = -((max k P : Nat) : Int) := by omega
  have e1 : (-(k : Int) - -((max k P : Nat) : Int)).toNat = max k P - k := by omega
  have e2 : (-(P : Int) - -((max k P : Nat) : Int)).toNat = max k P - P := by omega
  simp only [Datum.order, eb, e1, e2]
  have key : signed false M (max k P - P) ≤ signed false (Int.natAbs 33554432 * 2 ^ k) (max k P - k) := by
    unfold signed
    simp only [Nat.shiftLeft_eq, Bool.false_eq_true, if_false]
    have h2 : Int.natAbs 33554432 * 2 ^ k * 2 ^ (max k P - k) = 33554432 * 2 ^ P * 2 ^ (max k P - P) := by
      rw [Nat.mul_assoc, Nat.mul_assoc, ← Nat.pow_add, ← Nat.pow_add]
      have : k + (max k P - k) = P + (max k P - P) := by omega
      rw [this]; rfl
    rw [h2]
    exact_mod_cast Nat.mul_le_mul_right _ h
  generalize signed false M (max k P - P) = a at key
  generalize signed false (Int.natAbs 33554432 * 2 ^ k) (max k P - k) = b at key
  simp only [compare, compareOfLessAndEq]
  by_cases c : a < b
  · simp [c]
  · have : a = b := by omega
    simp [this]
/-- The quotient stays within a bound that the exact one keeps. -/
theorem Quo.le {N d M P K : Nat} (h : Quo N d M P) (hN : N ≤ K * d) : M ≤ K * 2 ^ P := by
  have h1 : N / d ≤ K := Nat.div_le_of_le_mul (by rw [Nat.mul_comm]; exact hN)
  rcases Nat.lt_or_ge (N / d) K with c | c
  · exact Nat.le_of_lt (Nat.lt_of_lt_of_le h.hi (Nat.mul_le_mul_right _ c))
  · have e : N / d = K := by omega
    have e2 : N = N / d * d := by
      have := Nat.div_mul_le_self N d
      rw [e] at this ⊢
      omega
    rw [h.ex.2 e2, e]
    exact Nat.le_refl _
end Go.Proofs.YtficmpaeochcgaaGreatDoor
