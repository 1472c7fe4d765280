/- The mathematics of the division with a rest. Plain. -/
import Derived.Test.YtnoajhegcjoebaaGreatDoorRingVals
namespace Go.Proofs.YtnoajhegcjoebaaGreatDoor

theorem abs_le_sq (c : Int) : (c.natAbs : Int) ≤ c * c := by
  have h : ((c.natAbs * c.natAbs : Nat) : Int) = c * c := Int.natAbs_mul_self
  rw [← h]
  have : c.natAbs ≤ c.natAbs * c.natAbs := by
    by_cases z : c.natAbs = 0
    · rw [z]; exact Nat.le_refl _
    · exact Nat.le_mul_of_pos_left _ (by omega)
  exact_mod_cast this
theorem mul_abs_bd (m a c : Int) (ha : Bd m a) : Bd (m * (c * c)) (a * c) := by
  have h1 : (a * c).natAbs = a.natAbs * c.natAbs := Int.natAbs_mul a c
  have h2 : (a.natAbs : Int) ≤ m := by obtain ⟨x, y⟩ := ha; omega
  have h3 := abs_le_sq c
  have h4 : ((a.natAbs * c.natAbs : Nat) : Int) ≤ m * (c * c) := by
    rw [Int.natCast_mul]
    exact Int.mul_le_mul h2 h3 (by omega) (by omega)
  rw [← h1] at h4
  constructor <;> omega
/-- x conj y, against the norm of y. -/
theorem top_bd (m a b c d : Int) (ha : Bd m a) (hb : Bd m b) : Bd (m * (c * c + d * d)) (a * c - b * -d) ∧ Bd (m * (c * c + d * d)) (a * -d + b * c) := by
  have h1 := mul_abs_bd m a c ha
  have h2 := mul_abs_bd m b d hb
  have h3 := mul_abs_bd m a d ha
  have h4 := mul_abs_bd m b c hb
  rw [Int.mul_neg, Int.mul_neg, Int.mul_add]
  obtain ⟨x1, y1⟩ := h1; obtain ⟨x2, y2⟩ := h2; obtain ⟨x3, y3⟩ := h3; obtain ⟨x4, y4⟩ := h4
  constructor <;> constructor <;> omega
theorem quot_bd (m n D p : Int) (hD : 0 < D) (hn : Bd (m * D) n) (h1 : p * (2 * D) ≤ 2 * n + D) (h2 : 2 * n + D < (p + 1) * (2 * D)) : Bd m p := by
  obtain ⟨x, y⟩ := hn
  have e1 : p * (2 * D) = 2 * (p * D) := by rw [← Int.mul_assoc, Int.mul_comm p 2, Int.mul_assoc]
  have e2 : (p + 1) * (2 * D) = 2 * (p * D) + 2 * D := by rw [Int.add_mul, e1]; omega
  rw [e1] at h1; rw [e2] at h2
  constructor
  · refine Int.not_lt.1 fun c => ?_
    have : p * D ≤ (-m - 1) * D := Int.mul_le_mul_of_nonneg_right (by omega) (by omega)
    rw [Int.sub_mul, Int.neg_mul, Int.one_mul] at this
    omega
  · refine Int.not_lt.1 fun c => ?_
    have : (m + 1) * D ≤ p * D := Int.mul_le_mul_of_nonneg_right (by omega) (by omega)
    rw [Int.add_mul, Int.one_mul] at this
    omega
theorem rest_re (a b c d p q : Int) : (a - (c * p - d * q)) * c - (b - (c * q + d * p)) * -d = (a * c - b * -d) - (c * c + d * d) * p := by
  have e1 : c * p * c = c * c * p := by ac_rfl
  have e2 : d * q * c = c * q * d := by ac_rfl
  have e3 : d * p * d = d * d * p := by ac_rfl
  simp only [Int.sub_mul, Int.add_mul, Int.mul_neg]
  omega
theorem rest_im (a b c d p q : Int) : (a - (c * p - d * q)) * -d + (b - (c * q + d * p)) * c = (a * -d + b * c) - (c * c + d * d) * q := by
  have e1 : c * p * d = d * p * c := by ac_rfl
  have e2 : d * q * d = d * d * q := by ac_rfl
  have e3 : c * q * c = c * c * q := by ac_rfl
  simp only [Int.sub_mul, Int.add_mul, Int.mul_neg]
  omega
theorem sq_le {s D : Int} (h1 : -D ≤ 2 * s) (h2 : 2 * s ≤ D) : 4 * (s * s) ≤ D * D := by
  have h : (2 * s).natAbs ≤ D.natAbs := by omega
  have h3 := Nat.mul_le_mul h h
  have e1 : (((2 * s).natAbs * (2 * s).natAbs : Nat) : Int) = 2 * s * (2 * s) := Int.natAbs_mul_self
  have e2 : ((D.natAbs * D.natAbs : Nat) : Int) = D * D := Int.natAbs_mul_self
  have h4 : (((2 * s).natAbs * (2 * s).natAbs : Nat) : Int) ≤ ((D.natAbs * D.natAbs : Nat) : Int) := by exact_mod_cast h3
  rw [e1, e2] at h4
  have e3 : 2 * s * (2 * s) = 4 * (s * s) := by
    rw [Int.mul_assoc, Int.mul_left_comm s 2 s]; omega
  omega
/-- The rest's norm is at most half of the divisor's. -/
theorem rest_small (a b c d p q : Int) (hD : 0 < c * c + d * d) (hp1 : p * (2 * (c * c + d * d)) ≤ 2 * (a * c - b * -d) + (c * c + d * d)) (hp2 : 2 * (a * c - b * -d) + (c * c + d * d) < (p + 1) * (2 * (c * c + d * d)))
    (hq1 : q * (2 * (c * c + d * d)) ≤ 2 * (a * -d + b * c) + (c * c + d * d)) (hq2 : 2 * (a * -d + b * c) + (c * c + d * d) < (q + 1) * (2 * (c * c + d * d))) :
    2 * ((a - (c * p - d * q)) * (a - (c * p - d * q)) + (b - (c * q + d * p)) * (b - (c * q + d * p))) ≤ c * c + d * d := by
  have i1 := rest_re a b c d p q
  have i2 := rest_im a b c d p q
  have sq := sq_mul (a - (c * p - d * q)) (b - (c * q + d * p)) c (-d)
  have nd : -d * -d = d * d := by rw [Int.neg_mul, Int.mul_neg]; omega
  rw [nd, i1, i2] at sq
  generalize (a - (c * p - d * q)) * (a - (c * p - d * q)) + (b - (c * q + d * p)) * (b - (c * q + d * p)) = N at sq ⊢
  generalize a * c - b * -d = n1 at *
  generalize a * -d + b * c = n2 at *
  generalize c * c + d * d = D at *
  clear i1 i2 nd
  have e1 : p * (2 * D) = 2 * (D * p) := by rw [← Int.mul_assoc, Int.mul_comm p 2, Int.mul_assoc, Int.mul_comm p D]
  have e2 : q * (2 * D) = 2 * (D * q) := by rw [← Int.mul_assoc, Int.mul_comm q 2, Int.mul_assoc, Int.mul_comm q D]
  have e3 : (p + 1) * (2 * D) = 2 * (D * p) + 2 * D := by rw [Int.add_mul, e1]; omega
  have e4 : (q + 1) * (2 * D) = 2 * (D * q) + 2 * D := by rw [Int.add_mul, e2]; omega
  rw [e1] at hp1; rw [e2] at hq1; rw [e3] at hp2; rw [e4] at hq2
  have s1 := sq_le (s := n1 - D * p) (D := D) (by omega) (by omega)
  have s2 := sq_le (s := n2 - D * q) (D := D) (by omega) (by omega)
  have h : 2 * N * D ≤ D * D := by
    have : 2 * N * D = 2 * (N * D) := Int.mul_assoc _ _ _
    rw [this, ← sq]
    omega
  exact Int.le_of_mul_le_mul_right h hD
theorem part_of_sq {r s M : Int} (h : 2 * (r * r + s * s) ≤ 2 * (M * M)) (hM : 0 ≤ M) : Bd M r := by
  have hs : 0 ≤ s * s := by have : ((s.natAbs * s.natAbs : Nat) : Int) = s * s := Int.natAbs_mul_self
                            omega
  have hr : ((r.natAbs * r.natAbs : Nat) : Int) = r * r := Int.natAbs_mul_self
  have hm : ((M.natAbs * M.natAbs : Nat) : Int) = M * M := Int.natAbs_mul_self
  have h1 : r.natAbs ≤ M.natAbs := by
    refine Nat.not_lt.1 fun c => ?_
    have : M.natAbs * M.natAbs < r.natAbs * r.natAbs := Nat.mul_lt_mul_of_lt_of_lt c c
    omega
  constructor <;> omega
theorem sq_pos {c d : Int} (h : c ≠ 0 ∨ d ≠ 0) : 0 < c * c + d * d := by
  have h1 := abs_le_sq c
  have h2 := abs_le_sq d
  omega
theorem sq_bd {m c d : Int} (hc : Bd m c) (hd : Bd m d) : c * c + d * d ≤ 2 * (m * m) := by
  have h1 := (hc.mul hc).2
  have h2 := (hd.mul hd).2
  omega
/-- The quotient, divided back. -/
theorem back_re (c d p q : Int) : (c * p - d * q) * c - (c * q + d * p) * -d = p * (c * c + d * d) := by
  have e1 : c * p * c = p * (c * c) := by ac_rfl
  have e2 : d * q * c = c * q * d := by ac_rfl
  have e3 : d * p * d = p * (d * d) := by ac_rfl
  simp only [Int.sub_mul, Int.add_mul, Int.mul_neg, Int.mul_add]
  omega
theorem back_im (c d p q : Int) : (c * p - d * q) * -d + (c * q + d * p) * c = q * (c * c + d * d) := by
  have e1 : c * p * d = d * p * c := by ac_rfl
  have e2 : d * q * d = q * (d * d) := by ac_rfl
  have e3 : c * q * c = q * (c * c) := by ac_rfl
  simp only [Int.sub_mul, Int.add_mul, Int.mul_neg, Int.mul_add]
  omega
end Go.Proofs.YtnoajhegcjoebaaGreatDoor
