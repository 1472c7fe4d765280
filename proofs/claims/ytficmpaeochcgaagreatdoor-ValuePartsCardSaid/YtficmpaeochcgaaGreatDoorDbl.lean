/- Doubles by their exact value, times 2^1074: how they stand to one another, what is cut off of them. Plain mathematics, no program. -/
import Derived.Test.YtficmpaeochcgaaGreatDoorFlNo
namespace Go.Proofs.YtficmpaeochcgaaGreatDoor
open Ieee

theorem signed_eq (s : Bool) (m u : Nat) : signed s m u = (if s then -1 else 1) * ((m * 2 ^ u : Nat) : Int) := by
  unfold signed
  rw [Nat.shiftLeft_eq]
  cases s <;> simp
theorem signed_add (s : Bool) (m u v : Nat) : signed s m (u + v) = signed s m u * ((2 ^ v : Nat) : Int) := by
  rw [signed_eq, signed_eq, Nat.pow_add, ← Nat.mul_assoc, Int.natCast_mul, Int.mul_assoc]
theorem compare_mul (a b : Int) (c : Nat) (h : 0 < c) : compare (a * (c : Int)) (b * (c : Int)) = compare a b := by
  have h1 : a * (c : Int) < b * (c : Int) ↔ a < b := Int.mul_lt_mul_right (by omega)
  have h2 : a * (c : Int) = b * (c : Int) ↔ a = b := Int.mul_eq_mul_right_iff (by omega)
  simp only [compare, compareOfLessAndEq, h1, h2]
/-- x is a number whose value, times 2^1074, is v. -/
def Nu (x : Nat) (v : Int) : Prop := ∃ (s : Bool) (m : Nat) (p : Int), double.read x = .number s m p ∧ -1074 ≤ p ∧ signed s m (p + 1074).toNat = v
theorem read_cases (x : Nat) : (∃ s f, double.read x = .nan s f) ∨ (∃ s, double.read x = .infinity s) ∨ ∃ v, Nu x v := by
  have e : ∀ D, double.read x = D → (∃ s f, D = .nan s f) ∨ (∃ s, D = .infinity s) ∨ ∃ s m p, D = .number s m p ∧ (-1074 : Int) ≤ p := by
    intro D hD
    unfold Format.read at hD
    dsimp only at hD
    rw [d_least] at hD
    split at hD
    · exact .inr (.inr ⟨_, _, _, hD.symm, by omega⟩)
    · split at hD
      · exact .inr (.inr ⟨_, _, _, hD.symm, by omega⟩)
      · split at hD
        · exact .inr (.inl ⟨_, hD.symm⟩)
        · exact .inl ⟨_, _, hD.symm⟩
  rcases e _ rfl with h | h | ⟨s, m, p, h, hp⟩
  · exact .inl h
  · exact .inr (.inl h)
  · exact .inr (.inr ⟨_, s, m, p, h, hp, rfl⟩)
theorem Nu.order {x y : Nat} {v u : Int} (hx : Nu x v) (hy : Nu y u) : double.order x y = some (compare v u) := by
  obtain ⟨s, m, i, rx, hi, rfl⟩ := hx
  obtain ⟨t, n, j, ry, hj, rfl⟩ := hy
  show (double.read x).order (double.read y) = _
  rw [rx, ry]
  simp only [Datum.order]
  have e1 : (i + 1074).toNat = (i - min i j).toNat + (min i j + 1074).toNat := by omega
  have e2 : (j + 1074).toNat = (j - min i j).toNat + (min i j + 1074).toNat := by omega
  rw [e1, e2, signed_add, signed_add, compare_mul _ _ _ (Nat.two_pow_pos _)]
theorem Nu.read {x : Nat} {v : Int} (h : Nu x v) : ∃ s m p, double.read x = .number s m p := by
  obtain ⟨s, m, p, h, _⟩ := h
  exact ⟨s, m, p, h⟩
theorem Fl.nu {y : Nat} {n : Int} (h : Fl y n) (L : Nat) (hL : L = 1074) : Nu y (n * 2 ^ L) := by
  obtain ⟨_, s, k, hr, hs⟩ := h
  rcases read_cases y with ⟨_, _, h1⟩ | ⟨_, h1⟩ | ⟨v, s', m', p', h1, hp, hv⟩
  · rw [hr] at h1; cases h1
  · rw [hr] at h1; cases h1
  · rw [hr] at h1
    obtain ⟨rfl, rfl, rfl⟩ : s = s' ∧ n.natAbs * 2 ^ k = m' ∧ -(k : Int) = p' := by cases h1; exact ⟨rfl, rfl, rfl⟩
    refine ⟨s, _, _, hr, hp, ?_⟩
    have e : (-(k : Int) + 1074).toNat = L - k := by omega
    rw [e, signed_of hs, show k + (L - k) = L by omega]
theorem Nu.strike {x : Nat} {v : Int} (hx : x < 2 ^ 64) (h : Nu x v) : Nu (x % 9223372036854775808) (v.natAbs : Int) := by
  obtain ⟨s, m, p, hr, hp, rfl⟩ := h
  refine ⟨false, m, p, read_strike x hx hr, hp, ?_⟩
  rw [signed_abs, signed_eq]
  simp
theorem nat_of {n L : Nat} (h : (n : Int) ≤ 33554432 * 2 ^ L) : n ≤ 33554432 * 2 ^ L := Int.ofNat_le.1 (by rw [Int.natCast_mul, Int.natCast_pow]; exact h)
/-- What is left when a number is cut. -/
theorem Nu.whole {x : Nat} {v : Int} (h : Nu x v) (L : Nat) (hL : L = 1074) (hv : v.natAbs ≤ 33554432 * 2 ^ L) : ∃ n : Int, n.natAbs ≤ 33554432 ∧ Go.floatToIntVal .f64 x .i64 = some n ∧ Fl (tr x) n := by
  obtain ⟨s, m, p, hr, hp, rfl⟩ := h
  rw [signed_abs] at hv
  have hq : (m <<< p.toNat) / 2 ^ (-p).toNat ≤ 33554432 := by
    rw [Nat.shiftLeft_eq]
    refine Nat.div_le_of_le_mul ?_
    have hU : (0 : Nat) < 2 ^ L := Nat.two_pow_pos _
    rcases Int.le_total p 0 with c | c
    · have e1 : p.toNat = 0 := by omega
      have e2 : L = (p + 1074).toNat + (-p).toNat := by omega
      rw [e1, Nat.pow_zero, Nat.mul_one]
      generalize hk : (p + 1074).toNat = k at *
      generalize (-p).toNat = j at *
      rw [e2, Nat.pow_add] at hv
      have : m * 2 ^ k ≤ (2 ^ j * 33554432) * 2 ^ k := by
        have e3 : (2 ^ j * 33554432) * 2 ^ k = 33554432 * (2 ^ k * 2 ^ j) := by
          rw [Nat.mul_comm (2 ^ j) 33554432, Nat.mul_assoc, Nat.mul_comm (2 ^ j) (2 ^ k)]
        rw [e3]; exact hv
      exact Nat.le_of_mul_le_mul_right this (Nat.two_pow_pos _)
    · have e1 : (-p).toNat = 0 := by omega
      have e2 : (p + 1074).toNat = p.toNat + L := by omega
      rw [e1, Nat.pow_zero, Nat.one_mul]
      rw [e2, Nat.pow_add, ← Nat.mul_assoc] at hv
      exact Nat.le_of_mul_le_mul_right hv hU
  refine ⟨signed s ((m <<< p.toNat) / 2 ^ (-p).toNat) 0, ?_, ?_, ?_⟩
  · rw [signed_abs, Nat.pow_zero, Nat.mul_one]; exact hq
  · have e : (FloatKind.f64.decode x).toInt .zero = some (signed s ((m <<< p.toNat) / 2 ^ (-p).toNat) 0) := by
      show (double.read x).toInt .zero = _
      rw [hr]
      simp only [Datum.toInt, Datum.integral, cut_zero]
    have hb : (signed s ((m <<< p.toNat) / 2 ^ (-p).toNat) 0).natAbs ≤ 33554432 := by rw [signed_abs, Nat.pow_zero, Nat.mul_one]; exact hq
    unfold Go.floatToIntVal
    rw [e]
    generalize signed s ((m <<< p.toNat) / 2 ^ (-p).toNat) 0 = n at hb
    have h1 : IntKind.i64.min = -9223372036854775808 := by decide
    have h2 : IntKind.i64.max = 9223372036854775807 := by decide
    exact if_pos ⟨by rw [h1]; omega, by rw [h2]; omega⟩
  · unfold tr
    rw [hr]
    simp only [Datum.integral, cut_zero]
    generalize (m <<< p.toNat) / 2 ^ (-p).toNat = q at hq
    have e : signed s q 0 = if s then -(q : Int) else (q : Int) := by unfold signed; cases s <;> simp
    rw [e]
    cases s
    · have := fl_write false (q : Int) 0 (by simp; omega) (fun _ => by simp)
      simpa using this
    · have := fl_write true (-(q : Int)) 0 (by simp; omega) (fun hq => by simp; omega)
      simpa using this
theorem Fl.least : Fl 13943144446339055616 (-33554432) := by
  have := Fl.most.neg
  exact (show Go.Op.negFloat .f64 4719772409484279808 = 13943144446339055616 by decide +kernel) ▸ this
/-- Is it greater than a part may be? -/
def bigB (x : Nat) : Bool := double.order (x % 9223372036854775808) 4719772409484279808 == some .gt
/-- Is it no whole number? -/
def frB (x : Nat) : Bool := double.order (tr x) x != some .eq
theorem gt_beq (a b : Int) : (some (compare a b) == some Ordering.gt) = decide (b < a) := by
  simp only [compare, compareOfLessAndEq]
  by_cases h : a < b
  · simp [h]; omega
  · by_cases h2 : a = b
    · simp [h2]
    · simp [h, h2]; omega
theorem lt_beq (a b : Int) : (some (compare a b) == some Ordering.lt) = decide (a < b) := by
  simp only [compare, compareOfLessAndEq]
  by_cases h : a < b
  · simp [h]
  · by_cases h2 : a = b
    · simp [h2]
    · simp [h, h2]
/-- Every double: no number; too great; or within the parts' bounds. -/
theorem dbl_cases (x : Nat) (hx : x < 2 ^ 64) :
    double.order x x = none
    ∨ (double.order x x = some .eq ∧ bigB x = true ∧ ((double.order x 13943144446339055616 == some .lt) = true ∨ ((double.order x 13943144446339055616 == some .lt) = false ∧ (double.order x 4719772409484279808 == some .gt) = true)))
    ∨ (double.order x x = some .eq ∧ bigB x = false ∧ (double.order x 13943144446339055616 == some .lt) = false ∧ (double.order x 4719772409484279808 == some .gt) = false ∧
        (∃ s m p, double.read x = .number s m p) ∧ ∃ n : Int, n.natAbs ≤ 33554432 ∧ Go.floatToIntVal .f64 x .i64 = some n ∧ Fl (tr x) n ∧ (double.order (floatOfInt .f64 n) x != some .eq) = frB x) := by
  obtain ⟨L, hL⟩ : ∃ L : Nat, L = 1074 := ⟨_, rfl⟩
  rcases read_cases x with ⟨s, f, h⟩ | ⟨s, h⟩ | ⟨v, h⟩
  · refine .inl ?_
    show (double.read x).order (double.read x) = _
    rw [h]; rfl
  · refine .inr (.inl ?_)
    obtain ⟨sm, mm, pm, hm⟩ := (Fl.most.nu L hL).read
    obtain ⟨sl, ml, pl, hl⟩ := (Fl.least.nu L hL).read
    have hs : double.read (x % 9223372036854775808) = .infinity false := by
      have : x % 9223372036854775808 = 9218868437227405312 := by
        unfold Format.read at h
        dsimp only at h
        rw [d_sw, d_inf] at h
        split at h
        · cases h
        · split at h
          · cases h
          · split at h
            · assumption
            · cases h
      rw [this]; decide +kernel
    refine ⟨?_, ?_, ?_⟩
    · show (double.read x).order (double.read x) = _
      rw [h]; cases s <;> rfl
    · show ((double.read (x % 9223372036854775808)).order (double.read 4719772409484279808) == some .gt) = true
      rw [hs, hm]; rfl
    · cases s
      · refine .inr ⟨?_, ?_⟩
        · show ((double.read x).order (double.read 13943144446339055616) == some .lt) = false
          rw [h, hl]; rfl
        · show ((double.read x).order (double.read 4719772409484279808) == some .gt) = true
          rw [h, hm]; rfl
      · refine .inl ?_
        show ((double.read x).order (double.read 13943144446339055616) == some .lt) = true
        rw [h, hl]; rfl
  · have h0 : double.order x x = some .eq := by rw [h.order h]; simp [compare, compareOfLessAndEq]
    have hb : bigB x = decide ((33554432 * 2 ^ L : Int) < v.natAbs) := by
      unfold bigB
      rw [(h.strike hx).order (Fl.most.nu L hL), gt_beq]
    have hl : (double.order x 13943144446339055616 == some .lt) = decide (v < -33554432 * 2 ^ L) := by rw [h.order (Fl.least.nu L hL), lt_beq]
    have hg : (double.order x 4719772409484279808 == some .gt) = decide ((33554432 * 2 ^ L : Int) < v) := by rw [h.order (Fl.most.nu L hL), gt_beq]
    have key : ∀ U : Int, U = 2 ^ L → (bigB x = true ∧ ((double.order x 13943144446339055616 == some .lt) = true ∨ ((double.order x 13943144446339055616 == some .lt) = false ∧ (double.order x 4719772409484279808 == some .gt) = true)))
        ∨ (bigB x = false ∧ (double.order x 13943144446339055616 == some .lt) = false ∧ (double.order x 4719772409484279808 == some .gt) = false ∧ (v.natAbs : Int) ≤ 33554432 * U) := by
      intro U hU
      rw [← hU] at hb hl hg
      rw [hb, hl, hg]
      have hU0 : 0 < U := by rw [hU]; exact pow2_pos L
      clear hb hl hg hU h0 h
      by_cases c : 33554432 * U < v.natAbs
      · refine .inl ⟨by simp [c], ?_⟩
        by_cases d : v < -33554432 * U
        · exact .inl (by simp [d])
        · exact .inr ⟨by simp [d], by simp; omega⟩
      · exact .inr ⟨by simp [c], by simp; omega, by simp; omega, by omega⟩
    rcases key _ rfl with ⟨k1, k2⟩ | ⟨k1, k2, k3, k4⟩
    · exact .inr (.inl ⟨h0, k1, k2⟩)
    · refine .inr (.inr ⟨h0, k1, k2, k3, h.read, ?_⟩)
      obtain ⟨n, hn, hi, hf⟩ := h.whole L hL (nat_of k4)
      refine ⟨n, hn, hi, hf, ?_⟩
      unfold frB
      rw [(hf.nu L hL).order h, ((Fl.ofInt n (by omega)).nu L hL).order h]
end Go.Proofs.YtficmpaeochcgaaGreatDoor
