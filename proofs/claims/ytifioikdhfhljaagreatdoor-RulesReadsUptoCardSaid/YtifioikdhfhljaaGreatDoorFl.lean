/- Floats that are whole numbers below 2^53: what the model's operations make of them. Plain mathematics, no program. -/
import Derived.Laws.ComplexArith
namespace Go.Proofs.YtifioikdhfhljaaGreatDoor
open Ieee

/-- The double with the bits b is the whole number n. -/
def Fl (b : Nat) (n : Int) : Prop := b < 2 ^ 64 ∧ ∃ (s : Bool) (k : Nat), double.read b = .number s (n.natAbs * 2 ^ k) (-(k : Int)) ∧ (n ≠ 0 → s = decide (n < 0))

theorem log2_mul_pow (m k : Nat) (h : m ≠ 0) : (m * 2 ^ k).log2 = m.log2 + k := by
  have hp : 0 < 2 ^ k := Nat.two_pow_pos k
  have h0 : m * 2 ^ k ≠ 0 := Nat.mul_ne_zero h (by omega)
  rw [Nat.log2_eq_iff h0]
  have ⟨h1, h2⟩ := (Nat.log2_eq_iff h).1 rfl
  constructor
  · rw [Nat.pow_add]; exact Nat.mul_le_mul_right _ h1
  · have e : 2 ^ (m.log2 + k + 1) = 2 ^ (m.log2 + 1) * 2 ^ k := by rw [← Nat.pow_add]; congr 1; omega
    rw [e]; exact Nat.mul_lt_mul_of_pos_right h2 hp

theorem cut_exact (way : Toward) (neg : Bool) (m k : Nat) : way.cut neg (m * 2 ^ k) k = m := by
  unfold Toward.cut
  by_cases h : m = 0
  · subst h
    have hg : 0 < 1 <<< min k ((0 * 2 ^ k).log2 + 2) := by rw [Nat.shiftLeft_eq]; have := Nat.two_pow_pos (min k ((0 * 2 ^ k).log2 + 2)); omega
    generalize 1 <<< min k ((0 * 2 ^ k).log2 + 2) = g at hg
    have hne : (g == 0) = false := by simp; omega
    cases way <;> simp [hne]
  · have hp : 0 < 2 ^ k := Nat.two_pow_pos k
    have hm : min k ((m * 2 ^ k).log2 + 2) = k := by rw [log2_mul_pow m k h]; omega
    have e1 : 1 <<< k = 2 ^ k := by rw [Nat.shiftLeft_eq]; omega
    have hne : (2 ^ k == 0) = false := by simp
    simp only [hm, e1, Nat.mul_div_cancel _ hp, Nat.mul_mod_left]
    cases way <;> simp

theorem d_fb : double.fractionBits = 52 := rfl
theorem d_bin : double.binade = 4503599627370496 := rfl
theorem d_least : double.leastPlace = -1074 := by decide
theorem d_inf : double.infRung = 9218868437227405312 := by decide
theorem d_sw : double.signWeight = 9223372036854775808 := by decide

theorem log2_lt53 {m : Nat} (h0 : m ≠ 0) (h : m < 2 ^ 53) : m.log2 ≤ 52 := by
  have ⟨h1, _⟩ := (Nat.log2_eq_iff h0).1 rfl
  have : 2 ^ m.log2 < 2 ^ 53 := Nat.lt_of_le_of_lt h1 h
  have := (Nat.pow_lt_pow_iff_right (a := 2) (by decide)).1 this
  omega

/-- The significand of m, written out to 53 digits. -/
theorem full_bd {m : Nat} (h0 : m ≠ 0) (h : m < 2 ^ 53) : 2 ^ 52 ≤ m * 2 ^ (52 - m.log2) ∧ m * 2 ^ (52 - m.log2) < 2 ^ 53 := by
  have hl := log2_lt53 h0 h
  have ⟨h1, h2⟩ := (Nat.log2_eq_iff h0).1 rfl
  have e1 : 2 ^ 52 = 2 ^ m.log2 * 2 ^ (52 - m.log2) := by rw [← Nat.pow_add]; congr 1; omega
  have e2 : 2 ^ 53 = 2 ^ (m.log2 + 1) * 2 ^ (52 - m.log2) := by rw [← Nat.pow_add]; congr 1; omega
  constructor
  · rw [e1]; exact Nat.mul_le_mul_right _ h1
  · rw [e2]; exact Nat.mul_lt_mul_of_pos_right h2 (Nat.two_pow_pos _)

theorem nearest_exact (s : Bool) (m k : Nat) (h0 : m ≠ 0) (h : m < 2 ^ 53) :
    double.nearest s (m * 2 ^ k) (-(k : Int)) = double.word s ((m.log2 + 1022) * 4503599627370496 + m * 2 ^ (52 - m.log2)) := by
  have hl := log2_lt53 h0 h
  have hb := full_bd h0 h
  have hm0 : m * 2 ^ k ≠ 0 := Nat.mul_ne_zero h0 (by have := Nat.two_pow_pos k; omega)
  unfold Format.nearest
  rw [if_neg hm0, log2_mul_pow m k h0, d_fb, d_least, d_bin, d_inf]
  have elast : max (-(k : Int) + ((m.log2 + k : Nat) : Int) - ((52 : Nat) : Int)) (-1074) = (m.log2 : Int) - 52 := by omega
  rw [elast]
  have ekept : Toward.even.cut s ((m * 2 ^ k) <<< (-(k : Int) - ((m.log2 : Int) - 52)).toNat) ((m.log2 : Int) - 52 - -(k : Int)).toNat = m * 2 ^ (52 - m.log2) := by
    by_cases hk : k ≤ 52 - m.log2
    · have e1 : (-(k : Int) - ((m.log2 : Int) - 52)).toNat = 52 - m.log2 - k := by omega
      have e2 : ((m.log2 : Int) - 52 - -(k : Int)).toNat = 0 := by omega
      have e3 : 2 ^ k * 2 ^ (52 - m.log2 - k) = 2 ^ (52 - m.log2) := by rw [← Nat.pow_add]; congr 1; omega
      rw [e1, e2, Nat.shiftLeft_eq, Nat.mul_assoc, e3]
      have := cut_exact .even s (m * 2 ^ (52 - m.log2)) 0
      simpa using this
    · have e1 : (-(k : Int) - ((m.log2 : Int) - 52)).toNat = 0 := by omega
      have e2 : ((m.log2 : Int) - 52 - -(k : Int)).toNat = k - (52 - m.log2) := by omega
      have e3 : m * 2 ^ k = m * 2 ^ (52 - m.log2) * 2 ^ (k - (52 - m.log2)) := by rw [Nat.mul_assoc, ← Nat.pow_add]; congr 2; omega
      rw [e1, e2, Nat.shiftLeft_eq, Nat.pow_zero, Nat.mul_one, e3]
      exact cut_exact _ _ _ _
  simp only [ekept]
  have e4 : ((m.log2 : Int) - 52 - -1074).toNat = m.log2 + 1022 := by omega
  rw [e4]
  congr 1
  generalize m * 2 ^ (52 - m.log2) = c at hb
  omega

theorem read_word (s : Bool) (r : Nat) (h : r < 9223372036854775808) : double.word s r / 9223372036854775808 % 2 = s.toNat ∧ double.word s r % 9223372036854775808 = r := by
  unfold Format.word
  rw [d_sw]
  cases s
  · constructor
    · simp [Nat.div_eq_of_lt h]
    · simp [Nat.mod_eq_of_lt h]
  · constructor
    · simp only [if_true, Bool.toNat_true]; omega
    · simp only [if_true]; omega

theorem read_exact (s : Bool) (m : Nat) (h0 : m ≠ 0) (h : m < 2 ^ 53) :
    double.read (double.word s ((m.log2 + 1022) * 4503599627370496 + m * 2 ^ (52 - m.log2))) = .number s (m * 2 ^ (52 - m.log2)) (-((52 - m.log2 : Nat) : Int)) := by
  have hl := log2_lt53 h0 h
  have hb := full_bd h0 h
  generalize m * 2 ^ (52 - m.log2) = c at hb
  generalize m.log2 = L at hl
  have hr : (L + 1022) * 4503599627370496 + c < 9223372036854775808 := by omega
  obtain ⟨e1, e2⟩ := read_word s _ hr
  unfold Format.read
  rw [d_sw, d_bin, d_inf, d_least, e1, e2]
  have a1 : ¬ (L + 1022) * 4503599627370496 + c < 4503599627370496 := by omega
  have a2 : (L + 1022) * 4503599627370496 + c < 9218868437227405312 := by omega
  simp only [a1, a2, if_false, if_true]
  have a3 : 4503599627370496 + ((L + 1022) * 4503599627370496 + c) % 4503599627370496 = c := by omega
  have a4 : ((L + 1022) * 4503599627370496 + c) / 4503599627370496 = L + 1023 := by omega
  rw [a3, a4]
  have a5 : (-1074 : Int) + ((L + 1023 - 1 : Nat) : Int) = -((52 - L : Nat) : Int) := by omega
  rw [a5]
  cases s <;> rfl

/-- A whole number below 2^53 is written without loss. -/
theorem fl_write (s : Bool) (n : Int) (k : Nat) (h : n.natAbs < 2 ^ 53) (hs : n ≠ 0 → s = decide (n < 0)) : Fl (double.write (.number s (n.natAbs * 2 ^ k) (-(k : Int)))) n := by
  by_cases h0 : n.natAbs = 0
  · refine ⟨double.write_lt _, s, 1074, ?_, hs⟩
    simp only [Format.write, h0, Nat.zero_mul]
    unfold Format.nearest
    rw [if_pos rfl]
    obtain ⟨e1, e2⟩ := read_word s 0 (by decide)
    unfold Format.read
    rw [d_sw, d_bin, d_least, e1, e2]
    cases s <;> rfl
  · refine ⟨double.write_lt _, s, 52 - n.natAbs.log2, ?_, hs⟩
    show double.read (double.nearest s (n.natAbs * 2 ^ k) (-(k : Int))) = _
    rw [nearest_exact s _ k h0 h]
    exact read_exact s _ h0 h

theorem Fl.ofInt (n : Int) (h : n.natAbs < 2 ^ 53) : Fl (floatOfInt .f64 n) n := by
  have := fl_write (decide (n < 0)) n 0 h (fun _ => rfl)
  simpa [floatOfInt, FloatKind.nearest, FloatKind.encode, FloatKind.format] using this

theorem signed_of {s : Bool} {n : Int} (hs : n ≠ 0 → s = decide (n < 0)) (k up : Nat) : signed s (n.natAbs * 2 ^ k) up = n * 2 ^ (k + up) := by
  have e : (n.natAbs * 2 ^ k) <<< up = n.natAbs * 2 ^ (k + up) := by rw [Nat.shiftLeft_eq, Nat.mul_assoc, ← Nat.pow_add]
  unfold signed
  rw [e]
  have hp : ((2 ^ (k + up) : Nat) : Int) = (2 : Int) ^ (k + up) := by simp
  by_cases h0 : n = 0
  · subst h0; cases s <;> simp
  · have := hs h0
    by_cases hn : n < 0
    · simp only [hn, decide_true] at this
      subst this
      rw [if_pos rfl, Int.natCast_mul, hp, ← Int.neg_mul]
      congr 1; omega
    · simp only [hn, decide_false] at this
      subst this
      simp only [Bool.false_eq_true, if_false]
      rw [Int.natCast_mul, hp]
      congr 1; omega

theorem pow2_pos (k : Nat) : (0 : Int) < 2 ^ k := by exact_mod_cast Nat.two_pow_pos k
theorem mul_pow_zero {n : Int} {k : Nat} : n * 2 ^ k = 0 ↔ n = 0 := by
  have := pow2_pos k
  constructor
  · intro h; rcases Int.mul_eq_zero.1 h with h | h
    · exact h
    · omega
  · intro h; rw [h, Int.zero_mul]
theorem mul_pow_neg {n : Int} {k : Nat} : n * 2 ^ k < 0 ↔ n < 0 := by
  have hp := pow2_pos k
  constructor
  · intro h; by_cases hn : n < 0
    · exact hn
    · have := Int.mul_nonneg (show 0 ≤ n by omega) (Int.le_of_lt hp); omega
  · intro h; exact Int.mul_neg_of_neg_of_pos h hp
theorem natAbs_mul_pow (n : Int) (k : Nat) : (n * 2 ^ k).natAbs = n.natAbs * 2 ^ k := by
  rw [Int.natAbs_mul, Int.natAbs_pow]; rfl

/-- The sum of two whole numbers, as a datum. -/
theorem sum_exact {s t : Bool} {a b : Int} {k j : Nat} (ha : a ≠ 0 → s = decide (a < 0)) (hb : b ≠ 0 → t = decide (b < 0)) :
    ∃ (u : Bool) (K : Nat), Datum.sum (.number s (a.natAbs * 2 ^ k) (-(k : Int))) (.number t (b.natAbs * 2 ^ j) (-(j : Int))) = some (.number u ((a + b).natAbs * 2 ^ K) (-(K : Int))) ∧ (a + b ≠ 0 → u = decide (a + b < 0)) := by
  have eb : min (-(k : Int)) (-(j : Int)) = -((max k j : Nat) : Int) := by omega
  have e1 : (-(k : Int) - -((max k j : Nat) : Int)).toNat = max k j - k := by omega
  have e2 : (-(j : Int) - -((max k j : Nat) : Int)).toNat = max k j - j := by omega
  have e3 : k + (max k j - k) = max k j := by omega
  have e4 : j + (max k j - j) = max k j := by omega
  unfold Datum.sum
  simp only [eb, e1, e2, signed_of ha, signed_of hb, e3, e4, ← Int.add_mul]
  rw [natAbs_mul_pow]
  refine ⟨_, max k j, rfl, ?_⟩
  intro hne
  have : ¬ (a + b) * 2 ^ max k j = 0 := fun h => hne (mul_pow_zero.1 h)
  rw [if_neg this]
  simp only [mul_pow_neg]

theorem Fl.add {x y : Nat} {a b : Int} (hx : Fl x a) (hy : Fl y b) (h : (a + b).natAbs < 2 ^ 53) : ∃ r, floatBits .add .f64 x y = some r ∧ Fl r (a + b) := by
  obtain ⟨_, s, k, rx, ha⟩ := hx
  obtain ⟨_, t, j, ry, hb⟩ := hy
  obtain ⟨u, K, hs, hu⟩ := sum_exact (k := k) (j := j) ha hb
  refine ⟨_, ?_, fl_write u (a + b) K h hu⟩
  show (((double.read x).sum (double.read y)).map double.write) = _
  rw [rx, ry, hs]; rfl

theorem opp_sign {t : Bool} {b : Int} (hb : b ≠ 0 → t = decide (b < 0)) : -b ≠ 0 → (!t) = decide (-b < 0) := by
  intro h
  have := hb (by omega)
  subst this
  by_cases h1 : b < 0
  · have h2 : ¬ -b < 0 := by omega
    simp [h1]; omega
  · have h2 : -b < 0 := by omega
    simp [h1]; omega

theorem Fl.sub {x y : Nat} {a b : Int} (hx : Fl x a) (hy : Fl y b) (h : (a - b).natAbs < 2 ^ 53) : ∃ r, floatBits .sub .f64 x y = some r ∧ Fl r (a - b) := by
  obtain ⟨_, s, k, rx, ha⟩ := hx
  obtain ⟨_, t, j, ry, hb⟩ := hy
  obtain ⟨u, K, hs, hu⟩ := sum_exact (k := k) (j := j) ha (opp_sign hb)
  rw [← Int.sub_eq_add_neg] at hs hu
  refine ⟨_, ?_, fl_write u (a - b) K h hu⟩
  show (((double.read x).sum (double.read y).opposite).map double.write) = _
  rw [rx, ry]
  simp only [Datum.opposite]
  rw [Int.natAbs_neg] at hs
  rw [hs]; rfl

theorem Fl.mul {x y : Nat} {a b : Int} (hx : Fl x a) (hy : Fl y b) (h : (a * b).natAbs < 2 ^ 53) : ∃ r, floatBits .mul .f64 x y = some r ∧ Fl r (a * b) := by
  obtain ⟨_, s, k, rx, ha⟩ := hx
  obtain ⟨_, t, j, ry, hb⟩ := hy
  have hu : a * b ≠ 0 → (s ^^ t) = decide (a * b < 0) := by
    intro hne
    have h1 : a ≠ 0 := fun e => hne (by rw [e, Int.zero_mul])
    have h2 : b ≠ 0 := fun e => hne (by rw [e, Int.mul_zero])
    rw [ha h1, hb h2]
    by_cases c1 : a < 0 <;> by_cases c2 : b < 0
    · have := Int.mul_pos_of_neg_of_neg c1 c2
      have : ¬ a * b < 0 := by omega
      simp [c1, c2, this]
    · have := Int.mul_neg_of_neg_of_pos c1 (show 0 < b by omega)
      simp [c1, c2, this]
    · have := Int.mul_neg_of_pos_of_neg (show 0 < a by omega) c2
      simp [c1, c2, this]
    · have := Int.mul_pos (show 0 < a by omega) (show 0 < b by omega)
      have : ¬ a * b < 0 := by omega
      simp [c1, c2, this]
  refine ⟨_, ?_, fl_write (s ^^ t) (a * b) (k + j) h hu⟩
  show (((double.read x).product (double.read y)).map double.write) = _
  rw [rx, ry]
  simp only [Datum.product, Option.map_some, Option.some.injEq]
  congr 2
  · rw [Int.natAbs_mul, Nat.pow_add]
    simp only [Nat.mul_assoc, Nat.mul_left_comm]
  · omega

/-- 'int64(x)'. -/
theorem Fl.toInt {x : Nat} {a : Int} (hx : Fl x a) (h : a.natAbs < 2 ^ 53) : floatToIntVal .f64 x .i64 = some a := by
  obtain ⟨_, s, k, rx, ha⟩ := hx
  have e : (FloatKind.f64.decode x).toInt .zero = some a := by
    show (double.read x).toInt .zero = some a
    rw [rx]
    simp only [Datum.toInt, Datum.integral]
    have e1 : (-(k : Int)).toNat = 0 := by omega
    have e2 : (- -(k : Int)).toNat = k := by omega
    rw [e1, e2, Nat.shiftLeft_zero, cut_exact]
    have := signed_of ha 0 0
    simpa using this
  unfold floatToIntVal
  rw [e]
  have h1 : IntKind.i64.min ≤ a ∧ a ≤ IntKind.i64.max := by
    have m1 : IntKind.i64.min = -9223372036854775808 := by decide
    have m2 : IntKind.i64.max = 9223372036854775807 := by decide
    rw [m1, m2]; omega
  exact if_pos h1

/-- Comparisons. -/
theorem Fl.order {x y : Nat} {a b : Int} (hx : Fl x a) (hy : Fl y b) : double.order x y = some (compare a b) := by
  obtain ⟨_, s, k, rx, ha⟩ := hx
  obtain ⟨_, t, j, ry, hb⟩ := hy
  have eb : min (-(k : Int)) (-(j : Int)) = -((max k j : Nat) : Int) := by omega
  have e1 : (-(k : Int) - -((max k j : Nat) : Int)).toNat = max k j - k := by omega
  have e2 : (-(j : Int) - -((max k j : Nat) : Int)).toNat = max k j - j := by omega
  have e3 : k + (max k j - k) = max k j := by omega
  have e4 : j + (max k j - j) = max k j := by omega
  show (double.read x).order (double.read y) = _
  rw [rx, ry]
  simp only [Datum.order, eb, e1, e2, signed_of ha, signed_of hb, e3, e4]
  have hp := pow2_pos (max k j)
  generalize (2 : Int) ^ max k j = p at hp
  congr 1
  have lt_iff : a * p < b * p ↔ a < b := Int.mul_lt_mul_right hp
  have eq_iff : a * p = b * p ↔ a = b := Int.mul_eq_mul_right_iff (by omega)
  simp only [compare, compareOfLessAndEq, lt_iff, eq_iff]
/-- The sign bit struck. -/
theorem read_strike (x : Nat) (_hx : x < 2 ^ 64) {s : Bool} {m : Nat} {p : Int} (h : double.read x = .number s m p) : double.read (x % 9223372036854775808) = .number false m p := by
  unfold Format.read at h ⊢
  rw [d_sw] at h ⊢
  rw [Nat.mod_mod]
  have e0 : x % 9223372036854775808 / 9223372036854775808 % 2 = 0 := by omega
  rw [e0]
  generalize x % 9223372036854775808 = r at h ⊢
  simp only at h ⊢
  split at h
  · rename_i c; rw [if_pos c]; cases h; rfl
  · rename_i c; rw [if_neg c]
    split at h
    · rename_i c2; rw [if_pos c2]; cases h; rfl
    · split at h <;> cases h
theorem Fl.abs {x : Nat} {a : Int} (hx : Fl x a) : Fl (x % 9223372036854775808) (a.natAbs : Int) := by
  obtain ⟨h, s, k, rx, ha⟩ := hx
  refine ⟨by omega, false, k, ?_, ?_⟩
  · rw [read_strike x h rx]; simp
  · intro _; have : ¬ ((a.natAbs : Int) < 0) := by omega
    simp [this]
theorem bits_strike (x : Nat) (hx : x < 2 ^ 64) : bits .andNot .u64 (x : Int) 9223372036854775808 = ((x % 9223372036854775808 : Nat) : Int) := by
  have e : ∀ v : BitVec 64, (v &&& ~~~(BitVec.ofInt 64 9223372036854775808)).toNat = v.toNat % 9223372036854775808 := by
    intro v
    have : ~~~(BitVec.ofInt 64 9223372036854775808) = BitVec.ofNat 64 (2 ^ 63 - 1) := by decide
    rw [this, BitVec.toNat_and, BitVec.toNat_ofNat]
    have h1 : (2 ^ 63 - 1) % 2 ^ 64 = 2 ^ 63 - 1 := by decide
    rw [h1, Nat.and_two_pow_sub_one_eq_mod]
  have hv : (BitVec.ofInt 64 (x : Int)).toNat = x := by
    rw [BitVec.toNat_ofInt]; omega
  show IntKind.u64.wrap (((BitVec.ofInt 64 (x : Int)) &&& ~~~(BitVec.ofInt 64 9223372036854775808)).toNat : Int) = _
  rw [e, hv]
  have : IntKind.u64.wrap ((x % 9223372036854775808 : Nat) : Int) = ((x % 9223372036854775808 : Nat) : Int) := by
    simp only [IntKind.wrap, IntKind.signed, IntKind.bits]
    have : x % 9223372036854775808 < 9223372036854775808 := Nat.mod_lt _ (by decide)
    generalize x % 9223372036854775808 = r at this ⊢
    simp
    omega
  exact this
/-- The whole part of a whole number. -/
theorem Fl.integral {x : Nat} {a : Int} (hx : Fl x a) (h : a.natAbs < 2 ^ 53) (way : Toward) : Fl (double.write ((double.read x).integral way)) a ∧ ∃ s m p, double.read x = .number s m p := by
  obtain ⟨_, s, k, rx, ha⟩ := hx
  refine ⟨?_, s, _, _, rx⟩
  rw [rx]
  simp only [Datum.integral]
  have e1 : (-(k : Int)).toNat = 0 := by omega
  have e2 : (- -(k : Int)).toNat = k := by omega
  rw [e1, e2, Nat.shiftLeft_zero, cut_exact]
  have := fl_write s a 0 h ha
  simpa using this
theorem read_flip (x : Nat) (hx : x < 2 ^ 64) {s : Bool} {m : Nat} {p : Int} (h : double.read x = .number s m p) : ∃ y, y = (if x < 9223372036854775808 then x + 9223372036854775808 else x - 9223372036854775808) ∧ double.read y = .number (!s) m p := by
  refine ⟨_, rfl, ?_⟩
  unfold Format.read at h ⊢
  rw [d_sw] at h ⊢
  have e1 : (if x < 9223372036854775808 then x + 9223372036854775808 else x - 9223372036854775808) % 9223372036854775808 = x % 9223372036854775808 := by split <;> omega
  have e2 : ((if x < 9223372036854775808 then x + 9223372036854775808 else x - 9223372036854775808) / 9223372036854775808 % 2 == 1) = !(x / 9223372036854775808 % 2 == 1) := by
    split
    · have a1 : (x + 9223372036854775808) / 9223372036854775808 % 2 = 1 := by omega
      have a2 : x / 9223372036854775808 % 2 = 0 := by omega
      rw [a1, a2]; rfl
    · have a1 : (x - 9223372036854775808) / 9223372036854775808 % 2 = 0 := by omega
      have a2 : x / 9223372036854775808 % 2 = 1 := by omega
      rw [a1, a2]; rfl
  rw [e1, e2]
  generalize x % 9223372036854775808 = r at h ⊢
  generalize (x / 9223372036854775808 % 2 == 1) = q at h ⊢
  simp only at h ⊢
  split at h
  · rename_i c; rw [if_pos c]; cases h; rfl
  · rename_i c; rw [if_neg c]
    split at h
    · rename_i c2; rw [if_pos c2]; cases h; rfl
    · split at h <;> cases h
theorem xor_top (x : Nat) (hx : x < 2 ^ 64) : x ^^^ 2 ^ 63 = (if x < 9223372036854775808 then x + 9223372036854775808 else x - 9223372036854775808) := by
  have key : ∀ y : Nat, y < 2 ^ 63 → y ^^^ 2 ^ 63 = y + 2 ^ 63 := by
    intro y hy
    have := Nat.two_pow_add_eq_or_of_lt hy 1
    rw [Nat.mul_one] at this
    rw [Nat.add_comm, this, Nat.xor_comm]
    apply Nat.eq_of_testBit_eq
    intro i
    simp only [Nat.testBit_xor, Nat.testBit_or, Nat.testBit_two_pow]
    by_cases hi : 63 = i
    · subst hi
      have : y.testBit 63 = false := Nat.testBit_lt_two_pow hy
      simp [this]
    · simp [hi]
  split
  · rename_i c; exact key x c
  · rename_i c
    have hy : x - 9223372036854775808 < 2 ^ 63 := by omega
    have := key _ hy
    have e : x = (x - 9223372036854775808) ^^^ 2 ^ 63 := by rw [this]; omega
    conv => lhs; rw [e]
    rw [Nat.xor_assoc, Nat.xor_self, Nat.xor_zero]
theorem Fl.neg {x : Nat} {a : Int} (hx : Fl x a) : Fl (Op.negFloat .f64 x) (-a) := by
  obtain ⟨h, s, k, rx, ha⟩ := hx
  obtain ⟨y, hy, ry⟩ := read_flip x h rx
  have e : Op.negFloat .f64 x = y := by rw [hy]; exact xor_top x h
  rw [e]
  refine ⟨by rw [hy]; split <;> omega, !s, k, ?_, opp_sign ha⟩
  rw [ry, Int.natAbs_neg]
theorem Fl.zero : Fl 0 0 := by
  have := Fl.ofInt 0 (by decide)
  have e : floatOfInt .f64 0 = 0 := by decide +kernel
  rwa [e] at this
theorem Fl.most : Fl 4719772409484279808 33554432 := by
  have := Fl.ofInt 33554432 (by decide)
  have e : floatOfInt .f64 33554432 = 4719772409484279808 := by decide +kernel
  rwa [e] at this
end Go.Proofs.YtifioikdhfhljaaGreatDoor
