/- trellisref1: sums, products of whole numbers, or none. -/
import Derived.Test.YthpflfkgbapbnaaGreatDoorBase
import Derived.LoopTactic
namespace Go.Proofs.YthpflfkgbapbnaaGreatDoor
section
/-- An int64. -/
def I64 (n : Int) : Prop := -9223372036854775808 ≤ n ∧ n ≤ 9223372036854775807
end
open Go.RowKit
/-- Without its sign, a minus ahead. -/
def lo (a : Int) : Int := if 0 < a then -a else a
theorem lo_bd {a : Int} (h : I64 a) : -9223372036854775808 ≤ lo a ∧ lo a ≤ 0 := by
  obtain ⟨h1, h2⟩ := h
  unfold lo; split <;> omega
theorem half (n : Int) (h : n ≤ 0) : (n.tmod 2 = 0 ∧ n = 2 * n.tdiv 2 ∨ n.tmod 2 = -1 ∧ n = 2 * n.tdiv 2 - 1) ∧ n.tdiv 2 ≤ 0 ∧ n ≤ n.tdiv 2 ∧ (n < 0 → n < n.tdiv 2) := by
  obtain ⟨m, rfl⟩ : ∃ m : Int, n = -m := ⟨-n, by omega⟩
  have hm : 0 ≤ m := by omega
  rw [Int.neg_tmod, Int.neg_tdiv, Int.tmod_eq_emod_of_nonneg hm, Int.tdiv_eq_ediv_of_nonneg hm]
  omega
/-- What is left to add: x for each of -n. -/
def Left (T x n o : Int) : Prop := T = o - x * n
theorem Left.even {T x n o q : Int} (h : Left T x n o) (hq : n = 2 * q) : Left T (x + x) q o := by
  unfold Left at *
  rw [h, hq, Int.add_mul, show x * (2 * q) = 2 * (x * q) by rw [Int.mul_left_comm]]
  omega
theorem Left.odd {T x n o q : Int} (h : Left T x n o) (hq : n = 2 * q - 1) : Left T (x + x) q (o + x) := by
  unfold Left at *
  rw [h, hq, Int.add_mul, Int.mul_sub, show x * (2 * q) = 2 * (x * q) by rw [Int.mul_left_comm], Int.mul_one]
  omega
theorem Left.le {T x n o : Int} (h : Left T x n o) (hx : x ≤ 0) (hn : n ≤ 0) : T ≤ o := by
  unfold Left at h
  have : 0 ≤ x * n := Int.mul_nonneg_of_nonpos_of_nonpos hx hn
  omega
theorem Left.lt {T x n o : Int} (h : Left T x n o) (hx : x ≤ 0) (hn : n < 0) : T ≤ o + x := by
  unfold Left at h
  obtain ⟨m, rfl⟩ : ∃ m : Int, n = m - 1 := ⟨n + 1, by omega⟩
  have : 0 ≤ x * m := Int.mul_nonneg_of_nonpos_of_nonpos hx (by omega)
  rw [Int.mul_sub, Int.mul_one] at h
  omega
/-- The round's state: what is known of it. -/
def Mid (T x n o : Int) (ov : Bool) : Prop := -9223372036854775808 ≤ x ∧ x ≤ 0 ∧ -9223372036854775808 ≤ n ∧ n ≤ 0 ∧ -9223372036854775808 ≤ o ∧ o ≤ 0 ∧ ((ov = false ∧ Left T x n o) ∨ (ov = true ∧ n < 0 ∧ T < -9223372036854775808))
/-- The product and whether it is an int64. -/
def ProdIs (e : Ending) (P : Int) : Prop := (I64 P ∧ e = .returned (.tuple #[.int .i64 P, .bool true])) ∨ (¬ I64 P ∧ e = .returned (.tuple #[.int .i64 0, .bool false]))
theorem lo_mul (a b : Int) : lo a * lo b = a * b ∨ lo a * lo b = -(a * b) := by
  unfold lo
  split <;> split <;> simp [Int.neg_mul, Int.mul_neg]
theorem lo_sign {a b : Int} (ha : a ≠ 0) (hb : b ≠ 0) : (decide (a < 0) == decide (b < 0)) = true → lo a * lo b = a * b := by
  unfold lo
  intro h
  split <;> split
  · rw [Int.neg_mul_neg]
  · exfalso
    rw [decide_eq_false (by omega), decide_eq_true (by omega)] at h; exact Bool.noConfusion h
  · exfalso
    rw [decide_eq_true (by omega), decide_eq_false (by omega)] at h; exact Bool.noConfusion h
  · rfl
theorem lo_sign' {a b : Int} (ha : a ≠ 0) (hb : b ≠ 0) : (decide (a < 0) == decide (b < 0)) = false → lo a * lo b = -(a * b) := by
  unfold lo
  intro h
  split <;> split
  · exfalso
    rw [decide_eq_false (by omega), decide_eq_false (by omega)] at h; exact Bool.noConfusion h
  · rw [Int.neg_mul]
  · rw [Int.mul_neg]
  · exfalso
    rw [decide_eq_true (by omega), decide_eq_true (by omega)] at h; exact Bool.noConfusion h
theorem Mid.over {T x n o : Int} {ov : Bool} (h : Mid T x n o ov) (hv : ov = true) : T < -9223372036854775808 := by
  obtain ⟨_, _, _, _, _, _, ⟨h1, _⟩ | ⟨_, _, h2⟩⟩ := h
  · rw [hv] at h1; cases h1
  · exact h2
theorem Mid.last {T x o : Int} {ov : Bool} (h : Mid T x 0 o ov) : ov = false ∧ T = o ∧ -9223372036854775808 ≤ o ∧ o ≤ 0 := by
  obtain ⟨_, _, _, _, h5, h6, ⟨h1, h2⟩ | ⟨_, h2, _⟩⟩ := h
  · unfold Left at h2; rw [Int.mul_zero] at h2; exact ⟨h1, by omega, h5, h6⟩
  · omega
/-- An even round, and it goes on. -/
theorem Mid.evenYes {T x n o q : Int} {ov : Bool} (h : Mid T x n o ov) (hq : n = 2 * q) (hn : q < 0) (hx : I64 (x + x)) : Mid T (x + x) q o ov := by
  obtain ⟨h1, h2, h3, h4, h5, h6, h7⟩ := h
  refine ⟨hx.1, by omega, by omega, by omega, h5, h6, ?_⟩
  rcases h7 with ⟨h7, h8⟩ | ⟨h7, h8, h9⟩
  · exact Or.inl ⟨h7, h8.even hq⟩
  · exact Or.inr ⟨h7, hn, h9⟩
theorem Mid.evenNo {T x n o q : Int} {ov : Bool} (h : Mid T x n o ov) (hq : n = 2 * q) (hn : q < 0) (hx : ¬ I64 (x + x)) : Mid T 0 q o true := by
  obtain ⟨h1, h2, h3, h4, h5, h6, h7⟩ := h
  refine ⟨by omega, by omega, by omega, by omega, h5, h6, Or.inr ⟨rfl, hn, ?_⟩⟩
  rcases h7 with ⟨h7, h8⟩ | ⟨h7, h8, h9⟩
  · have := (h8.even hq).lt (by omega) hn
    unfold I64 at hx; omega
  · exact h9
theorem Mid.oddFull {T x n o q : Int} (h : Mid T x n o false) (hq : n = 2 * q - 1) (hq0 : q ≤ 0) (hx : ¬ I64 (o + x)) : T < -9223372036854775808 := by
  obtain ⟨h1, h2, h3, h4, h5, h6, h7⟩ := h
  rcases h7 with ⟨h7, h8⟩ | ⟨h7, h8, h9⟩
  · have := (h8.odd hq).le (by omega) hq0
    unfold I64 at hx; omega
  · exact h9
theorem Mid.oddYes {T x n o q : Int} (h : Mid T x n o false) (hq : n = 2 * q - 1) (hn : q < 0) (ho : I64 (o + x)) (hx : I64 (x + x)) : Mid T (x + x) q (o + x) false := by
  obtain ⟨h1, h2, h3, h4, h5, h6, h7⟩ := h
  refine ⟨hx.1, by omega, by omega, by omega, ho.1, by omega, ?_⟩
  rcases h7 with ⟨h7, h8⟩ | ⟨h7, h8, h9⟩
  · exact Or.inl ⟨rfl, h8.odd hq⟩
  · cases h7
theorem Mid.oddNo {T x n o q : Int} (h : Mid T x n o false) (hq : n = 2 * q - 1) (hn : q < 0) (ho : I64 (o + x)) (hx : ¬ I64 (x + x)) : Mid T 0 q (o + x) true := by
  obtain ⟨h1, h2, h3, h4, h5, h6, h7⟩ := h
  refine ⟨by omega, by omega, by omega, by omega, ho.1, by omega, Or.inr ⟨rfl, hn, ?_⟩⟩
  rcases h7 with ⟨h7, h8⟩ | ⟨h7, h8, h9⟩
  · have := (h8.odd hq).lt (by omega) hn
    have := ho.2
    unfold I64 at hx; omega
  · cases h7
theorem Mid.oddEnd {T x n o : Int} (h : Mid T x n o false) (hq : n = 2 * 0 - 1) (ho : I64 (o + x)) : Mid T x 0 (o + x) false := by
  obtain ⟨h1, h2, h3, h4, h5, h6, h7⟩ := h
  refine ⟨h1, h2, by omega, by omega, ho.1, by omega, ?_⟩
  rcases h7 with ⟨h7, h8⟩ | ⟨h7, h8, h9⟩
  · refine Or.inl ⟨rfl, ?_⟩
    have := h8.odd hq
    unfold Left at this ⊢; rw [Int.mul_zero] at this ⊢; exact this
  · cases h7
/-- No int64, on either side. -/
theorem too_far {P L T : Int} (h : T < -9223372036854775808) (hT : -L = T) (hP : L = P ∨ L = -P) : ¬ I64 P := by unfold I64; omega
end Go.Proofs.YthpflfkgbapbnaaGreatDoor
