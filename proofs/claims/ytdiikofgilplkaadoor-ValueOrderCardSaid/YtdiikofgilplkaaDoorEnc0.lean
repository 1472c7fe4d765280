/- The bytes of whole numbers and of strings (P113). Plain mathematics, no program. -/
import Derived.Test.YtdiikofgilplkaaDoorBase
namespace Go.Proofs.YtdiikofgilplkaaDoor

/-- A byte. -/
abbrev bv (n : Nat) : Value := .int .u8 (n : Int)
/-- The digits of m by 256, the lowest first. -/
def digs (m : Nat) : List Nat := if h : m = 0 then [] else (m % 256) :: digs (m / 256)
termination_by m
decreasing_by omega
/-- The lowest k digits of x. -/
def lows : Nat → Nat → List Nat
  | 0, _ => []
  | k + 1, x => (x % 256) :: lows k (x / 256)
theorem lows_length (k x : Nat) : (lows k x).length = k := by
  induction k generalizing x with
  | zero => rfl
  | succ k ih => simp [lows, ih]
theorem digs_zero : digs 0 = [] := by unfold digs; simp
theorem digs_pos {m : Nat} (h : m ≠ 0) : digs m = (m % 256) :: digs (m / 256) := by
  conv => lhs; unfold digs
  simp [h]
theorem lows_digs (m : Nat) : lows (digs m).length m = digs m := by
  induction m using Nat.strongRecOn with
  | _ m ih =>
    by_cases h : m = 0
    · subst h; rw [digs_zero]; rfl
    · rw [digs_pos h]
      show (m % 256) :: lows (digs (m / 256)).length (m / 256) = _
      rw [ih (m / 256) (by omega)]
theorem lows_at (k x j : Nat) (h : j < k) : (lows k x)[j]? = some (x / 256 ^ j % 256) := by
  induction k generalizing x j with
  | zero => omega
  | succ k ih =>
    cases j with
    | zero => simp [lows]
    | succ j =>
      show (lows k (x / 256))[j]? = _
      rw [ih (x / 256) j (by omega), Nat.div_div_eq_div_mul]
      congr 3
      rw [Nat.pow_succ, Nat.mul_comm]
theorem lows_flip (k x y : Nat) (h : x + y + 1 = 256 ^ k) : ∀ j, j ≤ k → lows j y = (lows j x).map (255 - ·) := by
  induction k generalizing x y with
  | zero =>
    intro j hj
    have : j = 0 := by omega
    subst this; rfl
  | succ k ih =>
    intro j hj
    cases j with
    | zero => rfl
    | succ j =>
      rw [Nat.pow_succ] at h
      have e := ih (x / 256) (y / 256) (by omega) j (by omega)
      simp only [lows, List.map_cons, e]
      congr 1
      omega
theorem digs_lt (m : Nat) : ∀ d ∈ digs m, d < 256 := by
  induction m using Nat.strongRecOn with
  | _ m ih =>
    by_cases h : m = 0
    · subst h; rw [digs_zero]; simp
    · rw [digs_pos h]
      intro d hd
      rcases List.mem_cons.1 hd with rfl | hd
      · exact Nat.mod_lt _ (by decide)
      · exact ih (m / 256) (by omega) d hd
theorem digs_len_le (k m : Nat) (h : m < 256 ^ k) : (digs m).length ≤ k := by
  induction k generalizing m with
  | zero =>
    have : m = 0 := by simpa using h
    subst this; rw [digs_zero]; simp
  | succ k ih =>
    by_cases h0 : m = 0
    · subst h0; rw [digs_zero]; simp
    · rw [digs_pos h0]
      have := ih (m / 256) (by rw [Nat.pow_succ] at h; omega)
      simp; omega
/-- The bytes behind the first one, the lowest first. -/
def lowB (n : Int) : List Nat := (digs n.natAbs).map fun x => if n < 0 then 255 - x else x
/-- P113's bytes of a whole number. -/
def encW (n : Int) : List Nat := (if n < 0 then 64 - (lowB n).length else 64 + (lowB n).length) :: (lowB n).reverse
/-- P113's bytes of a string's bytes. -/
def encS (l : List Nat) : List Nat := l.flatMap fun c => if c = 0 then [0, 255] else [c]
end Go.Proofs.YtdiikofgilplkaaDoor
