/- Tokens: numbers. -/
import Derived.Test.YthpflfkgbapbnaaGreatDoorSx5
import Derived.Lib.ParseIntBCases
namespace Go.Proofs.YthpflfkgbapbnaaGreatDoor
open Go.RowKit

def dv (c : UInt8) : Nat := c.toNat - 48
def fd (a : Nat) (l : List UInt8) : Nat := l.foldl (fun a c => a * 10 + (c.toNat - 48)) a
theorem fd_nil (a : Nat) : fd a [] = a := rfl
theorem fd_cons (a : Nat) (c : UInt8) (l : List UInt8) : fd a (c :: l) = fd (a * 10 + dv c) l := by unfold fd dv; rw [List.foldl_cons]
theorem fd_eq (l : List UInt8) : ∀ a, fd a l = a * 10 ^ l.length + decN l := by
  have h : ∀ (l : List UInt8) (a : Nat), fd a l = a * 10 ^ l.length + fd 0 l := by
    intro l
    induction l with
    | nil => intro a; simp [fd]
    | cons c l ih =>
      intro a
      rw [fd_cons, ih, fd_cons, ih (0 * 10 + dv c)]
      rw [List.length_cons, Nat.pow_succ, Nat.zero_mul, Nat.zero_add, Nat.add_mul, Nat.mul_assoc, Nat.mul_comm 10, Nat.add_assoc]
  exact h l
theorem decN_cons (c : UInt8) (l : List UInt8) : decN (c :: l) = dv c * 10 ^ l.length + decN l := by
  show fd 0 (c :: l) = _
  rw [fd_cons, fd_eq, Nat.zero_mul, Nat.zero_add]
def isDs (l : List UInt8) : Prop := ∀ c ∈ l, xD c = true
theorem xD_rng {c : UInt8} (h : xD c = true) : 48 ≤ c.toNat ∧ c.toNat ≤ 57 := of_decide_eq_true h
theorem decN_lt (l : List UInt8) (h : isDs l) : decN l < 10 ^ l.length := by
  induction l with
  | nil => decide
  | cons c l ih =>
    have h1 := xD_rng (h c (by simp))
    have h2 := ih (fun d hd => h d (by simp [hd]))
    rw [decN_cons, List.length_cons, Nat.pow_succ]
    have h3 : dv c ≤ 9 := by unfold dv; omega
    have h4 : dv c * 10 ^ l.length ≤ 9 * 10 ^ l.length := Nat.mul_le_mul_right _ h3
    omega
theorem fd_le (l : List UInt8) : ∀ a, a ≤ fd a l := by
  induction l with
  | nil => intro a; exact Nat.le_refl _
  | cons c l ih => intro a; rw [fd_cons]; have := ih (a * 10 + dv c); omega
theorem pu_fd (l : List UInt8) : ∀ a, isDs l → a ≤ 18446744073709551615 → Lib.parseUintM 18446744073709551615 a l = if fd a l ≤ 18446744073709551615 then .ok (fd a l) else .range := by
  induction l with
  | nil => intro a _ ha; rw [fd_nil, if_pos ha]; rfl
  | cons c l ih =>
    intro a h ha
    have h1 := xD_rng (h c (by simp))
    have h2 : isDs l := fun d hd => h d (by simp [hd])
    have h3 := fd_le l (a * 10 + dv c)
    simp only [Lib.parseUintM]
    rw [if_pos h1, fd_cons]
    by_cases c1 : 1844674407370955162 ≤ a
    · rw [if_pos c1, if_neg (by omega)]
    · rw [if_neg c1]
      show (if 18446744073709551615 < a * 10 + dv c then Lib.NumEnd.range else Lib.parseUintM 18446744073709551615 (a * 10 + dv c) l) = _
      by_cases c2 : 18446744073709551615 < a * 10 + dv c
      · rw [if_pos c2, if_neg (by omega)]
      · rw [if_neg c2]
        exact ih _ h2 (by omega)
theorem pu_dec (l : List UInt8) (h : isDs l) (hne : l ≠ []) : Lib.parseUintB 64 l = if decN l ≤ 18446744073709551615 then .ok (decN l) else .range := by
  unfold Lib.parseUintB
  rw [if_neg hne]
  exact pu_fd l 0 h (by omega)
/-- Zeros ahead count for nothing. -/
theorem decN_zero (l : List UInt8) : decN (48 :: l) = decN l := by
  rw [decN_cons]
  show 0 * _ + _ = _
  omega
theorem dec_long {a b : List UInt8} (ha : isDs a) (hb : isDs b) (h0 : ∀ c t, b = c :: t → ¬ c.toNat = 48) (h : a.length < b.length) : decN a < decN b := by
  cases b with
  | nil => simp at h
  | cons c t =>
    have h1 := decN_lt a ha
    have h2 := xD_rng (hb c (by simp))
    have h3 : 1 ≤ dv c := by have := h0 c t rfl; unfold dv; omega
    rw [decN_cons]
    have h4 : 1 * 10 ^ t.length ≤ dv c * 10 ^ t.length := Nat.mul_le_mul_right _ h3
    have h5 : 10 ^ a.length ≤ 10 ^ t.length := Nat.pow_le_pow_right (by decide) (by simp at h; omega)
    omega
/-- Of equal length: byte by byte. -/
def ltB : List UInt8 → List UInt8 → Bool
  | _, [] => false
  | [], _ :: _ => true
  | a :: r, b :: t => if a.toNat < b.toNat then true else if b.toNat < a.toNat then false else ltB r t
theorem dec_lt (a : List UInt8) : ∀ b : List UInt8, isDs a → isDs b → a.length = b.length → (ltB a b = true ↔ decN a < decN b) := by
  induction a with
  | nil =>
    intro b _ _ hl
    cases b with
    | nil => simp [ltB]
    | cons c t => simp at hl
  | cons c r ih =>
    intro b ha hb hl
    cases b with
    | nil => simp at hl
    | cons d t =>
      have hl' : r.length = t.length := by simpa using hl
      have h1 := xD_rng (ha c (by simp))
      have h2 := xD_rng (hb d (by simp))
      have h3 := decN_lt r (fun x hx => ha x (by simp [hx]))
      have h4 := decN_lt t (fun x hx => hb x (by simp [hx]))
      have h5 := ih t (fun x hx => ha x (by simp [hx])) (fun x hx => hb x (by simp [hx])) hl'
      rw [decN_cons, decN_cons, hl']
      rw [hl'] at h3
      simp only [ltB]
      by_cases c1 : c.toNat < d.toNat
      · rw [if_pos c1]
        have h6 : dv c + 1 ≤ dv d := by unfold dv; omega
        have h7 : (dv c + 1) * 10 ^ t.length ≤ dv d * 10 ^ t.length := Nat.mul_le_mul_right _ h6
        rw [Nat.add_mul] at h7
        exact ⟨fun _ => by omega, fun _ => rfl⟩
      · rw [if_neg c1]
        by_cases c2 : d.toNat < c.toNat
        · rw [if_pos c2]
          have h6 : dv d + 1 ≤ dv c := by unfold dv; omega
          have h7 : (dv d + 1) * 10 ^ t.length ≤ dv c * 10 ^ t.length := Nat.mul_le_mul_right _ h6
          rw [Nat.add_mul] at h7
          exact ⟨fun h => (by cases h), fun h => by omega⟩
        · rw [if_neg c2, h5]
          have : dv c = dv d := by unfold dv; omega
          rw [this]
          omega
/-- The bytes without the zeros ahead. -/
def nz0 (l : List UInt8) : List UInt8 := l.dropWhile fun c => decide (c.toNat = 48)
theorem nz0_dec (l : List UInt8) : decN (nz0 l) = decN l := by
  induction l with
  | nil => rfl
  | cons c l ih =>
    unfold nz0
    rw [List.dropWhile_cons]
    by_cases h : c.toNat = 48
    · rw [if_pos (by simp [h])]
      have : c = 48 := UInt8.toNat_inj.1 h
      subst this
      rw [decN_zero]; exact ih
    · rw [if_neg (by simp [h])]
theorem nz0_ds {l : List UInt8} (h : isDs l) : isDs (nz0 l) := fun c hc => h c ((List.dropWhile_suffix _).subset hc)
theorem nz0_head (l : List UInt8) : ∀ c t, nz0 l = c :: t → ¬ c.toNat = 48 := by
  induction l with
  | nil => intro c t h; cases h
  | cons d l ih =>
    intro c t h
    unfold nz0 at h
    rw [List.dropWhile_cons] at h
    by_cases hd : d.toNat = 48
    · rw [if_pos (by simp [hd])] at h; exact ih c t h
    · rw [if_neg (by simp [hd])] at h; cases h; exact hd
/-- Above: by length, then byte by byte. -/
def abB (d t : List UInt8) : Bool := if (nz0 d).length = t.length then ltB t (nz0 d) else decide (t.length < (nz0 d).length)
theorem ab_dec {d t : List UInt8} (hd : isDs d) (ht : isDs t) (h0 : ∀ c r, t = c :: r → ¬ c.toNat = 48) : abB d t = decide (decN t < decN d) := by
  unfold abB
  rw [Bool.eq_iff_iff, decide_eq_true_eq, ← nz0_dec d]
  have h1 := nz0_ds hd
  by_cases hl : (nz0 d).length = t.length
  · rw [if_pos hl]
    exact dec_lt t (nz0 d) ht h1 hl.symm
  · rw [if_neg hl, decide_eq_true_eq]
    refine ⟨fun h => dec_long ht h1 (nz0_head d) h, fun h => ?_⟩
    rcases Nat.lt_or_ge t.length (nz0 d).length with h2 | h2
    · exact h2
    · have := dec_long h1 ht h0 (by omega)
      omega
theorem gt_ltB (a : List UInt8) : ∀ b : List UInt8, (!Op.bytesLess a b && !a == b) = ltB b a := by
  induction a with
  | nil => intro b; cases b <;> simp [Op.bytesLess, ltB]
  | cons c r ih =>
    intro b
    cases b with
    | nil => simp [Op.bytesLess, ltB]
    | cons d t =>
      have h := ih t
      simp only [Op.bytesLess, ltB]
      by_cases c1 : d.toNat < c.toNat
      · have n1 : ¬ c < d := fun h => by have := UInt8.lt_iff_toNat_lt.1 h; omega
        have n2 : ¬ c = d := fun h => by rw [h] at c1; omega
        simp [c1, n1, n2]
      · by_cases c2 : c.toNat < d.toNat
        · have n1 : c < d := UInt8.lt_iff_toNat_lt.2 c2
          simp [c1, c2, n1]
        · have e : c = d := UInt8.toNat_inj.1 (by omega)
          subst e
          rw [if_neg (by omega), if_neg (by omega), ← h]
          simp
end Go.Proofs.YthpflfkgbapbnaaGreatDoor
