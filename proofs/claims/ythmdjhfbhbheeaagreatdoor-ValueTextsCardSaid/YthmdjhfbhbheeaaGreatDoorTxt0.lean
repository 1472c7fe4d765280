/- Literals (P111): plain mathematics, no program. -/
import Derived.Test.YthmdjhfbhbheeaaGreatDoorScriptOpen
import Derived.Lib.ItoaNum
import Derived.Lib.ParseIntB
namespace Go.Proofs.YthmdjhfbhbheeaaGreatDoor
open Go.Lib

theorem dig_nat (d : Nat) (h : d < 10) : (UInt8.ofNat (48 + d)).toNat = 48 + d := by
  rw [UInt8.toNat_ofNat']; omega
theorem decD_digit (u : Nat) : ∀ c ∈ decDigits u, 48 ≤ c.toNat ∧ c.toNat ≤ 57 := by
  induction u using Nat.strongRecOn with
  | _ u ih =>
    intro c hc
    rw [decDigits] at hc
    by_cases h : u < 10
    · rw [dif_pos h] at hc
      simp only [List.mem_singleton] at hc; subst hc
      rw [dig_nat u h]; omega
    · rw [dif_neg h] at hc
      rcases List.mem_append.1 hc with h' | h'
      · exact ih (u / 10) (by omega) c h'
      · simp only [List.mem_singleton] at h'; subst h'
        rw [dig_nat _ (by omega)]; omega
theorem decD_ne (u : Nat) : decDigits u ≠ [] := by
  rw [decDigits]; split <;> simp
theorem parse_snoc (M d : Nat) (hd : d < 10) (hM : M ≤ 18446744073709551615) : ∀ (l : List UInt8) (acc v : Nat), parseUintM M acc l = .ok v → v * 10 + d ≤ M → parseUintM M acc (l ++ [UInt8.ofNat (48 + d)]) = .ok (v * 10 + d)
  | [], acc, v, h, hv => by
    simp only [parseUintM] at h
    cases h
    rw [List.nil_append, parseUintM, if_pos (by rw [dig_nat d hd]; omega), if_neg (by omega), dig_nat d hd, if_neg (by omega), parseUintM]
    congr 1; omega
  | c :: l, acc, v, h, hv => by
    rw [List.cons_append, parseUintM]
    rw [parseUintM] at h
    by_cases c1 : 48 ≤ c.toNat ∧ c.toNat ≤ 57
    · rw [if_pos c1] at h ⊢
      by_cases c2 : 1844674407370955162 ≤ acc
      · rw [if_pos c2] at h; cases h
      · rw [if_neg c2] at h ⊢
        by_cases c3 : M < acc * 10 + (c.toNat - 48)
        · rw [if_pos c3] at h; cases h
        · rw [if_neg c3] at h ⊢
          exact parse_snoc M d hd hM l _ v h hv
    · rw [if_neg c1] at h; cases h
theorem parse_dec (M : Nat) (hM : M ≤ 18446744073709551615) (u : Nat) (hu : u ≤ M) : parseUintM M 0 (decDigits u) = .ok u := by
  induction u using Nat.strongRecOn with
  | _ u ih =>
    rw [decDigits]
    by_cases h : u < 10
    · rw [dif_pos h]
      have := parse_snoc M u h hM [] 0 0 (by simp [parseUintM]) (by omega)
      simpa using this
    · rw [dif_neg h]
      have := parse_snoc M (u % 10) (by omega) hM (decDigits (u / 10)) 0 (u / 10) (ih (u / 10) (by omega) (by omega)) (by omega)
      rw [this]; congr 1; omega
theorem parseU_dec (u : Nat) (hu : u ≤ 18446744073709551615) : parseUintB 64 (decDigits u) = .ok u := by
  unfold parseUintB
  rw [if_neg (decD_ne u)]
  exact parse_dec _ (by omega) u (by omega)
/-- A number's digits, behind no sign, behind '+', behind '-'. -/
theorem parse_pos (u : Nat) (hu : u < 9223372036854775808) : parseIntB 64 (decDigits u) = .ok (u : Int) := by
  obtain ⟨c, r, hc⟩ : ∃ c r, decDigits u = c :: r := by
    cases h : decDigits u with
    | nil => exact absurd h (decD_ne u)
    | cons c r => exact ⟨c, r, rfl⟩
  have hd := decD_digit u c (by rw [hc]; simp)
  rw [hc]
  unfold parseIntB
  simp only
  rw [if_neg (by omega), ← hc, parseU_dec u (by omega)]
  simp only
  rw [if_neg (by omega), if_neg (by omega), if_neg (by omega)]
theorem parse_plus (u : Nat) (hu : u < 9223372036854775808) : parseIntB 64 (43 :: decDigits u) = .ok (u : Int) := by
  have e : (43 : UInt8).toNat = 43 := rfl
  unfold parseIntB
  simp only
  rw [if_pos (by rw [e]; simp), parseU_dec u (by omega)]
  simp only
  rw [if_neg (by rw [e]; omega), if_neg (by rw [e]; omega), if_neg (by rw [e]; omega)]
theorem parse_minus (u : Nat) (hu : u ≤ 9223372036854775808) : parseIntB 64 (45 :: decDigits u) = .ok (-(u : Int)) := by
  have e : (45 : UInt8).toNat = 45 := rfl
  unfold parseIntB
  simp only
  rw [if_pos (by rw [e]; simp), parseU_dec u (by omega)]
  simp only
  rw [if_neg (by rw [e]; omega), if_neg (by rw [e]; omega), if_pos (by rw [e])]
theorem parse_itoa (n : Int) (h : R64 n) : parseIntB 64 (itoa n) = .ok n := by
  unfold R64 at h
  unfold itoa
  by_cases c : n < 0
  · rw [if_pos c, parse_minus _ (by omega)]; congr 1; omega
  · rw [if_neg c, parse_pos _ (by omega)]; congr 1; omega

/-- How a byte of a string stands in its literal. -/
def hx (d : Nat) : UInt8 := if d < 10 then UInt8.ofNat (48 + d) else UInt8.ofNat (87 + d)
def esc1 (c : UInt8) : List UInt8 :=
  if c = 92 then [92, 92] else if c = 39 then [92, 39] else if c = 10 then [92, 110] else if c = 9 then [92, 116] else if c = 13 then [92, 114]
  else if c.toNat < 32 ∨ c = 127 then [92, 120, hx (c.toNat / 16), hx (c.toNat % 16)] else [c]
def escS (l : List UInt8) : List UInt8 := l.flatMap esc1
/-- The byte that a text begins with or has an escape for, and how many bytes it takes (value.firstByte). -/
def unhx (c : UInt8) : Nat := if c.toNat < 58 then c.toNat - 48 else c.toNat - 87
/-- The literal of a value. -/
def litV (k a b : Int) (s : ByteArray) : List UInt8 :=
  if k = 0 then [110, 117, 108, 108] else if k = 1 then (if a = 1 then [116, 114, 117, 101] else [102, 97, 108, 115, 101]) else if k = 2 then itoa a
  else if k = 3 then (if b < 0 then itoa a ++ itoa b else itoa a ++ 43 :: itoa b) ++ [105]
  else if k = 4 then 39 :: escS s.data.toList ++ [39] else if k = 5 then 40 :: itoa a ++ [41] else 91 :: itoa a ++ [93]
theorem hx_back : ∀ d, d < 16 → unhx (hx d) = d := by decide
theorem itoa_ne (n : Int) : itoa n ≠ [] := by
  unfold itoa; split
  · simp
  · exact decD_ne _
/-- A number's text begins with a digit or '-'. -/
theorem itoa_head (n : Int) : ∃ c r, itoa n = c :: r ∧ (c.toNat = 45 ∨ (48 ≤ c.toNat ∧ c.toNat ≤ 57)) := by
  unfold itoa
  split
  · exact ⟨_, _, rfl, .inl rfl⟩
  · cases h : decDigits n.toNat with
    | nil => exact absurd h (decD_ne _)
    | cons c r => exact ⟨c, r, rfl, .inr (decD_digit n.toNat c (by rw [h]; simp))⟩
/-- Its further letters are digits. -/
theorem itoa_tail (n : Int) : ∀ c ∈ (itoa n).drop 1, 48 ≤ c.toNat ∧ c.toNat ≤ 57 := by
  unfold itoa
  split
  · intro c hc; exact decD_digit _ c (by simpa using hc)
  · intro c hc; exact decD_digit _ c (List.mem_of_mem_drop hc)
end Go.Proofs.YthmdjhfbhbheeaaGreatDoor
