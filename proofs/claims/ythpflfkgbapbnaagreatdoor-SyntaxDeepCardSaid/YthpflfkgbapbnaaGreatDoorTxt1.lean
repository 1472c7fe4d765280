/- Literals read back: what a guess must be (P112). Plain mathematics, no program. -/
import Derived.Test.YthpflfkgbapbnaaGreatDoorScriptOpen
import Derived.Lib.ItoaNum
import Derived.Lib.ParseIntB
import Derived.Test.YthpflfkgbapbnaaGreatDoorOkK
namespace Go.Proofs.YthpflfkgbapbnaaGreatDoor
section
open Go.Lib

theorem dig_nat (d : Nat) (h : d < 10) : (UInt8.ofNat (48 + d)).toNat = 48 + d := by
  rw [UInt8.toNat_ofNat']; omega
theorem decD_digit (u : Nat) : ∀ c ∈ decDigits u, 48 ≤ c.toNat ∧ c.toNat ≤ 57 := by
  induction u using Nat.strongRecOn with
  | _ u ih =>
    intro c hc
    rw [decDigits] at hc
    by_cases h : u < 10
    · rw [dif_pos h] at hc
      simp only [List.mem_singleton] at hc; subst hc
      rw [dig_nat u h]; omega
    · rw [dif_neg h] at hc
      rcases List.mem_append.1 hc with h' | h'
      · exact ih (u / 10) (by omega) c h'
      · simp only [List.mem_singleton] at h'; subst h'
        rw [dig_nat _ (by omega)]; omega
theorem decD_ne (u : Nat) : decDigits u ≠ [] := by
  rw [decDigits]; split <;> simp
theorem parse_snoc (M d : Nat) (hd : d < 10) (hM : M ≤ 18446744073709551615) : ∀ (l : List UInt8) (acc v : Nat), parseUintM M acc l = .ok v → v * 10 + d ≤ M → parseUintM M acc (l ++ [UInt8.ofNat (48 + d)]) = .ok (v * 10 + d)
  | [], acc, v, h, hv => by
    simp only [parseUintM] at h
    cases h
    rw [List.nil_append, parseUintM, if_pos (by rw [dig_nat d hd]; omega), if_neg (by omega), dig_nat d hd, if_neg (by omega), parseUintM]
    congr 1; omega
  | c :: l, acc, v, h, hv => by
    rw [List.cons_append, parseUintM]
    rw [parseUintM] at h
    by_cases c1 : 48 ≤ c.toNat ∧ c.toNat ≤ 57
    · rw [if_pos c1] at h ⊢
      by_cases c2 : 1844674407370955162 ≤ acc
      · rw [if_pos c2] at h; cases h
      · rw [if_neg c2] at h ⊢
        by_cases c3 : M < acc * 10 + (c.toNat - 48)
        · rw [if_pos c3] at h; cases h
        · rw [if_neg c3] at h ⊢
          exact parse_snoc M d hd hM l _ v h hv
    · rw [if_neg c1] at h; cases h
theorem parse_dec (M : Nat) (hM : M ≤ 18446744073709551615) (u : Nat) (hu : u ≤ M) : parseUintM M 0 (decDigits u) = .ok u := by
  induction u using Nat.strongRecOn with
  | _ u ih =>
    rw [decDigits]
    by_cases h : u < 10
    · rw [dif_pos h]
      have := parse_snoc M u h hM [] 0 0 (by simp [parseUintM]) (by omega)
      simpa using this
    · rw [dif_neg h]
      have := parse_snoc M (u % 10) (by omega) hM (decDigits (u / 10)) 0 (u / 10) (ih (u / 10) (by omega) (by omega)) (by omega)
      rw [this]; congr 1; omega
theorem parseU_dec (u : Nat) (hu : u ≤ 18446744073709551615) : parseUintB 64 (decDigits u) = .ok u := by
  unfold parseUintB
  rw [if_neg (decD_ne u)]
  exact parse_dec _ (by omega) u (by omega)
/-- A number's digits, behind no sign, behind '+', behind '-'. -/
theorem parse_pos (u : Nat) (hu : u < 9223372036854775808) : parseIntB 64 (decDigits u) = .ok (u : Int) := by
  obtain ⟨c, r, hc⟩ : ∃ c r, decDigits u = c :: r := by
    cases h : decDigits u with
    | nil => exact absurd h (decD_ne u)
    | cons c r => exact ⟨c, r, rfl⟩
  have hd := decD_digit u c (by rw [hc]; simp)
  rw [hc]
  unfold parseIntB
  simp only
  rw [if_neg (by omega), ← hc, parseU_dec u (by omega)]
  simp only
  rw [if_neg (by omega), if_neg (by omega), if_neg (by omega)]
theorem parse_plus (u : Nat) (hu : u < 9223372036854775808) : parseIntB 64 (43 :: decDigits u) = .ok (u : Int) := by
  have e : (43 : UInt8).toNat = 43 := rfl
  unfold parseIntB
  simp only
  rw [if_pos (by rw [e]; simp), parseU_dec u (by omega)]
  simp only
  rw [if_neg (by rw [e]; omega), if_neg (by rw [e]; omega), if_neg (by rw [e]; omega)]
theorem parse_minus (u : Nat) (hu : u ≤ 9223372036854775808) : parseIntB 64 (45 :: decDigits u) = .ok (-(u : Int)) := by
  have e : (45 : UInt8).toNat = 45 := rfl
  unfold parseIntB
  simp only
  rw [if_pos (by rw [e]; simp), parseU_dec u (by omega)]
  simp only
  rw [if_neg (by rw [e]; omega), if_neg (by rw [e]; omega), if_pos (by rw [e])]
theorem parse_itoa (n : Int) (h : R64 n) : parseIntB 64 (itoa n) = .ok n := by
  unfold R64 at h
  unfold itoa
  by_cases c : n < 0
  · rw [if_pos c, parse_minus _ (by omega)]; congr 1; omega
  · rw [if_neg c, parse_pos _ (by omega)]; congr 1; omega

/-- How a byte of a string stands in its literal. -/
def hx (d : Nat) : UInt8 := if d < 10 then UInt8.ofNat (48 + d) else UInt8.ofNat (87 + d)
def esc1 (c : UInt8) : List UInt8 :=
  if c = 92 then [92, 92] else if c = 39 then [92, 39] else if c = 10 then [92, 110] else if c = 9 then [92, 116] else if c = 13 then [92, 114]
  else if c.toNat < 32 ∨ c = 127 then [92, 120, hx (c.toNat / 16), hx (c.toNat % 16)] else [c]
def escS (l : List UInt8) : List UInt8 := l.flatMap esc1
/-- The byte that a text begins with or has an escape for, and how many bytes it takes (value.firstByte). -/
def unhx (c : UInt8) : Nat := if c.toNat < 58 then c.toNat - 48 else c.toNat - 87
/-- The literal of a value. -/
def litV (k a b : Int) (s : ByteArray) : List UInt8 :=
  if k = 0 then [110, 117, 108, 108] else if k = 1 then (if a = 1 then [116, 114, 117, 101] else [102, 97, 108, 115, 101]) else if k = 2 then itoa a
  else if k = 3 then (if b < 0 then itoa a ++ itoa b else itoa a ++ 43 :: itoa b) ++ [105]
  else if k = 4 then 39 :: escS s.data.toList ++ [39] else if k = 5 then 40 :: itoa a ++ [41] else 91 :: itoa a ++ [93]
theorem hx_back : ∀ d, d < 16 → unhx (hx d) = d := by decide
theorem itoa_ne (n : Int) : itoa n ≠ [] := by
  unfold itoa; split
  · simp
  · exact decD_ne _
/-- A number's text begins with a digit or '-'. -/
theorem itoa_head (n : Int) : ∃ c r, itoa n = c :: r ∧ (c.toNat = 45 ∨ (48 ≤ c.toNat ∧ c.toNat ≤ 57)) := by
  unfold itoa
  split
  · exact ⟨_, _, rfl, .inl rfl⟩
  · cases h : decDigits n.toNat with
    | nil => exact absurd h (decD_ne _)
    | cons c r => exact ⟨c, r, rfl, .inr (decD_digit n.toNat c (by rw [h]; simp))⟩
/-- Its further letters are digits. -/
theorem itoa_tail (n : Int) : ∀ c ∈ (itoa n).drop 1, 48 ≤ c.toNat ∧ c.toNat ≤ 57 := by
  unfold itoa
  split
  · intro c hc; exact decD_digit _ c (by simpa using hc)
  · intro c hc; exact decD_digit _ c (List.mem_of_mem_drop hc)
end
open Go.Lib

/-- If the text is some value's literal, it is this value's. -/
def TG (t : List UInt8) (k a b : Int) (s : ByteArray) : Prop := ∀ k0 a0 b0 s0, okV k0 a0 b0 s0 = true → R64 a0 → R64 b0 → t = litV k0 a0 b0 s0 → k = k0 ∧ a = a0 ∧ b = b0 ∧ s = s0
/-- Some number, where the text is none (value.wholeOf). -/
def whO (l : List UInt8) : Int := match parseIntB 64 l with | .ok v => v | .syntax => 0 | .range => intSat 64 l
theorem whO_itoa (n : Int) (h : R64 n) : whO (itoa n) = n := by unfold whO; rw [parse_itoa n h]
theorem whO_plus (n : Int) (h : R64 n) (h0 : ¬ n < 0) : whO (43 :: itoa n) = n := by
  unfold R64 at h
  unfold whO itoa
  rw [if_neg h0, parse_plus _ (by omega)]
  simp only; omega
theorem ok_5' {a b : Int} {s : ByteArray} (h : okV 5 a b s = true) : b = 0 ∧ s = E0 := by
  simp [okV, Bool.and_eq_true] at h
  exact ⟨h.1.2, empty_eq (List.isEmpty_iff.2 h.2)⟩
theorem ok_6' {a b : Int} {s : ByteArray} (h : okV 6 a b s = true) : b = 0 ∧ s = E0 := by
  simp [okV, Bool.and_eq_true] at h
  exact ⟨h.1.2, empty_eq (List.isEmpty_iff.2 h.2)⟩
theorem okV_kinds {k a b : Int} {s : ByteArray} (h : okV k a b s = true) : k = 0 ∨ k = 1 ∨ k = 2 ∨ k = 3 ∨ k = 4 ∨ k = 5 ∨ k = 6 := by
  have := okV_kind k a b s h
  omega
/-- How each kind's literal begins. -/
theorem lit_head {k a b : Int} {s : ByteArray} (h : okV k a b s = true) : ∃ c r, litV k a b s = c :: r ∧ ((k = 0 ∧ c.toNat = 110) ∨ (k = 1 ∧ (c.toNat = 116 ∨ c.toNat = 102)) ∨ ((k = 2 ∨ k = 3) ∧ (c.toNat = 45 ∨ (48 ≤ c.toNat ∧ c.toNat ≤ 57))) ∨ (k = 4 ∧ c.toNat = 39) ∨ (k = 5 ∧ c.toNat = 40) ∨ (k = 6 ∧ c.toNat = 91)) := by
  rcases okV_kinds h with rfl | rfl | rfl | rfl | rfl | rfl | rfl
  · exact ⟨_, _, rfl, .inl ⟨rfl, rfl⟩⟩
  · by_cases c : a = 1
    · subst c; exact ⟨116, _, rfl, .inr (.inl ⟨rfl, .inl rfl⟩)⟩
    · refine ⟨102, [97, 108, 115, 101], ?_, .inr (.inl ⟨rfl, .inr rfl⟩)⟩
      simp [litV, c]
  · obtain ⟨c, r, e, hc⟩ := itoa_head a
    exact ⟨c, r, by simp [litV, e], .inr (.inr (.inl ⟨.inl rfl, hc⟩))⟩
  · obtain ⟨c, r, e, hc⟩ := itoa_head a
    by_cases hb : b < 0
    · exact ⟨c, _, by simp [litV, e, hb]; rfl, .inr (.inr (.inl ⟨.inr rfl, hc⟩))⟩
    · exact ⟨c, _, by simp [litV, e, hb]; rfl, .inr (.inr (.inl ⟨.inr rfl, hc⟩))⟩
  · exact ⟨39, _, by simp [litV]; rfl, .inr (.inr (.inr (.inl ⟨rfl, rfl⟩)))⟩
  · exact ⟨40, _, by simp [litV]; rfl, .inr (.inr (.inr (.inr (.inl ⟨rfl, rfl⟩))))⟩
  · exact ⟨91, _, by simp [litV]; rfl, .inr (.inr (.inr (.inr (.inr ⟨rfl, rfl⟩))))⟩
theorem lit_ne {k a b : Int} {s : ByteArray} (h : okV k a b s = true) : litV k a b s ≠ [] := by
  obtain ⟨c, r, e, _⟩ := lit_head h
  rw [e]; simp
theorem tg_null : TG [110, 117, 108, 108] 0 0 0 E0 := by
  intro k a b s ok _ _ he
  obtain ⟨c, r, e, hc⟩ := lit_head ok
  rw [e] at he
  have h1 : c.toNat = 110 := by have := (List.cons.inj he).1; subst this; rfl
  have hk : k = 0 := by omega
  subst hk
  obtain ⟨rfl, rfl, rfl⟩ := ok_0 ok
  exact ⟨rfl, rfl, rfl, rfl⟩
theorem tg_bool (x : Bool) : TG (if x then [116, 114, 117, 101] else [102, 97, 108, 115, 101]) 1 (if x then 1 else 0) 0 E0 := by
  intro k a b s ok _ _ he
  obtain ⟨c, r, e, hc⟩ := lit_head ok
  have h1 : c.toNat = 116 ∨ c.toNat = 102 := by
    rw [e] at he
    cases x
    · have := (List.cons.inj he).1; subst this; exact .inr rfl
    · have := (List.cons.inj he).1; subst this; exact .inl rfl
  have hk : k = 1 := by omega
  subst hk
  obtain ⟨ha, rfl, rfl⟩ := ok_1 ok
  rcases ha with rfl | rfl
  · cases x
    · exact ⟨rfl, rfl, rfl, rfl⟩
    · exact absurd he (by simp [litV])
  · cases x
    · exact absurd he (by simp [litV])
    · exact ⟨rfl, rfl, rfl, rfl⟩
/-- The text without its first and its last byte. -/
def innr (t : List UInt8) : List UInt8 := (t.drop 1).dropLast
theorem innr_mid (c d : UInt8) (l : List UInt8) : innr (c :: l ++ [d]) = l := by simp [innr]
theorem tg_str {r : List UInt8} {s : ByteArray} (hs : ∀ l, innr (39 :: r) = escS l → s.data.toList = l) : TG (39 :: r) 4 0 0 s := by
  intro k a b s0 ok _ _ he
  obtain ⟨c, r', e, hc⟩ := lit_head ok
  have he' := he
  rw [e] at he'
  have h1 : c.toNat = 39 := by have := (List.cons.inj he').1; subst this; rfl
  have hk : k = 4 := by omega
  subst hk
  obtain ⟨rfl, rfl, _⟩ := ok_4 ok
  have h2 := hs s0.data.toList (by rw [he]; simp only [litV]; exact innr_mid _ _ _)
  refine ⟨rfl, rfl, rfl, ?_⟩
  cases s; cases s0; simp at h2; rw [h2]
theorem tg_id (c : UInt8) (k0 : Int) (hk : (c.toNat = 40 ∧ k0 = 5) ∨ (c.toNat = 91 ∧ k0 = 6)) (r : List UInt8) : TG (c :: r) k0 (whO (innr (c :: r))) 0 E0 := by
  intro k a b s ok ha _ he
  obtain ⟨c', r', e, hc⟩ := lit_head ok
  have he' := he
  rw [e] at he'
  have h1 : c = c' := (List.cons.inj he').1
  subst h1
  rcases hk with ⟨hc0, rfl⟩ | ⟨hc0, rfl⟩
  · have hk : k = 5 := by omega
    subst hk
    obtain ⟨rfl, rfl⟩ := ok_5' ok
    refine ⟨rfl, ?_, rfl, rfl⟩
    rw [he, show litV 5 a 0 E0 = 40 :: itoa a ++ [41] by simp [litV], innr_mid]
    exact whO_itoa a ha
  · have hk : k = 6 := by omega
    subst hk
    obtain ⟨rfl, rfl⟩ := ok_6' ok
    refine ⟨rfl, ?_, rfl, rfl⟩
    rw [he, show litV 6 a 0 E0 = 91 :: itoa a ++ [93] by simp [litV], innr_mid]
    exact whO_itoa a ha
theorem tg_whole {t : List UInt8} (h0 : t ≠ [110, 117, 108, 108]) (h1 : t ≠ [116, 114, 117, 101]) (h2 : t ≠ [102, 97, 108, 115, 101]) (h3 : ∀ c r, t = c :: r → c.toNat ≠ 39 ∧ c.toNat ≠ 40 ∧ c.toNat ≠ 91) (h4 : ∀ u, t ≠ u ++ [105]) : TG t 2 (whO t) 0 E0 := by
  intro k a b s ok ha _ he
  obtain ⟨c, r, e, hc⟩ := lit_head ok
  have h5 := h3 c r (he.trans e)
  rcases okV_kinds ok with rfl | rfl | rfl | rfl | rfl | rfl | rfl
  · exact absurd he h0
  · obtain ⟨hx, rfl, rfl⟩ := ok_1 ok
    rcases hx with rfl | rfl
    · exact absurd he h2
    · exact absurd he h1
  · obtain ⟨rfl, rfl⟩ := ok_2 ok
    exact ⟨rfl, by rw [he]; exact whO_itoa a ha, rfl, rfl⟩
  · exact absurd he (h4 _)
  · omega
  · omega
  · omega
/-- Where the second part of a complex number begins. -/
theorem tg_cpx {u : List UInt8} {n : Nat} (hn : ∀ a b : Int, u = itoa a ++ (if b < 0 then itoa b else 43 :: itoa b) → n = (itoa a).length) (h3 : ∀ c r, u ++ [105] = c :: r → c.toNat ≠ 39 ∧ c.toNat ≠ 40 ∧ c.toNat ≠ 91) : TG (u ++ [105]) 3 (whO (u.take n)) (whO (u.drop n)) E0 := by
  intro k a b s ok ha hb he
  obtain ⟨c, r, e, hc⟩ := lit_head ok
  have h5 := h3 c r (he.trans e)
  have hlast : (u ++ [105]).getLast? = some 105 := by simp
  rw [he] at hlast
  rcases okV_kinds ok with rfl | rfl | rfl | rfl | rfl | rfl | rfl
  · exact absurd hlast (by simp [litV])
  · obtain ⟨hx, rfl, rfl⟩ := ok_1 ok
    rcases hx with rfl | rfl <;> exact absurd hlast (by simp [litV])
  · have hm : (105 : UInt8) ∈ itoa a := by
      have : litV 2 a b s = itoa a := by simp [litV]
      rw [this] at hlast
      exact List.mem_of_getLast? hlast
    exfalso
    obtain ⟨c', r', e', hc'⟩ := itoa_head a
    have ht := itoa_tail a
    rw [e'] at hm ht
    rcases List.mem_cons.1 hm with h | h
    · subst h; have e9 : (105 : UInt8).toNat = 105 := rfl; omega
    · have := ht 105 (by simpa using h); have e9 : (105 : UInt8).toNat = 105 := rfl; omega
  · obtain ⟨_, _, rfl⟩ := ok_3 ok
    have he2 : u = itoa a ++ (if b < 0 then itoa b else 43 :: itoa b) := by
      have : litV 3 a b E0 = (itoa a ++ (if b < 0 then itoa b else 43 :: itoa b)) ++ [105] := by
        by_cases hb0 : b < 0 <;> simp [litV, hb0]
      rw [this] at he
      exact List.append_cancel_right he
    have hn' := hn a b he2
    refine ⟨rfl, ?_, ?_, rfl⟩
    · rw [hn', he2, List.take_left]; exact whO_itoa a ha
    · rw [hn', he2, List.drop_left]
      by_cases hb0 : b < 0
      · rw [if_pos hb0]; exact whO_itoa b hb
      · rw [if_neg hb0]; exact whO_plus b hb hb0
  · omega
  · omega
  · omega
end Go.Proofs.YthpflfkgbapbnaaGreatDoor
