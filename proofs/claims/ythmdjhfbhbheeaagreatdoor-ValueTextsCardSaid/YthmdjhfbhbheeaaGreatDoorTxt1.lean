/- Literals read back: what a guess must be (P112). Plain mathematics, no program. -/
import Derived.Test.YthmdjhfbhbheeaaGreatDoorTxt0
import Derived.Test.YthmdjhfbhbheeaaGreatDoorOkK
namespace Go.Proofs.YthmdjhfbhbheeaaGreatDoor
open Go.Lib

/-- If the text is some value's literal, it is this value's. -/
def TG (t : List UInt8) (k a b : Int) (s : ByteArray) : Prop := ∀ k0 a0 b0 s0, okV k0 a0 b0 s0 = true → R64 a0 → R64 b0 → t = litV k0 a0 b0 s0 → k = k0 ∧ a = a0 ∧ b = b0 ∧ s = s0
/-- Some number, where the text is none (value.wholeOf). -/
def whO (l : List UInt8) : Int := match parseIntB 64 l with | .ok v => v | .syntax => 0 | .range => intSat 64 l
theorem whO_itoa (n : Int) (h : R64 n) : whO (itoa n) = n := by unfold whO; rw [parse_itoa n h]
theorem whO_plus (n : Int) (h : R64 n) (h0 : ¬ n < 0) : whO (43 :: itoa n) = n := by
  unfold R64 at h
  unfold whO itoa
  rw [if_neg h0, parse_plus _ (by omega)]
  simp only; omega
theorem ok_5' {a b : Int} {s : ByteArray} (h : okV 5 a b s = true) : b = 0 ∧ s = E0 := by
  simp [okV, Bool.and_eq_true] at h
  exact ⟨h.1.2, empty_eq (List.isEmpty_iff.2 h.2)⟩
theorem ok_6' {a b : Int} {s : ByteArray} (h : okV 6 a b s = true) : b = 0 ∧ s = E0 := by
  simp [okV, Bool.and_eq_true] at h
  exact ⟨h.1.2, empty_eq (List.isEmpty_iff.2 h.2)⟩
theorem okV_kinds {k a b : Int} {s : ByteArray} (h : okV k a b s = true) : k = 0 ∨ k = 1 ∨ k = 2 ∨ k = 3 ∨ k = 4 ∨ k = 5 ∨ k = 6 := by
  have := okV_kind k a b s h
  omega
/-- How each kind's literal begins. -/
theorem lit_head {k a b : Int} {s : ByteArray} (h : okV k a b s = true) : ∃ c r, litV k a b s = c :: r ∧ ((k = 0 ∧ c.toNat = 110) ∨ (k = 1 ∧ (c.toNat = 116 ∨ c.toNat = 102)) ∨ ((k = 2 ∨ k = 3) ∧ (c.toNat = 45 ∨ (48 ≤ c.toNat ∧ c.toNat ≤ 57))) ∨ (k = 4 ∧ c.toNat = 39) ∨ (k = 5 ∧ c.toNat = 40) ∨ (k = 6 ∧ c.toNat = 91)) := by
  rcases okV_kinds h with rfl | rfl | rfl | rfl | rfl | rfl | rfl
  · exact ⟨_, _, rfl, .inl ⟨rfl, rfl⟩⟩
  · by_cases c : a = 1
    · subst c; exact ⟨116, _, rfl, .inr (.inl ⟨rfl, .inl rfl⟩)⟩
    · refine ⟨102, [97, 108, 115, 101], ?_, .inr (.inl ⟨rfl, .inr rfl⟩)⟩
      simp [litV, c]
  · obtain ⟨c, r, e, hc⟩ := itoa_head a
    exact ⟨c, r, by simp [litV, e], .inr (.inr (.inl ⟨.inl rfl, hc⟩))⟩
  · obtain ⟨c, r, e, hc⟩ := itoa_head a
    by_cases hb : b < 0
    · exact ⟨c, _, by simp [litV, e, hb]; rfl, .inr (.inr (.inl ⟨.inr rfl, hc⟩))⟩
    · exact ⟨c, _, by simp [litV, e, hb]; rfl, .inr (.inr (.inl ⟨.inr rfl, hc⟩))⟩
  · exact ⟨39, _, by simp [litV]; rfl, .inr (.inr (.inr (.inl ⟨rfl, rfl⟩)))⟩
  · exact ⟨40, _, by simp [litV]; rfl, .inr (.inr (.inr (.inr (.inl ⟨rfl, rfl⟩))))⟩
  · exact ⟨91, _, by simp [litV]; rfl, .inr (.inr (.inr (.inr (.inr ⟨rfl, rfl⟩))))⟩
theorem lit_ne {k a b : Int} {s : ByteArray} (h : okV k a b s = true) : litV k a b s ≠ [] := by
  obtain ⟨c, r, e, _⟩ := lit_head h
  rw [e]; simp
theorem tg_null : TG [110, 117, 108, 108] 0 0 0 E0 := by
  intro k a b s ok _ _ he
  obtain ⟨c, r, e, hc⟩ := lit_head ok
  rw [e] at he
  have h1 : c.toNat = 110 := by have := (List.cons.inj he).1; subst this; rfl
  have hk : k = 0 := by omega
  subst hk
  obtain ⟨rfl, rfl, rfl⟩ := ok_0 ok
  exact ⟨rfl, rfl, rfl, rfl⟩
theorem tg_bool (x : Bool) : TG (if x then [116, 114, 117, 101] else [102, 97, 108, 115, 101]) 1 (if x then 1 else 0) 0 E0 := by
  intro k a b s ok _ _ he
  obtain ⟨c, r, e, hc⟩ := lit_head ok
  have h1 : c.toNat = 116 ∨ c.toNat = 102 := by
    rw [e] at he
    cases x
    · have := (List.cons.inj he).1; subst this; exact .inr rfl
    · have := (List.cons.inj he).1; subst this; exact .inl rfl
  have hk : k = 1 := by omega
  subst hk
  obtain ⟨ha, rfl, rfl⟩ := ok_1 ok
  rcases ha with rfl | rfl
  · cases x
    · exact ⟨rfl, rfl, rfl, rfl⟩
    · exact absurd he (by simp [litV])
  · cases x
    · exact absurd he (by simp [litV])
    · exact ⟨rfl, rfl, rfl, rfl⟩
/-- The text without its first and its last byte. -/
def innr (t : List UInt8) : List UInt8 := (t.drop 1).dropLast
theorem innr_mid (c d : UInt8) (l : List UInt8) : innr (c :: l ++ [d]) = l := by simp [innr]
theorem tg_str {r : List UInt8} {s : ByteArray} (hs : ∀ l, innr (39 :: r) = escS l → s.data.toList = l) : TG (39 :: r) 4 0 0 s := by
  intro k a b s0 ok _ _ he
  obtain ⟨c, r', e, hc⟩ := lit_head ok
  have he' := he
  rw [e] at he'
  have h1 : c.toNat = 39 := by have := (List.cons.inj he').1; subst this; rfl
  have hk : k = 4 := by omega
  subst hk
  obtain ⟨rfl, rfl, _⟩ := ok_4 ok
  have h2 := hs s0.data.toList (by rw [he]; simp only [litV]; exact innr_mid _ _ _)
  refine ⟨rfl, rfl, rfl, ?_⟩
  cases s; cases s0; simp at h2; rw [h2]
theorem tg_id (c : UInt8) (k0 : Int) (hk : (c.toNat = 40 ∧ k0 = 5) ∨ (c.toNat = 91 ∧ k0 = 6)) (r : List UInt8) : TG (c :: r) k0 (whO (innr (c :: r))) 0 E0 := by
  intro k a b s ok ha _ he
  obtain ⟨c', r', e, hc⟩ := lit_head ok
  have he' := he
  rw [e] at he'
  have h1 : c = c' := (List.cons.inj he').1
  subst h1
  rcases hk with ⟨hc0, rfl⟩ | ⟨hc0, rfl⟩
  · have hk : k = 5 := by omega
    subst hk
    obtain ⟨rfl, rfl⟩ := ok_5' ok
    refine ⟨rfl, ?_, rfl, rfl⟩
    rw [he, show litV 5 a 0 E0 = 40 :: itoa a ++ [41] by simp [litV], innr_mid]
    exact whO_itoa a ha
  · have hk : k = 6 := by omega
    subst hk
    obtain ⟨rfl, rfl⟩ := ok_6' ok
    refine ⟨rfl, ?_, rfl, rfl⟩
    rw [he, show litV 6 a 0 E0 = 91 :: itoa a ++ [93] by simp [litV], innr_mid]
    exact whO_itoa a ha
theorem tg_whole {t : List UInt8} (h0 : t ≠ [110, 117, 108, 108]) (h1 : t ≠ [116, 114, 117, 101]) (h2 : t ≠ [102, 97, 108, 115, 101]) (h3 : ∀ c r, t = c :: r → c.toNat ≠ 39 ∧ c.toNat ≠ 40 ∧ c.toNat ≠ 91) (h4 : ∀ u, t ≠ u ++ [105]) : TG t 2 (whO t) 0 E0 := by
  intro k a b s ok ha _ he
  obtain ⟨c, r, e, hc⟩ := lit_head ok
  have h5 := h3 c r (he.trans e)
  rcases okV_kinds ok with rfl | rfl | rfl | rfl | rfl | rfl | rfl
  · exact absurd he h0
  · obtain ⟨hx, rfl, rfl⟩ := ok_1 ok
    rcases hx with rfl | rfl
    · exact absurd he h2
    · exact absurd he h1
  · obtain ⟨rfl, rfl⟩ := ok_2 ok
    exact ⟨rfl, by rw [he]; exact whO_itoa a ha, rfl, rfl⟩
  · exact absurd he (h4 _)
  · omega
  · omega
  · omega
/-- Where the second part of a complex number begins. -/
theorem tg_cpx {u : List UInt8} {n : Nat} (hn : ∀ a b : Int, u = itoa a ++ (if b < 0 then itoa b else 43 :: itoa b) → n = (itoa a).length) (h3 : ∀ c r, u ++ [105] = c :: r → c.toNat ≠ 39 ∧ c.toNat ≠ 40 ∧ c.toNat ≠ 91) : TG (u ++ [105]) 3 (whO (u.take n)) (whO (u.drop n)) E0 := by
  intro k a b s ok ha hb he
  obtain ⟨c, r, e, hc⟩ := lit_head ok
  have h5 := h3 c r (he.trans e)
  have hlast : (u ++ [105]).getLast? = some 105 := by simp
  rw [he] at hlast
  rcases okV_kinds ok with rfl | rfl | rfl | rfl | rfl | rfl | rfl
  · exact absurd hlast (by simp [litV])
  · obtain ⟨hx, rfl, rfl⟩ := ok_1 ok
    rcases hx with rfl | rfl <;> exact absurd hlast (by simp [litV])
  · have hm : (105 : UInt8) ∈ itoa a := by
      have : litV 2 a b s = itoa a := by simp [litV]
      rw [this] at hlast
      exact List.mem_of_getLast? hlast
    exfalso
    obtain ⟨c', r', e', hc'⟩ := itoa_head a
    have ht := itoa_tail a
    rw [e'] at hm ht
    rcases List.mem_cons.1 hm with h | h
    · subst h; have e9 : (105 : UInt8).toNat = 105 := rfl; omega
    · have := ht 105 (by simpa using h); have e9 : (105 : UInt8).toNat = 105 := rfl; omega
  · obtain ⟨_, _, rfl⟩ := ok_3 ok
    have he2 : u = itoa a ++ (if b < 0 then itoa b else 43 :: itoa b) := by
      have : litV 3 a b E0 = (itoa a ++ (if b < 0 then itoa b else 43 :: itoa b)) ++ [105] := by
        by_cases hb0 : b < 0 <;> simp [litV, hb0]
      rw [this] at he
      exact List.append_cancel_right he
    have hn' := hn a b he2
    refine ⟨rfl, ?_, ?_, rfl⟩
    · rw [hn', he2, List.take_left]; exact whO_itoa a ha
    · rw [hn', he2, List.drop_left]
      by_cases hb0 : b < 0
      · rw [if_pos hb0]; exact whO_itoa b hb
      · rw [if_neg hb0]; exact whO_plus b hb hb0
  · omega
  · omega
  · omega
end Go.Proofs.YthmdjhfbhbheeaaGreatDoor
