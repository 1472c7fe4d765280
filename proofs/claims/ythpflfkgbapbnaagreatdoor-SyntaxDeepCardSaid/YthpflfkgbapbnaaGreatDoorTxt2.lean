/- Where the second part of a complex number's literal begins; escapes read back. Plain mathematics, no program. -/
import Derived.Test.YthpflfkgbapbnaaGreatDoorTxt1
import Derived.Lib.LastIndexByte
namespace Go.Proofs.YthpflfkgbapbnaaGreatDoor
open Go.Lib

theorem data_at (u : ByteArray) (j : Nat) (c : UInt8) (h : u.data.toList[j]? = some c) : u.data[j]! = c := by
  have h' : u.data[j]? = some c := by rw [← Array.getElem?_toList]; exact h
  simp [getElem!_def, h']
theorem lastIdx_eq (u : ByteArray) (c : UInt8) (L : Nat) (hL : u.data.toList[L]? = some c) (hb : ∀ j d, L < j → u.data.toList[j]? = some d → d ≠ c) : lastIndexByte u c.toNat = L := by
  have hsz : u.size = u.data.toList.length := by rw [Array.length_toList]; rfl
  have hlt : L < u.size := by rw [hsz]; exact (List.getElem?_eq_some_iff.1 hL).1
  have cmp : ∀ d : UInt8, ((d.toNat : Nat) : Int) = ((c.toNat : Nat) : Int) → d = c := fun d h => UInt8.toNat_inj.1 (by omega)
  unfold lastIndexByte
  rcases lastIdx_spec u c.toNat u.size with ⟨_, h⟩ | ⟨i, hi, he, hc, hn⟩
  · exact absurd (by rw [data_at u L c hL]) (h L hlt)
  · rw [he]
    obtain ⟨d, hd⟩ : ∃ d, u.data.toList[i]? = some d := ⟨_, List.getElem?_eq_getElem (by rw [← hsz]; exact hi)⟩
    rw [data_at u i d hd] at hc
    have hdc := cmp d hc
    subst hdc
    rcases Nat.lt_trichotomy i L with h | h | h
    · exact absurd (by rw [data_at u L d hL]) (hn L h hlt)
    · subst h; rfl
    · exact absurd rfl (hb i d h hd)
theorem lastIdx_le (u : ByteArray) (c : UInt8) (L : Nat) (hb : ∀ j d, L < j → u.data.toList[j]? = some d → d ≠ c) : lastIndexByte u c.toNat ≤ L := by
  have hsz : u.size = u.data.toList.length := by rw [Array.length_toList]; rfl
  unfold lastIndexByte
  rcases lastIdx_spec u c.toNat u.size with ⟨h, _⟩ | ⟨i, hi, he, hc, _⟩
  · omega
  · rw [he]
    obtain ⟨d, hd⟩ : ∃ d, u.data.toList[i]? = some d := ⟨_, List.getElem?_eq_getElem (by rw [← hsz]; exact hi)⟩
    rw [data_at u i d hd] at hc
    have hdc : d = c := UInt8.toNat_inj.1 (by omega)
    have : ¬ L < i := fun h => hb i d h hd hdc
    omega
/-- The sign of the second part is the last one of the text. -/
theorem sign_at (u : ByteArray) (a b : Int) (h : u.data.toList = itoa a ++ (if b < 0 then itoa b else 43 :: itoa b)) : max (max (lastIndexByte u 43) (lastIndexByte u 45)) 0 = ((itoa a).length : Int) := by
  obtain ⟨σ, ds, hσ, hds, hsp⟩ : ∃ (σ : UInt8) (ds : List UInt8), (if b < 0 then itoa b else 43 :: itoa b) = σ :: ds ∧ (∀ c ∈ ds, 48 ≤ c.toNat ∧ c.toNat ≤ 57) ∧ (σ = 43 ∨ σ = 45) := by
    by_cases hb : b < 0
    · rw [if_pos hb]
      refine ⟨45, decDigits b.natAbs, by simp [itoa, hb], decD_digit _, .inr rfl⟩
    · rw [if_neg hb]
      refine ⟨43, itoa b, rfl, ?_, .inl rfl⟩
      unfold itoa; rw [if_neg hb]; exact decD_digit _
  rw [hσ] at h
  have hL : u.data.toList[(itoa a).length]? = some σ := by rw [h, List.getElem?_append_right (Nat.le_refl _)]; simp
  have hb : ∀ j d, (itoa a).length < j → u.data.toList[j]? = some d → 48 ≤ d.toNat ∧ d.toNat ≤ 57 := fun j d hj hd => by
    rw [h, List.getElem?_append_right (by omega), show j - (itoa a).length = (j - (itoa a).length - 1) + 1 by omega, List.getElem?_cons_succ] at hd
    exact hds d (List.mem_of_getElem? hd)
  have n43 : ∀ j d, (itoa a).length < j → u.data.toList[j]? = some d → d ≠ 43 := fun j d hj hd e => by
    have := hb j d hj hd; subst e; have e9 : (43 : UInt8).toNat = 43 := rfl; omega
  have n45 : ∀ j d, (itoa a).length < j → u.data.toList[j]? = some d → d ≠ 45 := fun j d hj hd e => by
    have := hb j d hj hd; subst e; have e9 : (45 : UInt8).toNat = 45 := rfl; omega
  have l43 := lastIdx_le u 43 _ n43
  have l45 := lastIdx_le u 45 _ n45
  rcases hsp with rfl | rfl
  · have := lastIdx_eq u 43 _ hL n43
    have e43 : ((43 : UInt8).toNat : Int) = 43 := rfl
    have e45 : ((45 : UInt8).toNat : Int) = 45 := rfl
    rw [e43] at this l43; rw [e45] at l45
    omega
  · have := lastIdx_eq u 45 _ hL n45
    have e43 : ((43 : UInt8).toNat : Int) = 43 := rfl
    have e45 : ((45 : UInt8).toNat : Int) = 45 := rfl
    rw [e45] at this l45; rw [e43] at l43
    omega
/-- What value.firstByte must answer: a byte and how many it takes; where the text begins with a byte's escape, that byte. -/
def FB (t : List UInt8) (c : UInt8) (n : Nat) : Prop := 1 ≤ n ∧ n ≤ t.length ∧ ∀ c0 rest, t = esc1 c0 ++ rest → c = c0 ∧ n = (esc1 c0).length
/-- The shapes of an escape. -/
theorem esc_cases (c : UInt8) : (c = 92 ∧ esc1 c = [92, 92]) ∨ (c = 39 ∧ esc1 c = [92, 39]) ∨ (c = 10 ∧ esc1 c = [92, 110]) ∨ (c = 9 ∧ esc1 c = [92, 116]) ∨ (c = 13 ∧ esc1 c = [92, 114]) ∨ (esc1 c = [92, 120, hx (c.toNat / 16), hx (c.toNat % 16)]) ∨ (c ≠ 92 ∧ esc1 c = [c]) := by
  unfold esc1
  by_cases h1 : c = 92
  · exact .inl ⟨h1, by rw [if_pos h1]⟩
  rw [if_neg h1]
  by_cases h2 : c = 39
  · exact .inr (.inl ⟨h2, by rw [if_pos h2]⟩)
  rw [if_neg h2]
  by_cases h3 : c = 10
  · exact .inr (.inr (.inl ⟨h3, by rw [if_pos h3]⟩))
  rw [if_neg h3]
  by_cases h4 : c = 9
  · exact .inr (.inr (.inr (.inl ⟨h4, by rw [if_pos h4]⟩)))
  rw [if_neg h4]
  by_cases h5 : c = 13
  · exact .inr (.inr (.inr (.inr (.inl ⟨h5, by rw [if_pos h5]⟩))))
  rw [if_neg h5]
  by_cases h6 : c.toNat < 32 ∨ c = 127
  · exact .inr (.inr (.inr (.inr (.inr (.inl (by rw [if_pos h6]))))))
  · exact .inr (.inr (.inr (.inr (.inr (.inr ⟨h1, by rw [if_neg h6]⟩)))))
theorem fb_plain {d : UInt8} {r : List UInt8} (h : d ≠ 92) : FB (d :: r) d 1 := by
  refine ⟨Nat.le_refl _, by simp, fun c0 rest he => ?_⟩
  rcases esc_cases c0 with ⟨_, e⟩ | ⟨_, e⟩ | ⟨_, e⟩ | ⟨_, e⟩ | ⟨_, e⟩ | e | ⟨_, e⟩ <;> rw [e] at he ⊢
  case inr.inr.inr.inr.inr.inr => exact ⟨(List.cons.inj he).1, rfl⟩
  all_goals exact absurd (List.cons.inj he).1 h
theorem fb_short : FB [92] 92 1 := by
  refine ⟨Nat.le_refl _, by simp, fun c0 rest he => ?_⟩
  rcases esc_cases c0 with ⟨_, e⟩ | ⟨_, e⟩ | ⟨_, e⟩ | ⟨_, e⟩ | ⟨_, e⟩ | e | ⟨hc, e⟩ <;> rw [e] at he ⊢
  case inr.inr.inr.inr.inr.inr => exact absurd (List.cons.inj he).1.symm hc
  all_goals exact absurd he (by simp)
theorem fb_letter (of l : UInt8) (hl : (of = 92 ∧ l = 92) ∨ (of = 39 ∧ l = 39) ∨ (of = 10 ∧ l = 110) ∨ (of = 9 ∧ l = 116) ∨ (of = 13 ∧ l = 114)) (r : List UInt8) : FB (92 :: l :: r) of 2 := by
  refine ⟨by decide, by simp, fun c0 rest he => ?_⟩
  rcases esc_cases c0 with ⟨h, e⟩ | ⟨h, e⟩ | ⟨h, e⟩ | ⟨h, e⟩ | ⟨h, e⟩ | e | ⟨hc, e⟩ <;> rw [e] at he ⊢
  case inr.inr.inr.inr.inr.inr => exact absurd (List.cons.inj he).1.symm hc
  all_goals
    have h2 := (List.cons.inj (List.cons.inj he).2).1
    rcases hl with ⟨h3, h4⟩ | ⟨h3, h4⟩ | ⟨h3, h4⟩ | ⟨h3, h4⟩ | ⟨h3, h4⟩ <;> rw [h4] at h2 <;> first | (exfalso; revert h2; decide) | (refine ⟨?_, rfl⟩; rw [h3, h])
/-- No escape at all. -/
theorem fb_none (l : UInt8) (r : List UInt8) (h : l ≠ 92 ∧ l ≠ 39 ∧ l ≠ 110 ∧ l ≠ 116 ∧ l ≠ 114) (hx : l ≠ 120 ∨ r.length < 2) : FB (92 :: l :: r) 92 1 := by
  refine ⟨by decide, by simp, fun c0 rest he => ?_⟩
  rcases esc_cases c0 with ⟨_, e⟩ | ⟨_, e⟩ | ⟨_, e⟩ | ⟨_, e⟩ | ⟨_, e⟩ | e | ⟨hc, e⟩ <;> rw [e] at he ⊢
  case inr.inr.inr.inr.inr.inr => exact absurd (List.cons.inj he).1.symm hc
  case inr.inr.inr.inr.inr.inl =>
    have h2 := List.cons.inj (List.cons.inj he).2
    rcases hx with hx | hx
    · exact absurd h2.1 hx
    · have := congrArg List.length h2.2
      simp at this; omega
  all_goals
    have h2 := (List.cons.inj (List.cons.inj he).2).1
    first | exact absurd h2 h.1 | exact absurd h2 h.2.1 | exact absurd h2 h.2.2.1 | exact absurd h2 h.2.2.2.1 | exact absurd h2 h.2.2.2.2
/-- An escape by two hex digits: what they say. -/
theorem fb_hex (x y : UInt8) (r : List UInt8) (v : UInt8) (hv : ∀ p q, p < 16 → q < 16 → x = hx p → y = hx q → v = UInt8.ofNat (16 * p + q)) : FB (92 :: 120 :: x :: y :: r) v 4 := by
  refine ⟨by decide, by simp, fun c0 rest he => ?_⟩
  rcases esc_cases c0 with ⟨_, e⟩ | ⟨_, e⟩ | ⟨_, e⟩ | ⟨_, e⟩ | ⟨_, e⟩ | e | ⟨hc, e⟩ <;> rw [e] at he ⊢
  case inr.inr.inr.inr.inr.inr => exact absurd (List.cons.inj he).1.symm hc
  case inr.inr.inr.inr.inr.inl =>
    have h2 := List.cons.inj (List.cons.inj he).2
    have h3 := List.cons.inj h2.2
    have h4 := List.cons.inj h3.2
    have hl := c0.toNat_lt
    refine ⟨?_, rfl⟩
    rw [hv (c0.toNat / 16) (c0.toNat % 16) (by omega) (by omega) h3.1 h4.1]
    apply UInt8.toNat_inj.1
    rw [UInt8.toNat_ofNat']; omega
  all_goals (have h2 := (List.cons.inj (List.cons.inj he).2).1; exfalso; revert h2; decide)
/-- Byte by byte, an escaped text is read back. -/
theorem FB.step {t : List UInt8} {c : UInt8} {n : Nat} (h : FB t c n) {l : List UInt8} (he : t = escS l) (hne : t ≠ []) : ∃ l', l = c :: l' ∧ t.drop n = escS l' := by
  cases l with
  | nil => exact absurd (he.trans rfl) hne
  | cons d l =>
    have e : escS (d :: l) = esc1 d ++ escS l := by simp [escS]
    rw [e] at he
    obtain ⟨rfl, hn⟩ := h.2.2 d (escS l) he
    exact ⟨l, rfl, by rw [he, hn, List.drop_left]⟩
end Go.Proofs.YthpflfkgbapbnaaGreatDoor
