/- Rules: the rule that a node says, the document's words: of any node. -/
import Derived.Test.YtifioikdhfhljaaGreatDoorRu6
namespace Go.Proofs.YtifioikdhfhljaaGreatDoor
open Go.RowKit

def saysW (x : Nd) : ByteArray := (lkP x.ps [107, 105, 110, 100]).s
def saysOf (x : Nd) : ByteArray := (lkP x.ps [111, 102]).s
noncomputable def saysR (x : Nd) : Rl :=
  if nbP x.ps [111, 102] = false then ⟨x.id, 0, saysOf x, { data := #[] }, 0, { data := #[] }, { data := #[] }, 0⟩
  else if (saysW x).toList = [117, 110, 105, 113, 117, 101] then ⟨x.id, 1, saysOf x, (lkP x.ps [107, 101, 121]).s, 0, { data := #[] }, { data := #[] }, 0⟩
  else if (saysW x).toList = [110, 101, 101, 100, 115] then ⟨x.id, 2, saysOf x, (lkP x.ps [107, 101, 121]).s, 0, { data := #[] }, { data := #[] }, 0⟩
  else if (saysW x).toList = [111, 110, 108, 121] then ⟨x.id, 3, saysOf x, (lkP x.ps [107, 101, 121]).s, typeV (lkP x.ps [116, 121, 112, 101]).s, { data := #[] }, { data := #[] }, 0⟩
  else if (saysW x).toList = [108, 105, 110, 107] then ⟨x.id, 4, saysOf x, { data := #[] }, 0, (lkP x.ps [102, 114, 111, 109]).s, (lkP x.ps [116, 111]).s, 0⟩
  else if (saysW x).toList = [109, 111, 115, 116] then ⟨x.id, 5, saysOf x, { data := #[] }, 0, { data := #[] }, { data := #[] }, (lkP x.ps [110]).a⟩
  else if (saysW x).toList = [111, 114, 100, 101, 114] then ⟨x.id, 6, saysOf x, { data := #[] }, 0, { data := #[] }, { data := #[] }, 0⟩
  else ⟨x.id, 0, saysOf x, { data := #[] }, 0, { data := #[] }, { data := #[] }, 0⟩
noncomputable def saysB (x : Nd) : Bool :=
  if nbP x.ps [111, 102] = false then false
  else if (saysW x).toList = [117, 110, 105, 113, 117, 101] then nbP x.ps [107, 101, 121] && ((x.ps.length : Int) == 3)
  else if (saysW x).toList = [110, 101, 101, 100, 115] then nbP x.ps [107, 101, 121] && ((x.ps.length : Int) == 3)
  else if (saysW x).toList = [111, 110, 108, 121] then nbP x.ps [107, 101, 121] && (tbP x.ps [116, 121, 112, 101] && (decide (typeV (lkP x.ps [116, 121, 112, 101]).s > 0) && ((x.ps.length : Int) == 4)))
  else if (saysW x).toList = [108, 105, 110, 107] then nbP x.ps [102, 114, 111, 109] && (nbP x.ps [116, 111] && ((x.ps.length : Int) == 4))
  else if (saysW x).toList = [109, 111, 115, 116] then isP x.ps [110] && (((lkP x.ps [110]).k == 2) && (decide ((lkP x.ps [110]).a ≥ 0) && ((x.ps.length : Int) == 3)))
  else if (saysW x).toList = [111, 114, 100, 101, 114] then ((x.ps.length : Int) == 2)
  else false
theorem tl_kind : ({ data := #[107, 105, 110, 100] } : ByteArray).toList = [107, 105, 110, 100] := by rw [ByteArray.toList_eq]
theorem tl_of : ({ data := #[111, 102] } : ByteArray).toList = [111, 102] := by rw [ByteArray.toList_eq]
theorem tl_key : ({ data := #[107, 101, 121] } : ByteArray).toList = [107, 101, 121] := by rw [ByteArray.toList_eq]
theorem tl_type : ({ data := #[116, 121, 112, 101] } : ByteArray).toList = [116, 121, 112, 101] := by rw [ByteArray.toList_eq]
theorem tl_from : ({ data := #[102, 114, 111, 109] } : ByteArray).toList = [102, 114, 111, 109] := by rw [ByteArray.toList_eq]
theorem tl_to : ({ data := #[116, 111] } : ByteArray).toList = [116, 111] := by rw [ByteArray.toList_eq]
theorem tl_n : ({ data := #[110] } : ByteArray).toList = [110] := by rw [ByteArray.toList_eq]
set_option maxRecDepth 100000 in
set_option maxHeartbeats 1000000 in
theorem says_any (x : Nd) (pv : Value) (W : World) (h : Row eP.rel W pv x.ps) (hl : x.ps.length ≤ 4611686018427387904) : Calls Tryz.prog 68 #[.agg #[I x.id, .string x.lb, pv]] W fun e W' => e = .returned (.tuple #[.agg (eRl.e (saysR x)).toArray, .bool (saysB x)]) ∧ G W W' := by
  obtain ⟨pa, pc, hv⟩ := h.form
  obtain ⟨pn, hpn⟩ : ∃ pn, pn = x.ps.length := ⟨_, rfl⟩
  rw [← hpn] at hv
  subst hv
  have HK : Hid (∀ V, G W V → Calls Tryz.prog 104 #[.slice pa pn pc, .string { data := #[107, 105, 110, 100] }] V fun e W' => e = .returned (.tuple #[.string (saysW x), .bool (tbP x.ps [107, 105, 110, 100])]) ∧ G V W') := fun V hV => by
    have := text_any { data := #[107, 105, 110, 100] } x.ps _ V (h.G hV) hl
    rw [tl_kind] at this
    exact this
  have HO : Hid (∀ V, G W V → Calls Tryz.prog 105 #[.slice pa pn pc, .string { data := #[111, 102] }] V fun e W' => e = .returned (.tuple #[.string (saysOf x), .bool (nbP x.ps [111, 102])]) ∧ G V W') := fun V hV => by
    have := name_any { data := #[111, 102] } x.ps _ V (h.G hV) hl
    rw [tl_of] at this
    exact this
  have HY : Hid (∀ V, G W V → Calls Tryz.prog 105 #[.slice pa pn pc, .string { data := #[107, 101, 121] }] V fun e W' => e = .returned (.tuple #[.string (lkP x.ps [107, 101, 121]).s, .bool (nbP x.ps [107, 101, 121])]) ∧ G V W') := fun V hV => by
    have := name_any { data := #[107, 101, 121] } x.ps _ V (h.G hV) hl
    rw [tl_key] at this
    exact this
  have HT : Hid (∀ V, G W V → Calls Tryz.prog 104 #[.slice pa pn pc, .string { data := #[116, 121, 112, 101] }] V fun e W' => e = .returned (.tuple #[.string (lkP x.ps [116, 121, 112, 101]).s, .bool (tbP x.ps [116, 121, 112, 101])]) ∧ G V W') := fun V hV => by
    have := text_any { data := #[116, 121, 112, 101] } x.ps _ V (h.G hV) hl
    rw [tl_type] at this
    exact this
  have HLF : Hid (∀ V, G W V → Calls Tryz.prog 105 #[.slice pa pn pc, .string { data := #[102, 114, 111, 109] }] V fun e W' => e = .returned (.tuple #[.string (lkP x.ps [102, 114, 111, 109]).s, .bool (nbP x.ps [102, 114, 111, 109])]) ∧ G V W') := fun V hV => by
    have := name_any { data := #[102, 114, 111, 109] } x.ps _ V (h.G hV) hl
    rw [tl_from] at this
    exact this
  have HLT : Hid (∀ V, G W V → Calls Tryz.prog 105 #[.slice pa pn pc, .string { data := #[116, 111] }] V fun e W' => e = .returned (.tuple #[.string (lkP x.ps [116, 111]).s, .bool (nbP x.ps [116, 111])]) ∧ G V W') := fun V hV => by
    have := name_any { data := #[116, 111] } x.ps _ V (h.G hV) hl
    rw [tl_to] at this
    exact this
  have HM : Hid (∀ V, G W V → Calls Tryz.prog 107 #[.slice pa pn pc, .string { data := #[110] }] V fun e W' => e = .returned (.tuple #[.agg #[I (lkP x.ps [110]).k, I (lkP x.ps [110]).a, I (lkP x.ps [110]).b, .string (lkP x.ps [110]).s], .bool (isP x.ps [110])]) ∧ G V W') := fun V hV => by
    have := prop_any { data := #[110] } x.ps _ V (h.G hV) hl
    rw [tl_n] at this
    exact this
  have HKN : Hid (∀ V, Calls Tryz.prog 106 #[.string (lkP x.ps [116, 121, 112, 101]).s] V fun e W' => e = .returned (I (typeV (lkP x.ps [116, 121, 112, 101]).s)) ∧ W' = V) := fun V => kindNamed_any _ V
  unfold saysR saysB
  rw [← hpn]
  cases hof : (nbP x.ps [111, 102]) with
  | false =>
    rw [hof] at HO
    rw [if_pos rfl, if_pos rfl]
    exact says_not x.id x.lb _ _ _ pa pn pc W HK HO
  | true =>
    rw [hof] at HO
    rw [if_neg (show ¬ (true = false) by simp), if_neg (show ¬ (true = false) by simp)]
    by_cases h0 : (saysW x).toList = [117, 110, 105, 113, 117, 101]
    · rw [if_pos h0, if_pos h0]
      have e0 : ((saysW x).toList == [117, 110, 105, 113, 117, 101]) = true := by rw [h0]; decide
      have e1 : ((saysW x).toList == [110, 101, 101, 100, 115]) = false := by rw [h0]; decide
      have e2 : ((saysW x).toList == [111, 110, 108, 121]) = false := by rw [h0]; decide
      cases hy : (nbP x.ps [107, 101, 121]) with
      | false =>
        rw [hy] at HY
        exact says_unique_f x.id x.lb _ _ _ pa pn pc W HK _ HO HY e0 e1 e2
      | true =>
        rw [hy] at HY
        exact says_unique_t x.id x.lb _ _ _ pa pn pc W HK _ HO HY e0 e1 e2
    rw [if_neg h0, if_neg h0]
    by_cases h1 : (saysW x).toList = [110, 101, 101, 100, 115]
    · rw [if_pos h1, if_pos h1]
      have e0 : ((saysW x).toList == [117, 110, 105, 113, 117, 101]) = false := by rw [h1]; decide
      have e1 : ((saysW x).toList == [110, 101, 101, 100, 115]) = true := by rw [h1]; decide
      have e2 : ((saysW x).toList == [111, 110, 108, 121]) = false := by rw [h1]; decide
      cases hy : (nbP x.ps [107, 101, 121]) with
      | false =>
        rw [hy] at HY
        exact says_needs_f x.id x.lb _ _ _ pa pn pc W HK _ HO HY e0 e1 e2
      | true =>
        rw [hy] at HY
        exact says_needs_t x.id x.lb _ _ _ pa pn pc W HK _ HO HY e0 e1 e2
    rw [if_neg h1, if_neg h1]
    by_cases h2 : (saysW x).toList = [111, 110, 108, 121]
    · rw [if_pos h2, if_pos h2]
      have e0 : ((saysW x).toList == [117, 110, 105, 113, 117, 101]) = false := by rw [h2]; decide
      have e1 : ((saysW x).toList == [110, 101, 101, 100, 115]) = false := by rw [h2]; decide
      have e2 : ((saysW x).toList == [111, 110, 108, 121]) = true := by rw [h2]; decide
      cases hy : (nbP x.ps [107, 101, 121]) with
      | false =>
        rw [hy] at HY
        exact says_only_f x.id x.lb _ _ _ pa pn pc W HK _ _ _ _ HO HY HT HKN e0 e1 e2
      | true =>
        rw [hy] at HY
        cases ht : (tbP x.ps [116, 121, 112, 101]) with
        | false =>
          rw [ht] at HT
          exact says_only_g x.id x.lb _ _ _ pa pn pc W HK _ _ _ HO HY HT HKN e0 e1 e2
        | true =>
          rw [ht] at HT
          cases hd : decide (typeV (lkP x.ps [116, 121, 112, 101]).s > 0) with
          | false =>
            exact says_only_h x.id x.lb _ _ _ pa pn pc W HK _ _ _ HO HY HT HKN hd e0 e1 e2
          | true =>
            exact says_only_t x.id x.lb _ _ _ pa pn pc W HK _ _ _ HO HY HT HKN (of_decide_eq_true hd) e0 e1 e2
    rw [if_neg h2, if_neg h2]
    by_cases h3 : (saysW x).toList = [108, 105, 110, 107]
    · rw [if_pos h3, if_pos h3]
      have e0 : ((saysW x).toList == [117, 110, 105, 113, 117, 101]) = false := by rw [h3]; decide
      have e1 : ((saysW x).toList == [110, 101, 101, 100, 115]) = false := by rw [h3]; decide
      have e2 : ((saysW x).toList == [111, 110, 108, 121]) = false := by rw [h3]; decide
      have e3 : ((saysW x).toList == [108, 105, 110, 107]) = true := by rw [h3]; decide
      cases hy : (nbP x.ps [102, 114, 111, 109]) with
      | false =>
        rw [hy] at HLF
        exact says_link_f x.id x.lb _ _ _ pa pn pc W HK _ _ _ HO HLF HLT e0 e1 e2 e3
      | true =>
        rw [hy] at HLF
        cases ht : (nbP x.ps [116, 111]) with
        | false =>
          rw [ht] at HLT
          exact says_link_g x.id x.lb _ _ _ pa pn pc W HK _ _ HO HLF HLT e0 e1 e2 e3
        | true =>
          rw [ht] at HLT
          exact says_link_t x.id x.lb _ _ _ pa pn pc W HK _ _ HO HLF HLT e0 e1 e2 e3
    rw [if_neg h3, if_neg h3]
    by_cases h4 : (saysW x).toList = [109, 111, 115, 116]
    · rw [if_pos h4, if_pos h4]
      have e0 : ((saysW x).toList == [117, 110, 105, 113, 117, 101]) = false := by rw [h4]; decide
      have e1 : ((saysW x).toList == [110, 101, 101, 100, 115]) = false := by rw [h4]; decide
      have e2 : ((saysW x).toList == [111, 110, 108, 121]) = false := by rw [h4]; decide
      have e3 : ((saysW x).toList == [108, 105, 110, 107]) = false := by rw [h4]; decide
      have e4 : ((saysW x).toList == [109, 111, 115, 116]) = true := by rw [h4]; decide
      cases hy : isP x.ps [110] with
      | false =>
        rw [hy] at HM
        exact says_most_f x.id x.lb _ _ _ pa pn pc W HK _ _ _ _ HO HM e0 e1 e2 e3 e4
      | true =>
        rw [hy] at HM
        cases ht : ((lkP x.ps [110]).k == 2) with
        | false =>
          exact says_most_g x.id x.lb _ _ _ pa pn pc W HK _ _ _ _ HO HM ht e0 e1 e2 e3 e4
        | true =>
          cases hd : decide ((lkP x.ps [110]).a ≥ 0) with
          | false =>
            exact says_most_h x.id x.lb _ _ _ pa pn pc W HK _ _ _ _ HO HM ht hd e0 e1 e2 e3 e4
          | true =>
            exact says_most_t x.id x.lb _ _ _ pa pn pc W HK _ _ _ _ HO HM ht (of_decide_eq_true hd) e0 e1 e2 e3 e4
    rw [if_neg h4, if_neg h4]
    by_cases h5 : (saysW x).toList = [111, 114, 100, 101, 114]
    · rw [if_pos h5, if_pos h5]
      have e0 : ((saysW x).toList == [117, 110, 105, 113, 117, 101]) = false := by rw [h5]; decide
      have e1 : ((saysW x).toList == [110, 101, 101, 100, 115]) = false := by rw [h5]; decide
      have e2 : ((saysW x).toList == [111, 110, 108, 121]) = false := by rw [h5]; decide
      have e3 : ((saysW x).toList == [108, 105, 110, 107]) = false := by rw [h5]; decide
      have e4 : ((saysW x).toList == [109, 111, 115, 116]) = false := by rw [h5]; decide
      have e5 : ((saysW x).toList == [111, 114, 100, 101, 114]) = true := by rw [h5]; decide
      exact says_order x.id x.lb _ _ _ pa pn pc W HK HO e0 e1 e2 e3 e4 e5
    rw [if_neg h5, if_neg h5]
    have e0 : ((saysW x).toList == [117, 110, 105, 113, 117, 101]) = false := beq_false_of_ne h0
    have e1 : ((saysW x).toList == [110, 101, 101, 100, 115]) = false := beq_false_of_ne h1
    have e2 : ((saysW x).toList == [111, 110, 108, 121]) = false := beq_false_of_ne h2
    have e3 : ((saysW x).toList == [108, 105, 110, 107]) = false := beq_false_of_ne h3
    have e4 : ((saysW x).toList == [109, 111, 115, 116]) = false := beq_false_of_ne h4
    have e5 : ((saysW x).toList == [111, 114, 100, 101, 114]) = false := beq_false_of_ne h5
    exact says_none x.id x.lb _ _ _ pa pn pc W HK HO e0 e1 e2 e3 e4 e5
end Go.Proofs.YtifioikdhfhljaaGreatDoor
