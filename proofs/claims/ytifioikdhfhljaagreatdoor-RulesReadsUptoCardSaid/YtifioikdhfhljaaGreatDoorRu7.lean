/- Rules: the rule that a node says, the document's words: of any node. -/
import Derived.Test.YtifioikdhfhljaaGreatDoorRu6
namespace Go.Proofs.YtifioikdhfhljaaGreatDoor
open Go.RowKit

def saysW (x : Nd) : ByteArray := (lkP x.ps [107, 105, 110, 100]).s
def saysOf (x : Nd) : ByteArray := (lkP x.ps [111, 102]).s
noncomputable def saysR (x : Nd) : Rl :=
  if nbP x.ps [111, 102] = false then ⟨x.id, 0, saysOf x, { data := #[] }, 0, { data := #[] }, { data := #[] }, 0⟩
  else if (saysW x).toList = [117, 110, 105, 113, 117, 101] then ⟨x.id, 1, saysOf x, (lkP x.ps [107, 101, 121]).s, 0, { data := #[] }, { data := #[] }, 0⟩
  else if (saysW x).toList = [110, 101, 101, 100, 115] then ⟨x.id, 2, saysOf x, (lkP x.ps [107, 101, 121]).s, 0, { data := #[] }, { data := #[] }, 0⟩
  else if (saysW x).toList = [111, 110, 108, 121] then ⟨x.id, 3, saysOf x, (lkP x.ps [107, 101, 121]).s, typeV (lkP x.ps [116, 121, 112, 101]).s, { data := #[] }, { data := #[] }, 0⟩
  else if (saysW x).toList = [108, 105, 110, 107] then ⟨x.id, 4, saysOf x, { data := #[] }, 0, (lkP x.ps [102, 114, 111, 109]).s, (lkP x.ps [116, 111]).s, 0⟩
  else if (saysW x).toList = [109, 111, 115, 116] then ⟨x.id, 5, saysOf x, { data := #[] }, 0, { data := #[] }, { data := #[] }, (lkP x.ps [110]).a⟩
  else if (saysW x).toList = [111, 114, 100, 101, 114] then ⟨x.id, 6, saysOf x, { data := #[] }, 0, { data := #[] }, { data := #[] }, 0⟩
  else ⟨x.id, 0, saysOf x, { data := #[] }, 0, { data := #[] }, { data := #[] }, 0⟩
noncomputable def saysB (x : Nd) : Bool :=
  if nbP x.ps [111, 102] = false then false
  else if (saysW x).toList = [117, 110, 105, 113, 117, 101] then nbP x.ps [107, 101, 121] && ((x.ps.length : Int) == 3)
  else if (saysW x).toList = [110, 101, 101, 100, 115] then nbP x.ps [107, 101, 121] && ((x.ps.length : Int) == 3)
  else if (saysW x).toList = [111, 110, 108, 121] then nbP x.ps [107, 101, 121] && (tbP x.ps [116, 121, 112, 101] && (decide (typeV (lkP x.ps [116, 121, 112, 101]).s > 0) && ((x.ps.length : Int) == 4)))
  else if (saysW x).toList = [108, 105, 110, 107] then nbP x.ps [102, 114, 111, 109] && (nbP x.ps [116, 111] && ((x.ps.length : Int) == 4))
  else if (saysW x).toList = [109, 111, 115, 116] then isP x.ps [110] && (((lkP x.ps [110]).k == 2) && (decide ((lkP x.ps [110]).a ≥ 0) && ((x.ps.length : Int) == 3)))
  else if (saysW x).toList = [111, 114, 100, 101, 114] then ((x.ps.length : Int) == 2)
  else false
theorem saysR_eq (x : Nd) (h : (nbP x.ps [111, 102]) = true) : saysR x = saysR1 x.id (saysW x) (saysOf x) (lkP x.ps [107, 101, 121]).s (lkP x.ps [116, 121, 112, 101]).s (lkP x.ps [102, 114, 111, 109]).s (lkP x.ps [116, 111]).s (lkP x.ps [110]).a := by
  unfold saysR saysR1
  rw [if_neg (by rw [h]; simp)]
theorem saysB_eq (x : Nd) (h : (nbP x.ps [111, 102]) = true) : saysB x = (saysO1 (saysW x) (lkP x.ps [116, 121, 112, 101]).s (nbP x.ps [107, 101, 121]) (tbP x.ps [116, 121, 112, 101]) (nbP x.ps [102, 114, 111, 109]) (nbP x.ps [116, 111]) (isP x.ps [110]) (lkP x.ps [110]).k (lkP x.ps [110]).a && ((x.ps.length : Int) == 2 + saysM1 (saysW x))) := by
  unfold saysB saysO1 saysM1
  rw [if_neg (by rw [h]; simp)]
  by_cases h0 : (saysW x).toList = [117, 110, 105, 113, 117, 101]
  · simp only [if_pos h0]
    rfl
  by_cases h1 : (saysW x).toList = [110, 101, 101, 100, 115]
  · simp only [if_neg h0, if_pos h1]
    rfl
  by_cases h2 : (saysW x).toList = [111, 110, 108, 121]
  · simp only [if_neg h0, if_neg h1, if_pos h2, Bool.and_assoc]
    rfl
  by_cases h3 : (saysW x).toList = [108, 105, 110, 107]
  · simp only [if_neg h0, if_neg h1, if_neg h2, if_pos h3, Bool.and_assoc]
    rfl
  by_cases h4 : (saysW x).toList = [109, 111, 115, 116]
  · simp only [if_neg h0, if_neg h1, if_neg h2, if_neg h3, if_pos h4, Bool.and_assoc]
    rfl
  by_cases h5 : (saysW x).toList = [111, 114, 100, 101, 114]
  · simp only [if_neg h0, if_neg h1, if_neg h2, if_neg h3, if_neg h4, if_pos h5, Bool.true_and]
    rfl
  simp only [if_neg h0, if_neg h1, if_neg h2, if_neg h3, if_neg h4, if_neg h5, Bool.false_and]
set_option maxRecDepth 100000 in
set_option maxHeartbeats 1000000 in
theorem says_any (x : Nd) (pv : Value) (W : World) (h : Row eP.rel W pv x.ps) (hl : x.ps.length ≤ 4611686018427387904) : Calls Tryz.prog 68 #[.agg #[I x.id, .string x.lb, pv]] W fun e W' => e = .returned (.tuple #[.agg (eRl.e (saysR x)).toArray, .bool (saysB x)]) ∧ G W W' := by
  obtain ⟨pa, pc, hv⟩ := h.form
  obtain ⟨pn, hpn⟩ : ∃ pn, pn = x.ps.length := ⟨_, rfl⟩
  rw [← hpn] at hv
  subst hv
  have HK : Hid (∀ V, G W V → Calls Tryz.prog 104 #[.slice pa pn pc, .string { data := #[107, 105, 110, 100] }] V fun e W' => e = .returned (.tuple #[.string (saysW x), .bool (tbP x.ps [107, 105, 110, 100])]) ∧ G V W') := fun V hV => by
    have := text_any { data := #[107, 105, 110, 100] } x.ps _ V (h.G hV) hl
    rw [tl_kind] at this
    exact this
  have HO : Hid (∀ V, G W V → Calls Tryz.prog 105 #[.slice pa pn pc, .string { data := #[111, 102] }] V fun e W' => e = .returned (.tuple #[.string (saysOf x), .bool (nbP x.ps [111, 102])]) ∧ G V W') := fun V hV => by
    have := name_any { data := #[111, 102] } x.ps _ V (h.G hV) hl
    rw [tl_of] at this
    exact this
  have HY : Hid (∀ V, G W V → Calls Tryz.prog 105 #[.slice pa pn pc, .string { data := #[107, 101, 121] }] V fun e W' => e = .returned (.tuple #[.string (lkP x.ps [107, 101, 121]).s, .bool (nbP x.ps [107, 101, 121])]) ∧ G V W') := fun V hV => by
    have := name_any { data := #[107, 101, 121] } x.ps _ V (h.G hV) hl
    rw [tl_key] at this
    exact this
  have HT : Hid (∀ V, G W V → Calls Tryz.prog 104 #[.slice pa pn pc, .string { data := #[116, 121, 112, 101] }] V fun e W' => e = .returned (.tuple #[.string (lkP x.ps [116, 121, 112, 101]).s, .bool (tbP x.ps [116, 121, 112, 101])]) ∧ G V W') := fun V hV => by
    have := text_any { data := #[116, 121, 112, 101] } x.ps _ V (h.G hV) hl
    rw [tl_type] at this
    exact this
  have HLF : Hid (∀ V, G W V → Calls Tryz.prog 105 #[.slice pa pn pc, .string { data := #[102, 114, 111, 109] }] V fun e W' => e = .returned (.tuple #[.string (lkP x.ps [102, 114, 111, 109]).s, .bool (nbP x.ps [102, 114, 111, 109])]) ∧ G V W') := fun V hV => by
    have := name_any { data := #[102, 114, 111, 109] } x.ps _ V (h.G hV) hl
    rw [tl_from] at this
    exact this
  have HLT : Hid (∀ V, G W V → Calls Tryz.prog 105 #[.slice pa pn pc, .string { data := #[116, 111] }] V fun e W' => e = .returned (.tuple #[.string (lkP x.ps [116, 111]).s, .bool (nbP x.ps [116, 111])]) ∧ G V W') := fun V hV => by
    have := name_any { data := #[116, 111] } x.ps _ V (h.G hV) hl
    rw [tl_to] at this
    exact this
  have HM : Hid (∀ V, G W V → Calls Tryz.prog 107 #[.slice pa pn pc, .string { data := #[110] }] V fun e W' => e = .returned (.tuple #[.agg #[I (lkP x.ps [110]).k, I (lkP x.ps [110]).a, I (lkP x.ps [110]).b, .string (lkP x.ps [110]).s], .bool (isP x.ps [110])]) ∧ G V W') := fun V hV => by
    have := prop_any { data := #[110] } x.ps _ V (h.G hV) hl
    rw [tl_n] at this
    exact this
  have HKN : Hid (∀ V, Calls Tryz.prog 106 #[.string (lkP x.ps [116, 121, 112, 101]).s] V fun e W' => e = .returned (I (typeV (lkP x.ps [116, 121, 112, 101]).s)) ∧ W' = V) := fun V => kindNamed_any _ V
  cases hof : (nbP x.ps [111, 102]) with
  | false =>
    rw [hof] at HO
    rw [show saysR x = ⟨x.id, 0, saysOf x, { data := #[] }, 0, { data := #[] }, { data := #[] }, 0⟩ by unfold saysR; rw [if_pos hof], show saysB x = false by unfold saysB; rw [if_pos hof]]
    exact says_not x.id x.lb _ _ _ pa pn pc W HK HO
  | true =>
    rw [hof] at HO
    rw [saysB_eq x hof, saysR_eq x hof, ← hpn]
    exact says_yes x.id x.lb _ _ _ _ _ _ _ _ _ _ _ _ _ _ _ _ pa pn pc W HO HK HY HT HLF HLT HM HKN
end Go.Proofs.YtifioikdhfhljaaGreatDoor
