/- Rules: keys that rise; fields, one by one. -/
import Derived.Test.YtifioikdhfhljaaGreatDoorRu7
namespace Go.Proofs.YtifioikdhfhljaaGreatDoor
open Go.RowKit

theorem bl_irr : ∀ x : List UInt8, Op.bytesLess x x = false
  | [] => rfl
  | a :: x => by simp [Op.bytesLess, bl_irr x]
theorem bl_tr : ∀ x y z : List UInt8, Op.bytesLess x y = true → Op.bytesLess y z = true → Op.bytesLess x z = true
  | _, _, [], _, h => by cases h' : (‹List UInt8›) <;> simp_all [Op.bytesLess]
  | [], _, _ :: _, _, _ => rfl
  | a :: x, [], _ :: _, h, _ => by simp [Op.bytesLess] at h
  | a :: x, b :: y, c :: z, h, k => by
    simp only [Op.bytesLess, Bool.or_eq_true, Bool.and_eq_true, decide_eq_true_eq, beq_iff_eq] at h k ⊢
    rcases h with h | ⟨rfl, h⟩
    · rcases k with k | ⟨rfl, k⟩
      · exact .inl (UInt8.lt_trans h k)
      · exact .inl h
    · rcases k with k | ⟨rfl, k⟩
      · exact .inl k
      · exact .inr ⟨rfl, bl_tr x y z h k⟩
/-- Keys all different, and only a string's value has text. -/
structure PsOk (l : List Pv) : Prop where
  nd : (l.map fun p => p.key.toList).Nodup
  st : ∀ p ∈ l, p.k ≠ 4 → p.s.toList = []
theorem propsB_nd : ∀ (l : List Pv) (pr : Option ByteArray), propsB pr l = true → (∀ k, pr = some k → ∀ p ∈ l, Op.bytesLess k.toList p.key.toList = true) ∧ (l.map fun p => p.key.toList).Nodup ∧ ∀ p ∈ l, stoV p.k p.a p.b p.s = true
  | [], _, _ => ⟨fun _ _ p hp => (by cases hp), List.nodup_nil, fun p hp => (by cases hp)⟩
  | x :: l, pr, h => by
    simp only [propsB, Bool.and_eq_true] at h
    obtain ⟨⟨h1, h2⟩, h3⟩ := h
    obtain ⟨i1, i2, i3⟩ := propsB_nd l _ h3
    refine ⟨fun k e p hp => ?_, ?_, fun p hp => ?_⟩
    · subst e
      rcases List.mem_cons.1 hp with rfl | hp
      · exact h1
      · exact bl_tr _ _ _ h1 (i1 _ rfl p hp)
    · rw [List.map_cons, List.nodup_cons]
      refine ⟨fun q => ?_, i2⟩
      obtain ⟨p, hp, e⟩ := List.mem_map.1 q
      have := i1 _ rfl p hp
      rw [e, bl_irr] at this
      cases this
    · rcases List.mem_cons.1 hp with rfl | hp
      · exact h2
      · exact i3 p hp
theorem sto_str {k a b : Int} {s : ByteArray} (h : stoV k a b s = true) (hk : k ≠ 4) : s.toList = [] := by
  unfold stoV okV at h
  simp only [Bool.and_eq_true, decide_eq_true_eq] at h
  obtain ⟨h, h1, h4⟩ := h
  have : k = 1 ∨ k = 2 ∨ k = 3 := by omega
  rcases this with rfl | rfl | rfl <;> simp at h <;> simp_all
theorem PsOk.of {l : List Pv} (h : goodB l = true) : PsOk l := by
  unfold goodB at h
  simp only [Bool.and_eq_true] at h
  obtain ⟨-, h2, h3⟩ := propsB_nd l _ h.1
  exact ⟨h2, fun p hp hk => sto_str (h3 p hp) hk⟩
theorem PsOk.tail {x : Pv} {l : List Pv} (h : PsOk (x :: l)) : PsOk l ∧ ∀ p ∈ l, p.key.toList ≠ x.key.toList := by
  have := h.nd
  rw [List.map_cons, List.nodup_cons] at this
  exact ⟨⟨this.2, fun p hp => h.st p (List.mem_cons_of_mem _ hp)⟩, fun p hp e => this.1 (List.mem_map.2 ⟨p, hp, e⟩)⟩
theorem lookP_cons (x : Pv) (l : List Pv) (k : List UInt8) : lookP (x :: l) k = if x.key.toList = k then some x else lookP l k := by
  unfold lookP
  rw [List.find?_cons]
  by_cases h : x.key.toList = k
  · rw [if_pos h]; simp [h]
  · rw [if_neg h, beq_false_of_ne h]
theorem lookP_none {l : List Pv} {k : List UInt8} (h : ∀ p ∈ l, p.key.toList ≠ k) : lookP l k = none := by
  unfold lookP
  rw [List.find?_eq_none]
  intro p hp
  simp [h p hp]
theorem lookP_mem {l : List Pv} {k : List UInt8} {p : Pv} (h : lookP l k = some p) : p ∈ l ∧ p.key.toList = k := by
  unfold lookP at h
  exact ⟨List.mem_of_find?_eq_some h, by have := List.find?_some h; simpa using this⟩
theorem lookP_of : ∀ {l : List Pv} {p : Pv}, PsOk l → p ∈ l → lookP l p.key.toList = some p
  | x :: l, p, h, hp => by
    rw [lookP_cons]
    rcases List.mem_cons.1 hp with rfl | hp
    · rw [if_pos rfl]
    · rw [if_neg (fun e => h.tail.2 p hp e.symm)]
      exact lookP_of h.tail.1 hp
/-- A field, behind all properties. -/
theorem fold_field {β : Type} (f : Rl → β) (val : Pv → β) (k : List UInt8) (hf : ∀ r p, f (takeF r p) = if p.key.toList = k then val p else f r) : ∀ (l : List Pv), PsOk l → ∀ r, f (l.foldl takeF r) = match lookP l k with | some p => val p | none => f r
  | [], _, r => rfl
  | x :: l, h, r => by
    rw [List.foldl_cons, fold_field f val k hf l h.tail.1, lookP_cons, hf]
    by_cases e : x.key.toList = k
    · rw [if_pos e, if_pos e, lookP_none (fun p hp q => h.tail.2 p hp (q.trans e.symm))]
    · rw [if_neg e, if_neg e]
/-- What lies in as many places as there are, lies nowhere else. -/
theorem pig {α : Type} [DecidableEq α] : ∀ (s m : List α), s.Nodup → (∀ x ∈ s, x ∈ m) → m.length ≤ s.length → ∀ x ∈ m, x ∈ s
  | [], m, _, _, h, x, hx => by
    have : m = [] := List.eq_nil_of_length_eq_zero (by simpa using h)
    rw [this] at hx
    exact hx
  | y :: s, m, hn, hs, h, x, hx => by
    rw [List.nodup_cons] at hn
    have hy := hs y (by simp)
    have hl := List.length_erase_of_mem hy
    have hlp := List.length_pos_of_mem hy
    by_cases e : x = y
    · simp [e]
    · refine List.mem_cons_of_mem _ (pig s (m.erase y) hn.2 (fun z hz => ?_) (by rw [hl]; simp at h; omega) x ((List.mem_erase_of_ne e).2 hx))
      exact (List.mem_erase_of_ne (fun q => hn.1 (by rw [← q]; exact hz))).2 (hs z (by simp [hz]))
theorem tk_n (r : Rl) (p : Pv) : (takeF r p).n = if p.key.toList = [110] then p.a else r.n := by
  unfold takeF
  repeat' split
  all_goals simp_all
theorem tk_kind (r : Rl) (p : Pv) : (takeF r p).kind = if p.key.toList = [107, 105, 110, 100] then kindV p.s else r.kind := by
  unfold takeF
  repeat' split
  all_goals simp_all
theorem tk_of (r : Rl) (p : Pv) : (takeF r p).of = if p.key.toList = [111, 102] then p.s else r.of := by
  unfold takeF
  repeat' split
  all_goals simp_all
theorem tk_key (r : Rl) (p : Pv) : (takeF r p).key = if p.key.toList = [107, 101, 121] then p.s else r.key := by
  unfold takeF
  repeat' split
  all_goals simp_all
theorem tk_is (r : Rl) (p : Pv) : (takeF r p).is = if p.key.toList = [116, 121, 112, 101] then typeV p.s else r.is := by
  unfold takeF
  repeat' split
  all_goals simp_all
theorem tk_fr (r : Rl) (p : Pv) : (takeF r p).fr = if p.key.toList = [102, 114, 111, 109] then p.s else r.fr := by
  unfold takeF
  repeat' split
  all_goals simp_all
theorem tk_dst (r : Rl) (p : Pv) : (takeF r p).dst = if p.key.toList = [116, 111] then p.s else r.dst := by
  unfold takeF
  repeat' split
  all_goals simp_all
theorem tk_id (r : Rl) (p : Pv) : (takeF r p).id = r.id := by
  unfold takeF
  repeat' split
  all_goals rfl
theorem fold_id : ∀ (l : List Pv) (r : Rl), (l.foldl takeF r).id = r.id
  | [], _ => rfl
  | x :: l, r => by rw [List.foldl_cons, fold_id l, tk_id]
theorem kindV_cases (s : ByteArray) : (s.toList = [117, 110, 105, 113, 117, 101] ∧ kindV s = 1) ∨ (s.toList = [110, 101, 101, 100, 115] ∧ kindV s = 2) ∨ (s.toList = [111, 110, 108, 121] ∧ kindV s = 3) ∨ (s.toList = [108, 105, 110, 107] ∧ kindV s = 4) ∨ (s.toList = [109, 111, 115, 116] ∧ kindV s = 5) ∨ (s.toList = [111, 114, 100, 101, 114] ∧ kindV s = 6) ∨ (kindV s = 0 ∧ s.toList ≠ [117, 110, 105, 113, 117, 101] ∧ s.toList ≠ [110, 101, 101, 100, 115] ∧ s.toList ≠ [111, 110, 108, 121] ∧ s.toList ≠ [108, 105, 110, 107] ∧ s.toList ≠ [109, 111, 115, 116] ∧ s.toList ≠ [111, 114, 100, 101, 114]) := by
  unfold kindV
  by_cases h0 : s.toList = [117, 110, 105, 113, 117, 101]
  · rw [h0]
    exact .inl ⟨rfl, rfl⟩
  by_cases h1 : s.toList = [110, 101, 101, 100, 115]
  · rw [h1]
    exact .inr (.inl ⟨rfl, rfl⟩)
  by_cases h2 : s.toList = [111, 110, 108, 121]
  · rw [h2]
    exact .inr (.inr (.inl ⟨rfl, rfl⟩))
  by_cases h3 : s.toList = [108, 105, 110, 107]
  · rw [h3]
    exact .inr (.inr (.inr (.inl ⟨rfl, rfl⟩)))
  by_cases h4 : s.toList = [109, 111, 115, 116]
  · rw [h4]
    exact .inr (.inr (.inr (.inr (.inl ⟨rfl, rfl⟩))))
  by_cases h5 : s.toList = [111, 114, 100, 101, 114]
  · rw [h5]
    exact .inr (.inr (.inr (.inr (.inr (.inl ⟨rfl, rfl⟩)))))
  refine .inr (.inr (.inr (.inr (.inr (.inr (⟨?_, h0, h1, h2, h3, h4, h5⟩))))))
  rcases find_first wdK s.toList with ⟨i, x, hi, hx, hr, -⟩ | ⟨hr, -⟩
  · have hl := (List.getElem?_eq_some_iff.1 hi).1
    have hx := eq_of_beq hx
    match i, hl with
    | 0, _ => rw [hr]; rfl
    | 1, _ =>
      have e : wdK[1]? = some [117, 110, 105, 113, 117, 101] := rfl
      rw [e] at hi
      cases hi
      exact absurd hx.symm h0
    | 2, _ =>
      have e : wdK[2]? = some [110, 101, 101, 100, 115] := rfl
      rw [e] at hi
      cases hi
      exact absurd hx.symm h1
    | 3, _ =>
      have e : wdK[3]? = some [111, 110, 108, 121] := rfl
      rw [e] at hi
      cases hi
      exact absurd hx.symm h2
    | 4, _ =>
      have e : wdK[4]? = some [108, 105, 110, 107] := rfl
      rw [e] at hi
      cases hi
      exact absurd hx.symm h3
    | 5, _ =>
      have e : wdK[5]? = some [109, 111, 115, 116] := rfl
      rw [e] at hi
      cases hi
      exact absurd hx.symm h4
    | 6, _ =>
      have e : wdK[6]? = some [111, 114, 100, 101, 114] := rfl
      rw [e] at hi
      cases hi
      exact absurd hx.symm h5
  · rw [hr]; rfl
theorem typeV_le (s : ByteArray) : 0 ≤ typeV s ∧ typeV s ≤ 4 := by
  unfold typeV
  rcases find_first wdT s.toList with ⟨i, x, hi, -, hr, -⟩ | ⟨hr, -⟩
  · have hl := (List.getElem?_eq_some_iff.1 hi).1
    rw [hr]
    have : wdT.length = 5 := rfl
    omega
  · rw [hr]; decide
theorem e0_not : nameB { data := #[] } = false := by
  have h : ¬ NameP { data := #[] } := fun h => by have := h.1; simp [ByteArray.size] at this
  exact @decide_eq_false _ (Classical.propDecidable _) h
theorem e0_toList : ({ data := #[] } : ByteArray).toList = [] := by rw [ByteArray.toList_eq]
end Go.Proofs.YtifioikdhfhljaaGreatDoor
