/- How the bytes of values stand to each other (P113). Plain mathematics, no program. -/
import Derived.Test.YtdiikofgilplkaaDoorOrd1
import Derived.Test.YtdiikofgilplkaaDoorEnc5
namespace Go.Proofs.YtdiikofgilplkaaDoor
open Go.RowKit Go.Shelf Go.PlainAid Go.Lib

theorem encS_nil : encS [] = [] := rfl
theorem encS_cons (c : Nat) (l : List Nat) : encS (c :: l) = (if c = 0 then [0, 255] else [c]) ++ encS l := by unfold encS; rw [List.flatMap_cons]
/-- P113: a lesser string has lesser bytes. -/
theorem encS_ls : ∀ (l l' : List Nat), lx l l' = -1 → Ls (encS l ++ [0, 0]) (encS l' ++ [0, 0])
  | [], [], h => by simp [lx] at h
  | [], b :: m, _ => by
    rw [encS_nil, encS_cons]
    by_cases hb : b = 0
    · rw [if_pos hb]
      exact ⟨[0], 0, 255, [], encS m ++ [0, 0], by simp, by simp, by decide⟩
    · rw [if_neg hb]
      exact ⟨[], 0, b, [0], encS m ++ [0, 0], by simp, by simp, by omega⟩
  | a :: l, [], h => by simp [lx] at h
  | a :: l, b :: m, h => by
    unfold lx at h
    rw [encS_cons, encS_cons]
    by_cases h1 : a < b
    · by_cases ha : a = 0
      · subst ha
        rw [if_pos rfl, if_neg (by omega)]
        exact ⟨[], 0, b, [255] ++ (encS l ++ [0, 0]), encS m ++ [0, 0], by simp, by simp, by omega⟩
      · rw [if_neg ha, if_neg (by omega)]
        exact ⟨[], a, b, encS l ++ [0, 0], encS m ++ [0, 0], by simp, by simp, h1⟩
    · rw [if_neg h1] at h
      by_cases h2 : b < a
      · rw [if_pos h2] at h; simp at h
      · rw [if_neg h2] at h
        have e : a = b := by omega
        subst e
        rw [List.append_assoc, List.append_assoc]
        exact (encS_ls l m h).pre _
/-- The bytes of a string's bytes as numbers. -/
def nats (s : ByteArray) : List Nat := (List.range s.size).map fun k => (bt s k).toNat
/-- A value's place: what Compare looks at, kind by kind. -/
theorem encV_kinds (k a b : Int) (s : ByteArray) : encV k a b s = if k = 0 then [80] else if k = 1 then [48, a.toNat] else if k = 2 then encW a ++ [0] else if k = 3 then (encW a ++ [1]) ++ encW b else if k = 4 then (32 :: encS (nats s)) ++ [0, 0] else if k = 5 then 16 :: encW a else 17 :: encW a := rfl
theorem encW_head (n : Int) (h : R64 n) : ∃ d r, encW n = d :: r ∧ 56 ≤ d ∧ d ≤ 72 := by
  have := low_len n h.1 h.2
  refine ⟨_, _, rfl, ?_, ?_⟩ <;> split <;> omega
theorem ls_node {a a' : Int} (h : R64 a) (h' : R64 a') (hl : a < a') (b b' : Int) (s s' : ByteArray) : Ls (encV 5 a b s) (encV 5 a' b' s') := by
  simp only [encV_kinds]; exact (encW_ls h h' hl).cons 16
theorem ls_edge {a a' : Int} (h : R64 a) (h' : R64 a') (hl : a < a') (b b' : Int) (s s' : ByteArray) : Ls (encV 6 a b s) (encV 6 a' b' s') := by
  simp only [encV_kinds]; exact (encW_ls h h' hl).cons 17
theorem ls_str (a b a' b' : Int) {s s' : ByteArray} (h : lx (nats s) (nats s') = -1) : Ls (encV 4 a b s) (encV 4 a' b' s') := by
  simp only [encV_kinds]; exact (encS_ls _ _ h).cons 32
theorem ls_truth (b b' : Int) (s s' : ByteArray) : Ls (encV 1 0 b s) (encV 1 1 b' s') := by
  simp only [encV_kinds]; exact ⟨[48], 0, 1, [], [], rfl, rfl, by decide⟩
/-- Numbers: by the first part; a whole number ahead of a complex one; by the second part. -/
theorem ls_num {k k' : Int} (hk : k = 2 ∨ k = 3) (hk' : k' = 2 ∨ k' = 3) {a a' : Int} (h : R64 a) (h' : R64 a') (hl : a < a') (b b' : Int) (s s' : ByteArray) : Ls (encV k a b s) (encV k' a' b' s') := by
  have e := encW_ls h h' hl
  rcases hk with rfl | rfl <;> rcases hk' with rfl | rfl <;> simp only [encV_kinds]
  · exact e.app _ _
  · simpa using e.app [0] (1 :: encW b')
  · simpa using e.app (1 :: encW b) [0]
  · simpa using e.app (1 :: encW b) (1 :: encW b')
theorem ls_whole (a b b' : Int) (s s' : ByteArray) : Ls (encV 2 a b s) (encV 3 a b' s') := by
  simp only [encV_kinds]
  exact ⟨encW a, 0, 1, [], encW b', by simp, by simp, by decide⟩
theorem ls_cpx (a : Int) {b b' : Int} (h : R64 b) (h' : R64 b') (hl : b < b') (s s' : ByteArray) : Ls (encV 3 a b s) (encV 3 a b' s') := by
  simp only [encV_kinds]
  exact (encW_ls h h' hl).pre _
/-- Kinds of different ranks: the first byte tells. -/
theorem ls_rank (k k' : Nat) (hk : k < 7) (hk' : k' < 7) (hr : ([5, 3, 4, 4, 2, 0, 1] : List Int).getD k 0 < ([5, 3, 4, 4, 2, 0, 1] : List Int).getD k' 0) {a a' : Int} (h : R64 a) (h' : R64 a') (b b' : Int) (s s' : ByteArray) : Ls (encV k a b s) (encV k' a' b' s') := by
  obtain ⟨d, r, e1, l1, l2⟩ := encW_head a h
  obtain ⟨d', r', e2, l1', l2'⟩ := encW_head a' h'
  have c1 : k = 0 ∨ k = 1 ∨ k = 2 ∨ k = 3 ∨ k = 4 ∨ k = 5 ∨ k = 6 := by omega
  have c2 : k' = 0 ∨ k' = 1 ∨ k' = 2 ∨ k' = 3 ∨ k' = 4 ∨ k' = 5 ∨ k' = 6 := by omega
  rcases c1 with rfl | rfl | rfl | rfl | rfl | rfl | rfl <;> rcases c2 with rfl | rfl | rfl | rfl | rfl | rfl | rfl <;> first
    | (exfalso; revert hr; decide)
    | (simp only [encV_kinds, e1, e2]; exact Ls.head _ _ _ _ (by omega))
end Go.Proofs.YtdiikofgilplkaaDoor
