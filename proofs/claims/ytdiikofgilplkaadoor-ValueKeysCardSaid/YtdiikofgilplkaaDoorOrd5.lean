/- How names and their numbers stand to each other (P116). Plain mathematics, no program. -/
import Derived.Test.YtdiikofgilplkaaDoorOrd2
import Derived.Test.YtdiikofgilplkaaDoorNam2
namespace Go.Proofs.YtdiikofgilplkaaDoor
open Go.RowKit Go.Shelf Go.PlainAid Go.Lib

/-- The digit of a name at a place. -/
def dgN (s : ByteArray) (k : Nat) : Int := if k < s.size then chN (bt s k) else 0
theorem packK_succ (s : ByteArray) (k : Nat) : packK s (k + 1) = packK s k * 37 + dgN s k := rfl
theorem dgN_bd (s : ByteArray) (h : NameP s) (k : Nat) : 0 ≤ dgN s k ∧ dgN s k ≤ 36 := by
  unfold dgN
  split
  · rename_i hk; have := chN_bd _ (h.2.2.2 k hk); omega
  · omega
theorem packK_same {s t : ByteArray} : ∀ i, (∀ j, j < i → dgN s j = dgN t j) → packK s i = packK t i
  | 0, _ => rfl
  | i + 1, h => by rw [packK_succ, packK_succ, packK_same i (fun j hj => h j (by omega)), h i (by omega)]
theorem packK_lt {s t : ByteArray} (hs : NameP s) (ht : NameP t) (i : Nat) (h : ∀ j, j < i → dgN s j = dgN t j) (hd : dgN s i < dgN t i) : ∀ k, i < k → packK s k < packK t k
  | 0, hk => by omega
  | k + 1, hk => by
    rw [packK_succ, packK_succ]
    have b1 := dgN_bd s hs k
    have b2 := dgN_bd t ht k
    by_cases e : k = i
    · subst e; rw [packK_same k h]; omega
    · have := packK_lt hs ht i h hd k (by omega); omega
/-- Where two lists part. -/
theorem lx_split : ∀ (l m : List Nat), lx l m = -1 → ∃ i : Nat, (∀ j : Nat, j < i → l[j]? = m[j]?) ∧ ((l[i]? = none ∧ ∃ y, m[i]? = some y) ∨ ∃ x y, l[i]? = some x ∧ m[i]? = some y ∧ x < y)
  | [], [], h => by simp [lx] at h
  | [], b :: m, _ => ⟨0, fun j hj => by omega, .inl ⟨rfl, b, rfl⟩⟩
  | a :: l, [], h => by simp [lx] at h
  | a :: l, b :: m, h => by
    unfold lx at h
    by_cases h1 : a < b
    · exact ⟨0, fun j hj => by omega, .inr ⟨a, b, rfl, rfl, h1⟩⟩
    · rw [if_neg h1] at h
      by_cases h2 : b < a
      · rw [if_pos h2] at h; simp at h
      · rw [if_neg h2] at h
        obtain ⟨i, hi, hd⟩ := lx_split l m h
        refine ⟨i + 1, fun j hj => ?_, by simpa using hd⟩
        cases j with
        | zero => simp; omega
        | succ j => simpa using hi j (by omega)
theorem nats_at (s : ByteArray) (j : Nat) : (nats s)[j]? = if j < s.size then some (bt s j).toNat else none := by
  unfold nats
  rw [List.getElem?_map]
  by_cases h : j < s.size
  · rw [List.getElem?_range h, if_pos h]; rfl
  · rw [List.getElem?_eq_none (by simpa using h), if_neg h]; rfl
/-- P116: a lesser name has a lesser number. -/
theorem pack_less {s t : ByteArray} (hs : NameP s) (ht : NameP t) (h : lx (nats s) (nats t) = -1) : packK s 8 < packK t 8 := by
  obtain ⟨i, hi, hd⟩ := lx_split _ _ h
  have same : ∀ j, j < i → dgN s j = dgN t j := fun j hj => by
    have e := hi j hj
    rw [nats_at, nats_at] at e
    unfold dgN
    by_cases h1 : j < s.size <;> by_cases h2 : j < t.size <;> simp [h1, h2] at e ⊢
    have p1 := bt_nonneg s j
    have p2 := bt_nonneg t j
    rw [show bt s j = bt t j by omega]
  have less : i < 8 ∧ dgN s i < dgN t i := by
    rw [nats_at, nats_at] at hd
    rcases hd with ⟨h1, y, h2⟩ | ⟨x, y, h1, h2, h3⟩
    · have a1 : ¬ i < s.size := by intro c; rw [if_pos c] at h1; cases h1
      have a2 : i < t.size := by by_cases c : i < t.size; exact c; rw [if_neg c] at h2; cases h2
      have := chN_bd _ (ht.2.2.2 i a2)
      have := ht.2.1
      unfold dgN
      rw [if_neg a1, if_pos a2]
      omega
    · have a1 : i < s.size := by by_cases c : i < s.size; exact c; rw [if_neg c] at h1; cases h1
      have a2 : i < t.size := by by_cases c : i < t.size; exact c; rw [if_neg c] at h2; cases h2
      rw [if_pos a1] at h1
      rw [if_pos a2] at h2
      cases h1; cases h2
      have c1 := hs.2.2.2 i a1
      have c2 := ht.2.2.2 i a2
      have := ht.2.1
      unfold dgN
      rw [if_pos a1, if_pos a2]
      refine ⟨by omega, ?_⟩
      unfold chP at c1 c2
      unfold chN
      split <;> split <;> omega
  exact packK_lt hs ht i same less.2 8 less.1
end Go.Proofs.YtdiikofgilplkaaDoor
