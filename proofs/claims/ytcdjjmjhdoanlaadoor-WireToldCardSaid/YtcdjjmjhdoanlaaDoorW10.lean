/- Wire: bits, eight to a byte. -/
import Derived.Test.YtcdjjmjhdoanlaaDoorW9
import Derived.BigRegion
namespace Go.Proofs.YtcdjjmjhdoanlaaDoor
open Go.RowKit

def bt (l : List Bool) (i : Nat) : Nat := if l[i]? = some true then 1 else 0
def byt (l : List Bool) (j : Nat) : Nat := bt l (8 * j) * 128 + bt l (8 * j + 1) * 64 + bt l (8 * j + 2) * 32 + bt l (8 * j + 3) * 16 + bt l (8 * j + 4) * 8 + bt l (8 * j + 5) * 4 + bt l (8 * j + 6) * 2 + bt l (8 * j + 7)
def pk (l : List Bool) : List Nat := (List.range ((l.length + 7) / 8)).map (byt l)
theorem bt_le (l : List Bool) (i : Nat) : bt l i ≤ 1 := by unfold bt; split <;> omega
theorem byt_lt (l : List Bool) (j : Nat) : byt l j < 256 := by
  have := bt_le l (8 * j); have := bt_le l (8 * j + 1); have := bt_le l (8 * j + 2); have := bt_le l (8 * j + 3)
  have := bt_le l (8 * j + 4); have := bt_le l (8 * j + 5); have := bt_le l (8 * j + 6); have := bt_le l (8 * j + 7)
  unfold byt; omega
theorem pk_by (l : List Bool) : By (pk l) := fun x hx => by
  obtain ⟨j, _, rfl⟩ := List.mem_map.1 hx
  exact byt_lt l j
theorem pk_len (l : List Bool) : (pk l).length = (l.length + 7) / 8 := by simp [pk]
theorem bt_take (l : List Bool) (i m : Nat) (h : i ≤ m) : bt (l.take i) m = 0 := by
  unfold bt
  rw [List.getElem?_take, if_neg (Nat.not_lt.2 h)]; simp
theorem bt_lt (l : List Bool) (i m : Nat) (h : m < i) : bt (l.take i) m = bt l m := by
  unfold bt
  rw [List.getElem?_take, if_pos h]
theorem bt_step (l : List Bool) (i m : Nat) (h : m ≠ i) : bt (l.take (i + 1)) m = bt (l.take i) m := by
  by_cases hm : m < i
  · rw [bt_lt l _ m (by omega), bt_lt l _ m hm]
  · rw [bt_take l _ m (by omega), bt_take l _ m (by omega)]
theorem byt_other (l : List Bool) (i j : Nat) (h : j ≠ i / 8) : byt (l.take (i + 1)) j = byt (l.take i) j := by
  unfold byt
  rw [bt_step l i _ (by omega), bt_step l i _ (by omega), bt_step l i _ (by omega), bt_step l i _ (by omega), bt_step l i _ (by omega), bt_step l i _ (by omega), bt_step l i _ (by omega), bt_step l i _ (by omega)]
theorem bt_false (l : List Bool) (i : Nat) (h : l[i]? = some false) : bt (l.take (i + 1)) i = bt (l.take i) i := by
  rw [bt_lt l _ i (by omega), bt_take l i i (by omega)]
  unfold bt
  rw [h]; simp
theorem byt_false (l : List Bool) (i j : Nat) (h : l[i]? = some false) : byt (l.take (i + 1)) j = byt (l.take i) j := by
  have hb : ∀ m, bt (l.take (i + 1)) m = bt (l.take i) m := fun m => by
    by_cases e : m = i
    · subst e; exact bt_false l m h
    · exact bt_step l i m e
  unfold byt
  rw [hb, hb, hb, hb, hb, hb, hb, hb]
theorem byt_true (l : List Bool) (i : Nat) (h : l[i]? = some true) : byt (l.take (i + 1)) (i / 8) = byt (l.take i) (i / 8) + 2 ^ (7 - i % 8) ∧ byt (l.take i) (i / 8) % 2 ^ (8 - i % 8) = 0 := by
  have h1 : bt (l.take (i + 1)) i = 1 := by
    rw [bt_lt l _ i (by omega)]; unfold bt; rw [h]; simp
  have h0 : ∀ m, i ≤ m → bt (l.take i) m = 0 := fun m hm => bt_take l i m hm
  have hs : ∀ m, m ≠ i → bt (l.take (i + 1)) m = bt (l.take i) m := fun m hm => bt_step l i m hm
  obtain ⟨j, k, hk, hi⟩ : ∃ j k, k < 8 ∧ i = 8 * j + k := ⟨i / 8, i % 8, by omega, by omega⟩
  have ej : i / 8 = j := by omega
  have ek : i % 8 = k := by omega
  rw [ej, ek]
  unfold byt
  rcases (by omega : k = 0 ∨ k = 1 ∨ k = 2 ∨ k = 3 ∨ k = 4 ∨ k = 5 ∨ k = 6 ∨ k = 7) with rfl | rfl | rfl | rfl | rfl | rfl | rfl | rfl
  · skip
    have a0 : bt (l.take (i + 1)) (8 * j) = 1 := (congrArg _ (by omega : 8 * j = i)).trans h1
    have a1 : bt (l.take (i + 1)) (8 * j + 1) = bt (l.take i) (8 * j + 1) := hs _ (by omega)
    have a2 : bt (l.take (i + 1)) (8 * j + 2) = bt (l.take i) (8 * j + 2) := hs _ (by omega)
    have a3 : bt (l.take (i + 1)) (8 * j + 3) = bt (l.take i) (8 * j + 3) := hs _ (by omega)
    have a4 : bt (l.take (i + 1)) (8 * j + 4) = bt (l.take i) (8 * j + 4) := hs _ (by omega)
    have a5 : bt (l.take (i + 1)) (8 * j + 5) = bt (l.take i) (8 * j + 5) := hs _ (by omega)
    have a6 : bt (l.take (i + 1)) (8 * j + 6) = bt (l.take i) (8 * j + 6) := hs _ (by omega)
    have a7 : bt (l.take (i + 1)) (8 * j + 7) = bt (l.take i) (8 * j + 7) := hs _ (by omega)
    have z0 : bt (l.take i) (8 * j) = 0 := h0 _ (by omega)
    have z1 : bt (l.take i) (8 * j + 1) = 0 := h0 _ (by omega)
    have z2 : bt (l.take i) (8 * j + 2) = 0 := h0 _ (by omega)
    have z3 : bt (l.take i) (8 * j + 3) = 0 := h0 _ (by omega)
    have z4 : bt (l.take i) (8 * j + 4) = 0 := h0 _ (by omega)
    have z5 : bt (l.take i) (8 * j + 5) = 0 := h0 _ (by omega)
    have z6 : bt (l.take i) (8 * j + 6) = 0 := h0 _ (by omega)
    have z7 : bt (l.take i) (8 * j + 7) = 0 := h0 _ (by omega)
    rw [a0, a1, a2, a3, a4, a5, a6, a7]
    constructor
    · omega
    · omega
  · skip
    have a0 : bt (l.take (i + 1)) (8 * j) = bt (l.take i) (8 * j) := hs _ (by omega)
    have a1 : bt (l.take (i + 1)) (8 * j + 1) = 1 := (congrArg _ (by omega : 8 * j + 1 = i)).trans h1
    have a2 : bt (l.take (i + 1)) (8 * j + 2) = bt (l.take i) (8 * j + 2) := hs _ (by omega)
    have a3 : bt (l.take (i + 1)) (8 * j + 3) = bt (l.take i) (8 * j + 3) := hs _ (by omega)
    have a4 : bt (l.take (i + 1)) (8 * j + 4) = bt (l.take i) (8 * j + 4) := hs _ (by omega)
    have a5 : bt (l.take (i + 1)) (8 * j + 5) = bt (l.take i) (8 * j + 5) := hs _ (by omega)
    have a6 : bt (l.take (i + 1)) (8 * j + 6) = bt (l.take i) (8 * j + 6) := hs _ (by omega)
    have a7 : bt (l.take (i + 1)) (8 * j + 7) = bt (l.take i) (8 * j + 7) := hs _ (by omega)
    have z1 : bt (l.take i) (8 * j + 1) = 0 := h0 _ (by omega)
    have z2 : bt (l.take i) (8 * j + 2) = 0 := h0 _ (by omega)
    have z3 : bt (l.take i) (8 * j + 3) = 0 := h0 _ (by omega)
    have z4 : bt (l.take i) (8 * j + 4) = 0 := h0 _ (by omega)
    have z5 : bt (l.take i) (8 * j + 5) = 0 := h0 _ (by omega)
    have z6 : bt (l.take i) (8 * j + 6) = 0 := h0 _ (by omega)
    have z7 : bt (l.take i) (8 * j + 7) = 0 := h0 _ (by omega)
    rw [a0, a1, a2, a3, a4, a5, a6, a7]
    constructor
    · omega
    · omega
  · skip
    have a0 : bt (l.take (i + 1)) (8 * j) = bt (l.take i) (8 * j) := hs _ (by omega)
    have a1 : bt (l.take (i + 1)) (8 * j + 1) = bt (l.take i) (8 * j + 1) := hs _ (by omega)
    have a2 : bt (l.take (i + 1)) (8 * j + 2) = 1 := (congrArg _ (by omega : 8 * j + 2 = i)).trans h1
    have a3 : bt (l.take (i + 1)) (8 * j + 3) = bt (l.take i) (8 * j + 3) := hs _ (by omega)
    have a4 : bt (l.take (i + 1)) (8 * j + 4) = bt (l.take i) (8 * j + 4) := hs _ (by omega)
    have a5 : bt (l.take (i + 1)) (8 * j + 5) = bt (l.take i) (8 * j + 5) := hs _ (by omega)
    have a6 : bt (l.take (i + 1)) (8 * j + 6) = bt (l.take i) (8 * j + 6) := hs _ (by omega)
    have a7 : bt (l.take (i + 1)) (8 * j + 7) = bt (l.take i) (8 * j + 7) := hs _ (by omega)
    have z2 : bt (l.take i) (8 * j + 2) = 0 := h0 _ (by omega)
    have z3 : bt (l.take i) (8 * j + 3) = 0 := h0 _ (by omega)
    have z4 : bt (l.take i) (8 * j + 4) = 0 := h0 _ (by omega)
    have z5 : bt (l.take i) (8 * j + 5) = 0 := h0 _ (by omega)
    have z6 : bt (l.take i) (8 * j + 6) = 0 := h0 _ (by omega)
    have z7 : bt (l.take i) (8 * j + 7) = 0 := h0 _ (by omega)
    rw [a0, a1, a2, a3, a4, a5, a6, a7]
    constructor
    · omega
    · omega
  · skip
    have a0 : bt (l.take (i + 1)) (8 * j) = bt (l.take i) (8 * j) := hs _ (by omega)
    have a1 : bt (l.take (i + 1)) (8 * j + 1) = bt (l.take i) (8 * j + 1) := hs _ (by omega)
    have a2 : bt (l.take (i + 1)) (8 * j + 2) = bt (l.take i) (8 * j + 2) := hs _ (by omega)
    have a3 : bt (l.take (i + 1)) (8 * j + 3) = 1 := (congrArg _ (by omega : 8 * j + 3 = i)).trans h1
    have a4 : bt (l.take (i + 1)) (8 * j + 4) = bt (l.take i) (8 * j + 4) := hs _ (by omega)
    have a5 : bt (l.take (i + 1)) (8 * j + 5) = bt (l.take i) (8 * j + 5) := hs _ (by omega)
    have a6 : bt (l.take (i + 1)) (8 * j + 6) = bt (l.take i) (8 * j + 6) := hs _ (by omega)
    have a7 : bt (l.take (i + 1)) (8 * j + 7) = bt (l.take i) (8 * j + 7) := hs _ (by omega)
    have z3 : bt (l.take i) (8 * j + 3) = 0 := h0 _ (by omega)
    have z4 : bt (l.take i) (8 * j + 4) = 0 := h0 _ (by omega)
    have z5 : bt (l.take i) (8 * j + 5) = 0 := h0 _ (by omega)
    have z6 : bt (l.take i) (8 * j + 6) = 0 := h0 _ (by omega)
    have z7 : bt (l.take i) (8 * j + 7) = 0 := h0 _ (by omega)
    rw [a0, a1, a2, a3, a4, a5, a6, a7]
    constructor
    · omega
    · omega
  · skip
    have a0 : bt (l.take (i + 1)) (8 * j) = bt (l.take i) (8 * j) := hs _ (by omega)
    have a1 : bt (l.take (i + 1)) (8 * j + 1) = bt (l.take i) (8 * j + 1) := hs _ (by omega)
    have a2 : bt (l.take (i + 1)) (8 * j + 2) = bt (l.take i) (8 * j + 2) := hs _ (by omega)
    have a3 : bt (l.take (i + 1)) (8 * j + 3) = bt (l.take i) (8 * j + 3) := hs _ (by omega)
    have a4 : bt (l.take (i + 1)) (8 * j + 4) = 1 := (congrArg _ (by omega : 8 * j + 4 = i)).trans h1
    have a5 : bt (l.take (i + 1)) (8 * j + 5) = bt (l.take i) (8 * j + 5) := hs _ (by omega)
    have a6 : bt (l.take (i + 1)) (8 * j + 6) = bt (l.take i) (8 * j + 6) := hs _ (by omega)
    have a7 : bt (l.take (i + 1)) (8 * j + 7) = bt (l.take i) (8 * j + 7) := hs _ (by omega)
    have z4 : bt (l.take i) (8 * j + 4) = 0 := h0 _ (by omega)
    have z5 : bt (l.take i) (8 * j + 5) = 0 := h0 _ (by omega)
    have z6 : bt (l.take i) (8 * j + 6) = 0 := h0 _ (by omega)
    have z7 : bt (l.take i) (8 * j + 7) = 0 := h0 _ (by omega)
    rw [a0, a1, a2, a3, a4, a5, a6, a7]
    constructor
    · omega
    · omega
  · skip
    have a0 : bt (l.take (i + 1)) (8 * j) = bt (l.take i) (8 * j) := hs _ (by omega)
    have a1 : bt (l.take (i + 1)) (8 * j + 1) = bt (l.take i) (8 * j + 1) := hs _ (by omega)
    have a2 : bt (l.take (i + 1)) (8 * j + 2) = bt (l.take i) (8 * j + 2) := hs _ (by omega)
    have a3 : bt (l.take (i + 1)) (8 * j + 3) = bt (l.take i) (8 * j + 3) := hs _ (by omega)
    have a4 : bt (l.take (i + 1)) (8 * j + 4) = bt (l.take i) (8 * j + 4) := hs _ (by omega)
    have a5 : bt (l.take (i + 1)) (8 * j + 5) = 1 := (congrArg _ (by omega : 8 * j + 5 = i)).trans h1
    have a6 : bt (l.take (i + 1)) (8 * j + 6) = bt (l.take i) (8 * j + 6) := hs _ (by omega)
    have a7 : bt (l.take (i + 1)) (8 * j + 7) = bt (l.take i) (8 * j + 7) := hs _ (by omega)
    have z5 : bt (l.take i) (8 * j + 5) = 0 := h0 _ (by omega)
    have z6 : bt (l.take i) (8 * j + 6) = 0 := h0 _ (by omega)
    have z7 : bt (l.take i) (8 * j + 7) = 0 := h0 _ (by omega)
    rw [a0, a1, a2, a3, a4, a5, a6, a7]
    constructor
    · omega
    · omega
  · skip
    have a0 : bt (l.take (i + 1)) (8 * j) = bt (l.take i) (8 * j) := hs _ (by omega)
    have a1 : bt (l.take (i + 1)) (8 * j + 1) = bt (l.take i) (8 * j + 1) := hs _ (by omega)
    have a2 : bt (l.take (i + 1)) (8 * j + 2) = bt (l.take i) (8 * j + 2) := hs _ (by omega)
    have a3 : bt (l.take (i + 1)) (8 * j + 3) = bt (l.take i) (8 * j + 3) := hs _ (by omega)
    have a4 : bt (l.take (i + 1)) (8 * j + 4) = bt (l.take i) (8 * j + 4) := hs _ (by omega)
    have a5 : bt (l.take (i + 1)) (8 * j + 5) = bt (l.take i) (8 * j + 5) := hs _ (by omega)
    have a6 : bt (l.take (i + 1)) (8 * j + 6) = 1 := (congrArg _ (by omega : 8 * j + 6 = i)).trans h1
    have a7 : bt (l.take (i + 1)) (8 * j + 7) = bt (l.take i) (8 * j + 7) := hs _ (by omega)
    have z6 : bt (l.take i) (8 * j + 6) = 0 := h0 _ (by omega)
    have z7 : bt (l.take i) (8 * j + 7) = 0 := h0 _ (by omega)
    rw [a0, a1, a2, a3, a4, a5, a6, a7]
    constructor
    · omega
    · omega
  · skip
    have a0 : bt (l.take (i + 1)) (8 * j) = bt (l.take i) (8 * j) := hs _ (by omega)
    have a1 : bt (l.take (i + 1)) (8 * j + 1) = bt (l.take i) (8 * j + 1) := hs _ (by omega)
    have a2 : bt (l.take (i + 1)) (8 * j + 2) = bt (l.take i) (8 * j + 2) := hs _ (by omega)
    have a3 : bt (l.take (i + 1)) (8 * j + 3) = bt (l.take i) (8 * j + 3) := hs _ (by omega)
    have a4 : bt (l.take (i + 1)) (8 * j + 4) = bt (l.take i) (8 * j + 4) := hs _ (by omega)
    have a5 : bt (l.take (i + 1)) (8 * j + 5) = bt (l.take i) (8 * j + 5) := hs _ (by omega)
    have a6 : bt (l.take (i + 1)) (8 * j + 6) = bt (l.take i) (8 * j + 6) := hs _ (by omega)
    have a7 : bt (l.take (i + 1)) (8 * j + 7) = 1 := (congrArg _ (by omega : 8 * j + 7 = i)).trans h1
    have z7 : bt (l.take i) (8 * j + 7) = 0 := h0 _ (by omega)
    rw [a0, a1, a2, a3, a4, a5, a6, a7]
    constructor
    · omega
    · omega
theorem or_bit (v k : Nat) (hv : v < 256) (hk : k < 8) (h : v % 2 ^ (8 - k) = 0) : bits .or .u8 (v : Int) (128 / 2 ^ k) = ((v + 2 ^ (7 - k) : Nat) : Int) :=
  (by decide +kernel : ∀ v : Fin 256, ∀ k : Fin 8, v.val % 2 ^ (8 - k.val) = 0 → bits .or .u8 (v.val : Int) (128 / 2 ^ k.val) = ((v.val + 2 ^ (7 - k.val) : Nat) : Int)) ⟨v, hv⟩ ⟨k, hk⟩ h
/-- Bools in a row. -/
abbrev eZ : Enc Bool := ⟨fun x => [.bool x], 1, fun _ => rfl, fun _ u hu => by simp at hu; subst hu; rfl⟩
theorem RZ.at {W : World} {g o n cap : Nat} {l : List Bool} (h : Row eZ.rel W (.slice (some ⟨g, o, none⟩) n cap) l) {i : Nat} {x : Bool} (hx : l[i]? = some x) : W.cell? ⟨g, o + i, none⟩ = some (.bool x) := by
  have := h.one hx 0 rfl
  simpa using this
/-- The bytes so far. -/
def pkC (l : List Bool) (n : Nat) : List Value := (List.range n).map fun j => bv (byt l j)
theorem pkC_len (l : List Bool) (n : Nat) : (pkC l n).length = n := by simp [pkC]
theorem pkC_at (l : List Bool) (n j : Nat) (h : j < n) : (pkC l n)[j]? = some (bv (byt l j)) := by
  rw [pkC, List.getElem?_map, List.getElem?_range h]; rfl
theorem pkC_nil (n : Nat) : pkC [] n = List.replicate n (bv 0) := by
  apply List.ext_getElem?
  intro j
  by_cases h : j < n
  · rw [pkC_at _ _ _ h, List.getElem?_replicate, if_pos h]; rfl
  · rw [List.getElem?_eq_none (by rw [pkC_len]; omega), List.getElem?_eq_none (by simp; omega)]
theorem pkC_false (l : List Bool) (i n : Nat) (h : l[i]? = some false) : pkC (l.take (i + 1)) n = pkC (l.take i) n := by
  unfold pkC
  refine List.map_congr_left fun j _ => ?_
  rw [byt_false l i j h]
theorem pkC_true (l : List Bool) (i n : Nat) : pkC (l.take (i + 1)) n = (pkC (l.take i) n).set (i / 8) (bv (byt (l.take (i + 1)) (i / 8))) := by
  apply List.ext_getElem?
  intro j
  by_cases hj : j < n
  · rw [pkC_at _ _ _ hj]
    by_cases e : j = i / 8
    · subst e; rw [List.getElem?_set_self (by rw [pkC_len]; exact hj)]
    · rw [List.getElem?_set_ne (fun q => e q.symm), pkC_at _ _ _ hj, byt_other l i j e]
  · rw [List.getElem?_eq_none (by rw [pkC_len]; omega), List.getElem?_eq_none (by rw [List.length_set, pkC_len]; omega)]
theorem made_bv (n : Nat) : madeCells (bv 0).cells n = (List.replicate n (bv 0)).toArray := by
  unfold madeCells
  apply Array.ext
  · simp
  · intro i h1 h2
    simp only [Array.getElem_map, Array.getElem_range, List.getElem_toArray, List.getElem_replicate]
    have : i % (bv 0).cells.size = 0 := Nat.mod_one _
    rw [this]
    rfl
end Go.Proofs.YtcdjjmjhdoanlaaDoor
