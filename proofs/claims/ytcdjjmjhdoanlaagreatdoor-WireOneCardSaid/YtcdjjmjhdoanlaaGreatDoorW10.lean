/- Wire: bits, eight to a byte. -/
import Derived.Test.YtcdjjmjhdoanlaaGreatDoorW9
import Derived.BigRegion
namespace Go.Proofs.YtcdjjmjhdoanlaaGreatDoor
open Go.RowKit

def bt (l : List Bool) (i : Nat) : Nat := if l[i]? = some true then 1 else 0
def byt (l : List Bool) (j : Nat) : Nat := bt l (8 * j) * 128 + bt l (8 * j + 1) * 64 + bt l (8 * j + 2) * 32 + bt l (8 * j + 3) * 16 + bt l (8 * j + 4) * 8 + bt l (8 * j + 5) * 4 + bt l (8 * j + 6) * 2 + bt l (8 * j + 7)
def pk (l : List Bool) : List Nat := (List.range ((l.length + 7) / 8)).map (byt l)
theorem bt_le (l : List Bool) (i : Nat) : bt l i ≤ 1 := by unfold bt; split <;> omega
theorem byt_lt (l : List Bool) (j : Nat) : byt l j < 256 := by
  have := bt_le l (8 * j); have := bt_le l (8 * j + 1); have := bt_le l (8 * j + 2); have := bt_le l (8 * j + 3)
  have := bt_le l (8 * j + 4); have := bt_le l (8 * j + 5); have := bt_le l (8 * j + 6); have := bt_le l (8 * j + 7)
  unfold byt; omega
theorem pk_by (l : List Bool) : By (pk l) := fun x hx => by
  obtain ⟨j, _, rfl⟩ := List.mem_map.1 hx
  exact byt_lt l j
theorem pk_len (l : List Bool) : (pk l).length = (l.length + 7) / 8 := by simp [pk]
theorem bt_take (l : List Bool) (i m : Nat) (h : i ≤ m) : bt (l.take i) m = 0 := by
  unfold bt
  rw [List.getElem?_take, if_neg (Nat.not_lt.2 h)]; simp
theorem bt_lt (l : List Bool) (i m : Nat) (h : m < i) : bt (l.take i) m = bt l m := by
  unfold bt
  rw [List.getElem?_take, if_pos h]
theorem bt_step (l : List Bool) (i m : Nat) (h : m ≠ i) : bt (l.take (i + 1)) m = bt (l.take i) m := by
  by_cases hm : m < i
  · rw [bt_lt l _ m (by omega), bt_lt l _ m hm]
  · rw [bt_take l _ m (by omega), bt_take l _ m (by omega)]
theorem byt_other (l : List Bool) (i j : Nat) (h : j ≠ i / 8) : byt (l.take (i + 1)) j = byt (l.take i) j := by
  unfold byt
  rw [bt_step l i _ (by omega), bt_step l i _ (by omega), bt_step l i _ (by omega), bt_step l i _ (by omega), bt_step l i _ (by omega), bt_step l i _ (by omega), bt_step l i _ (by omega), bt_step l i _ (by omega)]
theorem bt_false (l : List Bool) (i : Nat) (h : l[i]? = some false) : bt (l.take (i + 1)) i = bt (l.take i) i := by
  rw [bt_lt l _ i (by omega), bt_take l i i (by omega)]
  unfold bt
  rw [h]; simp
theorem byt_false (l : List Bool) (i j : Nat) (h : l[i]? = some false) : byt (l.take (i + 1)) j = byt (l.take i) j := by
  have hb : ∀ m, bt (l.take (i + 1)) m = bt (l.take i) m := fun m => by
    by_cases e : m = i
    · subst e; exact bt_false l m h
    · exact bt_step l i m e
  unfold byt
  rw [hb, hb, hb, hb, hb, hb, hb, hb]
theorem byt_true (l : List Bool) (i : Nat) (h : l[i]? = some true) : byt (l.take (i + 1)) (i / 8) = byt (l.take i) (i / 8) + 2 ^ (7 - i % 8) ∧ byt (l.take i) (i / 8) % 2 ^ (8 - i % 8) = 0 := by
  have h1 : bt (l.take (i + 1)) i = 1 := by
    rw [bt_lt l _ i (by omega)]; unfold bt; rw [h]; simp
  have h0 : ∀ m, i ≤ m → bt (l.take i) m = 0 := fun m hm => bt_take l i m hm
  have hs : ∀ m, m ≠ i → bt (l.take (i + 1)) m = bt (l.take i) m := fun m hm => bt_step l i m hm
  obtain ⟨j, k, hk, hi⟩ : ∃ j k, k < 8 ∧ i = 8 * j + k := ⟨i / 8, i % 8, by omega, by omega⟩
  have ej : i / 8 = j := by omega
  have ek : i % 8 = k := by omega
  rw [ej, ek]
  unfold byt
  rcases (by omega : k = 0 ∨ k = 1 ∨ k = 2 ∨ k = 3 ∨ k = 4 ∨ k = 5 ∨ k = 6 ∨ k = 7) with rfl | rfl | rfl | rfl | rfl | rfl | rfl | rfl
  · skip
    have a0 : bt (l.take (i + 1)) (8 * j) = 1 := (congrArg _ (by omega : 8 * j = i)).trans h1
    have a1 : bt (l.take (i + 1)) (8 * j + 1) = bt (l.take i) (8 * j + 1) := hs _ (by omega)
    have a2 : bt (l.take (i + 1)) (8 * j + 2) = bt (l.take i) (8 * j + 2) := hs _ (by omega)
    have a3 : bt (l.take (i + 1)) (8 * j + 3) = bt (l.take i) (8 * j + 3) := hs _ (by omega)
    have a4 : bt (l.take (i + 1)) (8 * j + 4) = bt (l.take i) (8 * j + 4) := hs _ (by omega)
    have a5 : bt (l.take (i + 1)) (8 * j + 5) = bt (l.take i) (8 * j + 5) := hs _ (by omega)
    have a6 : bt (l.take (i + 1)) (8 * j + 6) = bt (l.take i) (8 * j + 6) := hs _ (by omega)
    have a7 : bt (l.take (i + 1)) (8 * j + 7) = bt (l.take i) (8 * j + 7) := hs _ (by omega)
    have z0 : bt (l.take i) (8 * j) = 0 := h0 _ (by omega)
    have z1 : bt (l.take i) (8 * j + 1) = 0 := h0 _ (by omega)
    have z2 : bt (l.take i) (8 * j + 2) = 0 := h0 _ (by omega)
    have z3 : bt (l.take i) (8 * j + 3) = 0 := h0 _ (by omega)
    have z4 : bt (l.take i) (8 * j + 4) = 0 := h0 _ (by omega)
    have z5 : bt (l.take i) (8 * j + 5) = 0 := h0 _ (by omega)
    have z6 : bt (l.take i) (8 * j + 6) = 0 := h0 _ (by omega)
    have z7 : bt (l.take i) (8 * j + 7) = 0 := h0 _ (by omega)
    rw [a0, a1, a2, a3, a4, a5, a6, a7]
    constructor
    · omega
    · omega
  · skip
    have a0 : bt (l.take (i + 1)) (8 * j) = bt (l.take i) (8 * j) := hs _ (by omega)
    have a1 : bt (l.take (i + 1)) (8 * j + 1) = 1 := (congrArg _ (by omega : 8 * j + 1 = i)).trans h1
    have a2 : bt (l.take (i + 1)) (8 * j + 2) = bt (l.take i) (8 * j + 2) := hs _ (by omega)
    have a3 : bt (l.take (i + 1)) (8 * j + 3) = bt (l.take i) (8 * j + 3) := hs _ (by omega)
    have a4 : bt (l.take (i + 1)) (8 * j + 4) = bt (l.take i) (8 * j + 4) := hs _ (by omega)
    have a5 : bt (l.take (i + 1)) (8 * j + 5) = bt (l.take i) (8 * j + 5) := hs _ (by omega)
    have a6 : bt (l.take (i + 1)) (8 * j + 6) = bt (l.take i) (8 * j + 6) := hs _ (by omega)
    have a7 : bt (l.take (i + 1)) (8 * j + 7) = bt (l.take i) (8 * j + 7) := hs _ (by omega)
    have z1 : bt (l.take i) (8 * j + 1) = 0 := h0 _ (by omega)
    have z2 : bt (l.take i) (8 * j + 2) = 0 := h0 _ (by omega)
    have z3 : bt (l.take i) (8 * j + 3) = 0 := h0 _ (by omega)
    have z4 : bt (l.take i) (8 * j + 4) = 0 := h0 _ (by omega)
    have z5 : bt (l.take i) (8 * j + 5) = 0 := h0 _ (by omega)
    have z6 : bt (l.take i) (8 * j + 6) = 0 := h0 _ (by omega)
    have z7 : bt (l.take i) (8 * j + 7) = 0 := h0 _ (by omega)
    rw [a0, a1, a2, a3, a4, a5, a6, a7]
    constructor
    · omega
    · omega
  · skip
    have a0 : bt (l.take (i + 1)) (8 * j) = bt (l.take i) (8 * j) := hs _ (by omega)
    have a1 : bt (l.take (i + 1)) (8 * j + 1) = bt (l.take i) (8 * j + 1) := hs _ (by omega)
    have a2 : bt (l.take (i + 1)) (8 * j + 2) = 1 := (congrArg _ (by omega : 8 * j + 2 = i)).trans h1
    have a3 : bt (l.take (i + 1)) (8 * j + 3) = bt (l.take i) (8 * j + 3) := hs _ (by omega)
    have a4 : bt (l.take (i + 1)) (8 * j + 4) = bt (l.take i) (8 * j + 4) := hs _ (by omega)
    have a5 : bt (l.take (i + 1)) (8 * j + 5) = bt (l.take i) (8 * j + 5) := hs _ (by omega)
    have a6 : bt (l.take (i + 1)) (8 * j + 6) = bt (l.take i) (8 * j + 6) := hs _ (by omega)
    have a7 : bt (l.take (i + 1)) (8 * j + 7) = bt (l.take i) (8 * j + 7) := hs _ (by omega)
    have z2 : bt (l.take i) (8 * j + 2) = 0 := h0 _ (by omega)
    have z3 : bt (l.take i) (8 * j + 3) = 0 := h0 _ (by omega)
    have z4 : bt (l.take i) (8 * j + 4) = 0 := h0 _ (by omega)
    have z5 : bt (l.take i) (8 * j + 5) = 0 := h0 _ (by omega)
    have z6 : bt (l.take i) (8 * j + 6) = 0 := h0 _ (by omega)
    have z7 : bt (l.take i) (8 * j + 7) = 0 := h0 _ (by omega)
    rw [a0, a1, a2, a3, a4, a5, a6, a7]
    constructor
    · omega
    · omega
  · skip
    have a0 : bt (l.take (i + 1)) (8 * j) = bt (l.take i) (8 * j) := hs _ (by omega)
    have a1 : bt (l.take (i + 1)) (8 * j + 1) = bt (l.take i) (8 * j + 1) := hs _ (by omega)
    have a2 : bt (l.take (i + 1)) (8 * j + 2) = bt (l.take i) (8 * j + 2) := hs _ (by omega)
    have a3 : bt (l.take (i + 1)) (8 * j + 3) = 1 := (congrArg _ (by omega : 8 * j + 3 = i)).trans h1
    have a4 : bt (l.take (i + 1)) (8 * j + 4) = bt (l.take i) (8 * j + 4) := hs _ (by omega)
    have a5 : bt (l.take (i + 1)) (8 * j + 5) = bt (l.take i) (8 * j + 5) := hs _ (by omega)
    have a6 : bt (l.take (i + 1)) (8 * j + 6) = bt (l.take i) (8 * j + 6) := hs _ (by omega)
    have a7 : bt (l.take (i + 1)) (8 * j + 7) = bt (l.take i) (8 * j + 7) := hs _ (by omega)
    have z3 : bt (l.take i) (8 * j + 3) = 0 := h0 _ (by omega)
    have z4 : bt (l.take i) (8 * j + 4) = 0 := h0 _ (by omega)
    have z5 : bt (l.take i) (8 * j + 5) = 0 := h0 _ (by omega)
    have z6 : bt (l.take i) (8 * j + 6) = 0 := h0 _ (by omega)
    have z7 : bt (l.take i) (8 * j + 7) = 0 := h0 _ (by omega)
    rw [a0, a1, a2, a3, a4, a5, a6, a7]
    constructor
    · omega
    · omega
  · skip
    have a0 : bt (l.take (i + 1)) (8 * j) = bt (l.take i) (8 * j) := hs _ (by omega)
    have a1 : bt (l.take (i + 1)) (8 * j + 1) = bt (l.take i) (8 * j + 1) := hs _ (by omega)
    have a2 : bt (l.take (i + 1)) (8 * j + 2) = bt (l.take i) (8 * j + 2) := hs _ (by omega)
    have a3 : bt (l.take (i + 1)) (8 * j + 3) = bt (l.take i) (8 * j + 3) := hs _ (by omega)
    have a4 : bt (l.take (i + 1)) (8 * j + 4) = 1 := (congrArg _ (by omega : 8 * j + 4 = i)).trans h1
    have a5 : bt (l.take (i + 1)) (8 * j + 5) = bt (l.take i) (8 * j + 5) := hs _ (by omega)
    have a6 : bt (l.take (i + 1)) (8 * j + 6) = bt (l.take i) (8 * j + 6) := hs _ (by omega)
    have a7 : bt (l.take (i + 1)) (8 * j + 7) = bt (l.take i) (8 * j + 7) := hs _ (by omega)
    have z4 : bt (l.take i) (8 * j + 4) = 0 := h0 _ (by omega)
    have z5 : bt (l.take i) (8 * j + 5) = 0 := h0 _ (by omega)
    have z6 : bt (l.take i) (8 * j + 6) = 0 := h0 _ (by omega)
    have z7 : bt (l.take i) (8 * j + 7) = 0 := h0 _ (by omega)
    rw [a0, a1, a2, a3, a4, a5, a6, a7]
    constructor
    · omega
    · omega
  · skip
    have a0 : bt (l.take (i + 1)) (8 * j) = bt (l.take i) (8 * j) := hs _ (by omega)
    have a1 : bt (l.take (i + 1)) (8 * j + 1) = bt (l.take i) (8 * j + 1) := hs _ (by omega)
    have a2 : bt (l.take (i + 1)) (8 * j + 2) = bt (l.take i) (8 * j + 2) := hs _ (by omega)
    have a3 : bt (l.take (i + 1)) (8 * j + 3) = bt (l.take i) (8 * j + 3) := hs _ (by omega)
    have a4 : bt (l.take (i + 1)) (8 * j + 4) = bt (l.take i) (8 * j + 4) := hs _ (by omega)
    have a5 : bt (l.take (i + 1)) (8 * j + 5) = 1 := (congrArg _ (by omega : 8 * j + 5 = i)).trans h1
    have a6 : bt (l.take (i + 1)) (8 * j + 6) = bt (l.take i) (8 * j + 6) := hs _ (by omega)
    have a7 : bt (l.take (i + 1)) (8 * j + 7) = bt (l.take i) (8 * j + 7) := hs _ (by omega)
    have z5 : bt (l.take i) (8 * j + 5) = 0 := h0 _ (by omega)
    have z6 : bt (l.take i) (8 * j + 6) = 0 := h0 _ (by omega)
    have z7 : bt (l.take i) (8 * j + 7) = 0 := h0 _ (by omega)
    rw [a0, a1, a2, a3, a4, a5, a6, a7]
    constructor
    · omega
    · omega
  · skip
    have a0 : bt (l.take (i + 1)) (8 * j) = bt (l.take i) (8 * j) := hs _ (by omega)
    have a1 : bt (l.take (i + 1)) (8 * j + 1) = bt (l.take i) (8 * j + 1) := hs _ (by omega)
    have a2 : bt (l.take (i + 1)) (8 * j + 2) = bt (l.take i) (8 * j + 2) := hs _ (by omega)
    have a3 : bt (l.take (i + 1)) (8 * j + 3) = bt (l.take i) (8 * j + 3) := hs _ (by omega)
    have a4 : bt (l.take (i + 1)) (8 * j + 4) = bt (l.take i) (8 * j + 4) := hs _ (by omega)
    have a5 : bt (l.take (i + 1)) (8 * j + 5) = bt (l.take i) (8 * j + 5) := hs _ (by omega)
    have a6 : bt (l.take (i + 1)) (8 * j + 6) = 1 := (congrArg _ (by omega : 8 * j + 6 = i)).trans h1
    have a7 : bt (l.take (i + 1)) (8 * j + 7) = bt (l.take i) (8 * j + 7) := hs _ (by omega)
    have z6 : bt (l.take i) (8 * j + 6) = 0 := h0 _ (by omega)
    have z7 : bt (l.take i) (8 * j + 7) = 0 := h0 _ (by omega)
    rw [a0, a1, a2, a3, a4, a5, a6, a7]
    constructor
    · omega
    · omega
  · skip
    have a0 : bt (l.take (i + 1)) (8 * j) = bt (l.take i) (8 * j) := hs _ (by omega)
    have a1 : bt (l.take (i + 1)) (8 * j + 1) = bt (l.take i) (8 * j + 1) := hs _ (by omega)
    have a2 : bt (l.take (i + 1)) (8 * j + 2) = bt (l.take i) (8 * j + 2) := hs _ (by omega)
    have a3 : bt (l.take (i + 1)) (8 * j + 3) = bt (l.take i) (8 * j + 3) := hs _ (by omega)
    have a4 : bt (l.take (i + 1)) (8 * j + 4) = bt (l.take i) (8 * j + 4) := hs _ (by omega)
    have a5 : bt (l.take (i + 1)) (8 * j + 5) = bt (l.take i) (8 * j + 5) := hs _ (by omega)
    have a6 : bt (l.take (i + 1)) (8 * j + 6) = bt (l.take i) (8 * j + 6) := hs _ (by omega)
    have a7 : bt (l.take (i + 1)) (8 * j + 7) = 1 := (congrArg _ (by omega : 8 * j + 7 = i)).trans h1
    have z7 : bt (l.take i) (8 * j + 7) = 0 := h0 _ (by omega)
    rw [a0, a1, a2, a3, a4, a5, a6, a7]
    constructor
    · omega
    · omega
theorem or_bit (v k : Nat) (hv : v < 256) (hk : k < 8) (h : v % 2 ^ (8 - k) = 0) : bits .or .u8 (v : Int) (128 / 2 ^ k) = ((v + 2 ^ (7 - k) : Nat) : Int) :=
  (by decide +kernel : ∀ v : Fin 256, ∀ k : Fin 8, v.val % 2 ^ (8 - k.val) = 0 → bits .or .u8 (v.val : Int) (128 / 2 ^ k.val) = ((v.val + 2 ^ (7 - k.val) : Nat) : Int)) ⟨v, hv⟩ ⟨k, hk⟩ h
/-- Bools in a row. -/
abbrev eZ : Enc Bool := ⟨fun x => [.bool x], 1, fun _ => rfl, fun _ u hu => by simp at hu; subst hu; rfl⟩
theorem RZ.at {W : World} {g o n cap : Nat} {l : List Bool} (h : Row eZ.rel W (.slice (some ⟨g, o, none⟩) n cap) l) {i : Nat} {x : Bool} (hx : l[i]? = some x) : W.cell? ⟨g, o + i, none⟩ = some (.bool x) := by
  have := h.one hx 0 rfl
  simpa using this
/-- The bytes so far. -/
def pkC (l : List Bool) (n : Nat) : List Value := (List.range n).map fun j => bv (byt l j)
theorem pkC_len (l : List Bool) (n : Nat) : (pkC l n).length = n := by simp [pkC]
theorem pkC_at (l : List Bool) (n j : Nat) (h : j < n) : (pkC l n)[j]? = some (bv (byt l j)) := by
  rw [pkC, List.getElem?_map, List.getElem?_range h]; rfl
theorem pkC_nil (n : Nat) : pkC [] n = List.replicate n (bv 0) := by
  apply List.ext_getElem?
  intro j
  by_cases h : j < n
  · rw [pkC_at _ _ _ h, List.getElem?_replicate, if_pos h]; rfl
  · rw [List.getElem?_eq_none (by rw [pkC_len]; omega), List.getElem?_eq_none (by simp; omega)]
theorem pkC_false (l : List Bool) (i n : Nat) (h : l[i]? = some false) : pkC (l.take (i + 1)) n = pkC (l.take i) n := by
  unfold pkC
  refine List.map_congr_left fun j _ => ?_
  rw [byt_false l i j h]
theorem pkC_true (l : List Bool) (i n : Nat) : pkC (l.take (i + 1)) n = (pkC (l.take i) n).set (i / 8) (bv (byt (l.take (i + 1)) (i / 8))) := by
  apply List.ext_getElem?
  intro j
  by_cases hj : j < n
  · rw [pkC_at _ _ _ hj]
    by_cases e : j = i / 8
    · subst e; rw [List.getElem?_set_self (by rw [pkC_len]; exact hj)]
    · rw [List.getElem?_set_ne (fun q => e q.symm), pkC_at _ _ _ hj, byt_other l i j e]
  · rw [List.getElem?_eq_none (by rw [pkC_len]; omega), List.getElem?_eq_none (by rw [List.length_set, pkC_len]; omega)]
theorem made_bv (n : Nat) : madeCells (bv 0).cells n = (List.replicate n (bv 0)).toArray := by
  unfold madeCells
  apply Array.ext
  · simp
  · intro i h1 h2
    simp only [Array.getElem_map, Array.getElem_range, List.getElem_toArray, List.getElem_replicate]
    have : i % (bv 0).cells.size = 0 := Nat.mod_one _
    rw [this]
    rfl
set_option maxRecDepth 100000 in
set_option maxHeartbeats 1000000 in
theorem bits_any (W0 B w : World) (b : Nat) (s : Option (List Nat)) (v : Value) (l : List Bool) (h : Wst W0 B w b s) (hv : Row eZ.rel W0 v l) (hn : l.length ≤ 140737488351232) :
    Calls Tryz.prog 51 #[ptr b, v] w fun e w' => e = .returned (.tuple #[]) ∧ Wst W0 B w' b (wap s (some (cnt l.length ++ pk l))) := by
  obtain ⟨p, cap, rfl⟩ := hv.form
  have KC := hide (count_any W0 B w b s l.length h (by omega))
  have HS := hide hv
  have HN := hide hn
  clear h hv
  go_enter Tryz.func51, Tryz.ntmps51
  go_wp2_with fail
  refine KC.out.mono ?_
  rintro e w1 ⟨rfl, h1⟩
  have H1 := hide h1
  obtain ⟨m, hm⟩ : ∃ m, m = (l.length + 7) / 8 := ⟨_, rfl⟩
  obtain ⟨i0, hi, hz0, hz1, hz2⟩ := info_B
  have hmk := run_make (P := Tryz.prog) w1 23 5 i0 (bv 0) Tryz.underlying23 hi hz0 .i64 .i64 (m : Int) (m : Int) (by omega) (by omega) (by rw [hz2]; omega) (by omega)
  have e1 : wrap64 ((l.length : Int) + 7) = (l.length : Int) + 7 := by unfold wrap64; omega
  have e2 : ((l.length : Int) + 7).tdiv 8 = (m : Int) := by rw [Int.tdiv_eq_ediv_of_nonneg (by omega)]; omega
  have e3 : ((l.length : Int) + 7) / 8 = (m : Int) := by omega
  have e4 : wrap64 (m : Int) = (m : Int) := by unfold wrap64; omega
  rw [hz1, Nat.mul_one, Int.toNat_natCast] at hmk
  have HMK := hide hmk
  have HM := hide hm
  clear h1 KC hi hz0 hz1 hz2 hmk hm hn
  go_wp2_with fail
  rw [HMK.out]
  have emc : madeCells (bv 0).cells m = (pkC (l.take 0) m).toArray := by
    rw [List.take_zero, pkC_nil]
    exact made_bv m
  rw [emc]
  have hB := Blk.new w1 (pkC (l.take 0) m) 5
  have HB := hide hB
  have HG := hide ((G.refl w1).alloc (.cells (pkC (l.take 0) m).toArray 5))
  clear hB emc HMK
  generalize w1.alloc (.cells (pkC (l.take 0) m).toArray 5) = w2 at HB HG ⊢
  go_wp2_with fail
  go_loopw [19] (fun iv wr => ∃ i : Nat, iv = I i ∧ i ≤ l.length ∧ Blk wr w1.heap.size 5 (pkC (l.take i) m) ∧ G w1 wr) (fun iv _ => l.length - (RowKit.intOf iv).toNat)
  case atStart => exact ⟨0, rfl, Nat.zero_le _, HB.out, HG.out⟩
  case round =>
    obtain ⟨i, rfl, hik, hB, hg⟩ := hrel
    clear HB HG
    by_cases hil : i < l.length
    · obtain ⟨x, hx⟩ : ∃ x, l[i]? = some x := ⟨_, List.getElem?_eq_getElem hil⟩
      obtain ⟨g, o, cap', q⟩ := HS.out.addr (by omega)
      injection q with q1 q2 q3
      subst q1 q3
      have x1 := RZ.at (HS.out.G (H1.out.g.trans hg)) hx
      have i1 : (i : Int) < l.length := Int.ofNat_lt.2 hil
      have HW : Hid (wrap64 ((i : Int) + 1) = (i : Int) + 1) := by show _ = _; have := HN.out; unfold wrap64; omega
      have HIL := hide hil
      cases x with
      | false =>
        have HR : Hid (Blk wr w1.heap.size 5 (pkC (l.take (i + 1)) m) ∧ G w1 wr) := ⟨by rw [pkC_false l i m hx]; exact hB, hg⟩
        clear hik hil hx q2 hB hg e1 e2 e3 e4
        go_wp2_with fail
        try rw [HW.out]
        refine ⟨⟨i + 1, rfl, HIL.out, HR.out⟩, ?_⟩
        simp only [RowKit.intOf]; have := HIL.out; omega
      | true =>
        have hj : i / 8 < m := by have := HM.out; omega
        have hc := (hB.cell (i / 8)).trans (pkC_at _ _ _ hj)
        have hf := hB.frozen (i / 8)
        obtain ⟨t1, t2⟩ := byt_true l i hx
        have f1 : (i : Int).tdiv 8 = ((i / 8 : Nat) : Int) := by rw [Int.tdiv_eq_ediv_of_nonneg (by omega)]; omega
        have f2 : wrap64 ((i / 8 : Nat) : Int) = ((i / 8 : Nat) : Int) := by have := HN.out; unfold wrap64; omega
        have f3 : (i : Int).tmod 8 = ((i % 8 : Nat) : Int) := by rw [Int.tmod_eq_emod_of_nonneg (by omega)]; omega
        have HR := hide (And.intro hB hg)
        clear hik hil q2 hB hg e1 e2 e3 e4
        obtain ⟨kk, hkk⟩ : ∃ kk, kk = i % 8 := ⟨_, rfl⟩
        obtain ⟨jj, hjj⟩ : ∃ jj, jj = i / 8 := ⟨_, rfl⟩
        obtain ⟨y, hy⟩ : ∃ y, y = byt (l.take i) jj := ⟨_, rfl⟩
        rw [← hkk] at f3
        rw [← hjj] at f1 f2 hj hc hf
        rw [← hy] at hc
        have HKK := hide hkk
        have HJJ := hide hjj
        have HY := hide hy
        have HT := hide (And.intro t1 t2)
        have HX := hide hx
        clear t1 t2
        have j1 : (jj : Int) < (m : Int) := by omega
        have f4 : (i : Int) / 8 = (jj : Int) := by omega
        have f5 : (i : Int) % 8 = (kk : Int) := by omega
        have f6 : IntKind.i64.wrap (jj : Int) = (jj : Int) := by rw [IntKind.wrap_i64]; have := HN.out; omega
        have f7 : 0 ≤ (jj : Int) := by omega
        clear hkk hjj hy hx
        go_wp2_with fail
        refine wp_region_noPanic ?_
        refine wp_region_L (S := (fun V => V.cell? ⟨w1.heap.size, jj, none⟩ = some (bv y))) 10 (by kernel_rfl) (hc) (fun hHeld => ?_)
        refine wpAnyL_take (i := 0) (v := ?_) rfl (by kernel_rfl) (by kernel_rfl) (by kernel_rfl) (by kernel_rfl) (fun _ _ _ h => h) (Or.inl ⟨by rfl, ?_⟩) hHeld ?_
        rotate_left 1
        · (intro w hSw; (try dsimp only at hSw); go_simp; try with_reducible rfl)
        try simp only [Act.put, List.getElem_toArray, List.getElem_cons_zero, List.setIfInBounds_toArray, List.set_cons_zero, List.set_cons_succ]
        refine wpAnyL_take (i := 1) (v := ?_) rfl (by kernel_rfl) (by kernel_rfl) (by kernel_rfl) (by kernel_rfl) (fun _ _ _ h => h) (Or.inl ⟨by rfl, ?_⟩) hHeld ?_
        rotate_left 1
        · (intro w hSw; (try dsimp only at hSw); go_simp; try with_reducible rfl)
        try simp only [Act.put, List.getElem_toArray, List.getElem_cons_zero, List.getElem_cons_succ, List.setIfInBounds_toArray, List.set_cons_zero, List.set_cons_succ]
        refine wpAnyL_take (i := 2) (v := ?_) rfl (by kernel_rfl) (by kernel_rfl) (by kernel_rfl) (by kernel_rfl) (fun _ _ _ h => h) (Or.inl ⟨by rfl, ?_⟩) hHeld ?_
        rotate_left 1
        · (intro w hSw; (try dsimp only at hSw); go_simp; try with_reducible rfl)
        try simp only [Act.put, List.getElem_toArray, List.getElem_cons_zero, List.getElem_cons_succ, List.setIfInBounds_toArray, List.set_cons_zero, List.set_cons_succ]
        refine wpAnyL_take (i := 3) (v := ?_) rfl (by kernel_rfl) (by kernel_rfl) (by kernel_rfl) (by kernel_rfl) (fun _ _ _ h => h) (Or.inl ⟨by rfl, ?_⟩) hHeld ?_
        rotate_left 1
        · (intro w hSw; (try dsimp only at hSw); go_simp; try with_reducible rfl)
        try simp only [Act.put, List.getElem_toArray, List.getElem_cons_zero, List.getElem_cons_succ, List.setIfInBounds_toArray, List.set_cons_zero, List.set_cons_succ]
        refine wpAnyL_take (i := 4) (v := ?_) rfl (by kernel_rfl) (by kernel_rfl) (by kernel_rfl) (by kernel_rfl) (fun _ _ _ h => h) (Or.inl ⟨by rfl, ?_⟩) hHeld ?_
        rotate_left 1
        · (intro w hSw; (try dsimp only at hSw); go_simp; try with_reducible rfl)
        try simp only [Act.put, List.getElem_toArray, List.getElem_cons_zero, List.getElem_cons_succ, List.setIfInBounds_toArray, List.set_cons_zero, List.set_cons_succ]
        refine wpAnyL_take (i := 5) (v := ?_) rfl (by kernel_rfl) (by kernel_rfl) (by kernel_rfl) (by kernel_rfl) (fun _ _ _ h => h) (Or.inl ⟨by rfl, ?_⟩) hHeld ?_
        rotate_left 1
        · (intro w hSw; (try dsimp only at hSw); go_simp; try with_reducible rfl)
        try simp only [Act.put, List.getElem_toArray, List.getElem_cons_zero, List.getElem_cons_succ, List.setIfInBounds_toArray, List.set_cons_zero, List.set_cons_succ]
        refine wpAnyL_take (i := 6) (v := ?_) rfl (by kernel_rfl) (by kernel_rfl) (by kernel_rfl) (by kernel_rfl) (fun _ _ _ h => h) (Or.inl ⟨by rfl, ?_⟩) hHeld ?_
        rotate_left 1
        · (intro w hSw; (try dsimp only at hSw); go_simp; try with_reducible rfl)
        try simp only [Act.put, List.getElem_toArray, List.getElem_cons_zero, List.getElem_cons_succ, List.setIfInBounds_toArray, List.set_cons_zero, List.set_cons_succ]
        refine wpAnyL_take (i := 7) (v := ?_) rfl (by kernel_rfl) (by kernel_rfl) (by kernel_rfl) (by kernel_rfl) (fun _ _ _ h => h) (Or.inl ⟨by rfl, ?_⟩) hHeld ?_
        rotate_left 1
        · (intro w hSw; (try dsimp only at hSw); go_simp; try with_reducible rfl)
        try simp only [Act.put, List.getElem_toArray, List.getElem_cons_zero, List.getElem_cons_succ, List.setIfInBounds_toArray, List.set_cons_zero, List.set_cons_succ]
        refine wpAnyL_take (i := 8) (v := ?_) rfl (by kernel_rfl) (by kernel_rfl) (by kernel_rfl) (by kernel_rfl) (fun _ _ _ h => h) (Or.inl ⟨by rfl, ?_⟩) hHeld ?_
        rotate_left 1
        · (intro w hSw; (try dsimp only at hSw); go_simp; try with_reducible rfl)
        try simp only [Act.put, List.getElem_toArray, List.getElem_cons_zero, List.getElem_cons_succ, List.setIfInBounds_toArray, List.set_cons_zero, List.set_cons_succ]
        refine wpAnyL_take (i := 9) (v := ?_) rfl (by kernel_rfl) (by kernel_rfl) (by kernel_rfl) (by kernel_rfl) (fun _ _ _ h => h) (Or.inl ⟨by rfl, ?_⟩) hHeld ?_
        rotate_left 1
        · (intro w hSw; (try dsimp only at hSw); go_simp; try with_reducible rfl)
        try simp only [Act.put, List.getElem_toArray, List.getElem_cons_zero, List.getElem_cons_succ, List.setIfInBounds_toArray, List.set_cons_zero, List.set_cons_succ]
        refine wpAnyL_last (by kernel_rfl) rfl (by kernel_rfl) (fun K hK => ?_)
        try clear hHeld
        go_simp
        refine hK.out _ _ ?_
        clear hK K
        refine NoPanic.normal ?_
        obtain ⟨t1, t2⟩ := HT.out
        obtain ⟨hB, hg⟩ := HR.out
        rw [← HJJ.out, ← HKK.out, ← HY.out] at t1 t2
        have hkk8 : kk < 8 := by rw [HKK.out]; exact Nat.mod_lt _ (by decide)
        have hy256 : y < 256 := by rw [HY.out]; exact byt_lt _ _
        have eor := or_bit y kk hy256 hkk8 t2
        rw [eor, ← t1]
        have HR2 : Hid (Blk (wr.setCell ⟨w1.heap.size, jj, none⟩ (bv (byt (l.take (i + 1)) jj))).drew w1.heap.size 5 (pkC (l.take (i + 1)) m) ∧ G w1 (wr.setCell ⟨w1.heap.size, jj, none⟩ (bv (byt (l.take (i + 1)) jj))).drew) := by
          refine ⟨?_, (hg.setCell (Nat.le_refl _) _).drew⟩
          rw [pkC_true l i m, ← HJJ.out]
          exact (hB.set jj _).drew
        clear t1 t2 hB hg hkk8 hy256 eor HT HR HY HKK HJJ hc hf
        go_wp2_with fail
        try rw [HW.out]
        refine ⟨⟨i + 1, rfl, HIL.out, HR2.out⟩, ?_⟩
        simp only [RowKit.intOf]; have := HIL.out; omega
    · have i1 : ¬ ((i : Int) < l.length) := by omega
      have e5 : l.take i = l := List.take_of_length_le (by omega)
      rw [e5] at hB
      have hrow : Rb wr (.slice (some ⟨w1.heap.size, 0, none⟩) m m) (pk l) := by
        have hl : (pk l).length = m := by rw [pk_len]; exact HM.out.symm
        refine ⟨_, m, by rw [hl], by rw [hl]; exact Nat.le_refl _, (fun q => by cases q), fun j x hx => ⟨w1.heap.size, 0, [bv x], rfl, rfl, fun k u hk => ?_⟩⟩
        have hk0 : k = 0 := by have := (List.getElem?_eq_some_iff.1 hk).1; simp at this; exact this
        subst hk0
        simp at hk
        subst hk
        have hjm : j < m := by rw [← hl]; exact (List.getElem?_eq_some_iff.1 hx).1
        have hxe : x = byt l j := by
          rw [pk, List.getElem?_map, ← HM.out, List.getElem?_range hjm] at hx
          exact (Option.some.inj hx).symm
        show wr.cell? ⟨w1.heap.size, 0 + j * 1 + 0, none⟩ = some (bv x)
        rw [Nat.zero_add, Nat.mul_one, Nat.add_zero, hB.cell, pkC_at l m j hjm, hxe]
      have KP := hide (put_any W0 B wr b _ _ _ (H1.out.G hg) hrow)
      have HE : Hid (wap (wap s (some (cnt l.length))) (some (pk l)) = wap s (some (cnt l.length ++ pk l))) := by show _ = _; rw [wap_cat]; rfl
      clear hik hil hB hg e5 hrow e1 e2 e3 e4
      go_wp2_with fail
      refine KP.out.mono ?_
      rintro e w5 ⟨rfl, h5⟩
      rw [HE.out] at h5
      have H5 := hide h5
      clear h5 KP
      go_wp2_with fail
      exact ⟨rfl, _, results_none rfl _ _ _, rfl, H5.out⟩
end Go.Proofs.YtcdjjmjhdoanlaaGreatDoor
