/- Wire: the document's bits, read. -/
import Derived.Test.YtcdjjmjhdoanlaaGreatDoorW33
namespace Go.Proofs.YtcdjjmjhdoanlaaGreatDoor
open Go.RowKit

/-- A byte's k-th bit. -/
def bt1 (y k : Nat) : Bool := decide (y / 2 ^ (7 - k) % 2 = 1)
theorem bt1_ge (y k : Nat) (hy : y < 256) (hk : k < 8) : decide (128 ≤ y * 2 ^ k % 256) = bt1 y k :=
  (by decide +kernel : ∀ y : Fin 256, ∀ k : Fin 8, decide (128 ≤ y.val * 2 ^ k.val % 256) = bt1 y.val k.val) ⟨y, hy⟩ ⟨k, hk⟩
theorem bt1_two (y k : Nat) : y * 2 ^ k % 256 * 2 % 256 = y * 2 ^ (k + 1) % 256 := by
  rw [Nat.pow_succ, ← Nat.mul_assoc]
  generalize y * 2 ^ k = z
  omega
theorem bitOf_last (a : List Nat) (y k : Nat) (hk : k < 8) : bitOf (a ++ [y]) (8 * a.length + k) = bt1 y k := by
  unfold bitOf bt1
  rw [show (8 * a.length + k) / 8 = a.length by omega, show (8 * a.length + k) % 8 = k by omega]
  simp
theorem bitOf_pre (a : List Nat) (y i : Nat) (hi : i < 8 * a.length) : bitOf (a ++ [y]) i = bitOf a i := by
  unfold bitOf
  rw [List.getD_eq_getElem?_getD, List.getD_eq_getElem?_getD, List.getElem?_append_left (by omega)]
theorem bitsL_pre (a : List Nat) (y m : Nat) (hm : m ≤ 8 * a.length) : bitsL (a ++ [y]) m = bitsL a m := by
  unfold bitsL
  refine List.map_congr_left fun i hi => ?_
  rw [List.mem_range] at hi
  exact bitOf_pre a y i (by omega)
theorem bitsL_succ (a : List Nat) (m : Nat) : bitsL a (m + 1) = bitsL a m ++ [bitOf a m] := by
  unfold bitsL; rw [List.range_succ, List.map_append]; rfl
theorem bitsL_len (a : List Nat) (m : Nat) : (bitsL a m).length = m := by simp [bitsL]
theorem okk_low (l : List Nat) (n i : Nat) (h : i ≤ n) : okk l n i = true := by
  unfold okk; rw [Nat.sub_eq_zero_of_le h]; rfl
theorem okk_false (l : List Nat) (n i : Nat) (d : Nat) (h : okk l n i = false) : okk l n (i + d) = false := by
  induction d with
  | zero => exact h
  | succ d ih =>
    have hn : n ≤ i + d := Nat.le_of_not_lt fun q => by rw [okk_low l n (i + d) (by omega)] at ih; cases ih
    rw [← Nat.add_assoc, okk_step l n (i + d) hn, ih]; rfl
theorem len_more {xs ys : List Bool} {k : Nat} (h : (0 < k → xs.length < ys.length) ∧ (k = 0 → ys = xs)) (z : Bool) : xs.length < (ys ++ [z]).length := by
  rw [List.length_append]
  by_cases c : 0 < k
  · have := h.1 c; omega
  · rw [h.2 (by omega)]; simp
def slLen (v : Value) : Nat := match v with | .slice _ m _ => m | _ => 0
/-- While a byte's bits are taken. -/
def BtI (n : Nat) (l' : List Nat) (no : Prop) (s' : Option (List Nat)) (xs : List Bool) (y k : Nat) : Prop :=
  (s' = none ∧ no) ∨ ∃ a r, l' = (a ++ [y]) ++ r ∧ s' = some r ∧ 8 * a.length < n ∧ okk (a ++ [y]) n (8 * a.length + k) = true ∧ xs = bitsL (a ++ [y]) (min n (8 * a.length + k))
/-- Between two bytes. -/
def BtO (n : Nat) (l' : List Nat) (no : Prop) (s' : Option (List Nat)) (xs : List Bool) : Prop :=
  (s' = none ∧ no) ∨ ∃ a r, l' = a ++ r ∧ s' = some r ∧ 8 * a.length < n + 8 ∧ okk a n (8 * a.length) = true ∧ xs = bitsL a (min n (8 * a.length))
theorem bt_app {n : Nat} {l' : List Nat} {no : Prop} {s' : Option (List Nat)} {xs : List Bool} {y k : Nat} (h : BtI n l' no s' xs y k) (hx : xs.length < n) (hk : k < 8) : BtI n l' no s' (xs ++ [bt1 y k]) y (k + 1) := by
  rcases h with h | ⟨a, r, h1, h2, h3, h4, h5⟩
  · exact .inl h
  · have hl : xs.length = min n (8 * a.length + k) := by rw [h5, bitsL_len]
    refine .inr ⟨a, r, h1, h2, h3, okk_low _ _ _ (by omega), ?_⟩
    rw [h5, show min n (8 * a.length + k) = 8 * a.length + k by omega, show min n (8 * a.length + (k + 1)) = 8 * a.length + k + 1 by omega, bitsL_succ, bitOf_last a y k hk]
theorem bt_skip {n : Nat} {l' : List Nat} {no : Prop} {s' : Option (List Nat)} {xs : List Bool} {y k : Nat} (h : BtI n l' no s' xs y k) (hx : ¬ xs.length < n) (hk : k < 8) (hb : bt1 y k = false) : BtI n l' no s' xs y (k + 1) := by
  rcases h with h | ⟨a, r, h1, h2, h3, h4, h5⟩
  · exact .inl h
  · have hl : xs.length = min n (8 * a.length + k) := by rw [h5, bitsL_len]
    refine .inr ⟨a, r, h1, h2, h3, ?_, ?_⟩
    · rw [← Nat.add_assoc, okk_step _ _ _ (by omega), h4, bitOf_last a y k hk, hb]; rfl
    · rw [h5]; congr 1; omega
theorem ptk_app (a r : List Nat) : ptk a.length (a ++ r) = some (a, r) := by
  unfold ptk; rw [if_pos (by simp)]; simp
theorem bt_bad {n : Nat} {l' : List Nat} {s s' : Option (List Nat)} {xs : List Bool} {y k : Nat} (h : BtI n l' (s.bind pb = none) s' xs y k) (hp : s.bind pc = some (n, l')) (hn : ¬ 4096 < n) (hx : ¬ xs.length < n) (hk : k < 8) (hb : bt1 y k = true) : s.bind pb = none := by
  rcases h with h | ⟨a, r, h1, h2, h3, h4, h5⟩
  · exact h.2
  · have hl : xs.length = min n (8 * a.length + k) := by rw [h5, bitsL_len]
    have hlen : (a ++ [y]).length = (n + 7) / 8 := by simp; omega
    have hpt := ptk_app (a ++ [y]) r
    rw [hlen, ← h1] at hpt
    rw [pb_is s n l' _ _ hp hn hpt, show 8 * (a ++ [y]).length = (8 * a.length + k + 1) + (7 - k) by simp; omega, okk_false _ _ _ _ (by rw [okk_step _ _ _ (by omega), bitOf_last a y k hk, hb]; simp)]
    rfl
theorem bt_out {n : Nat} {l' : List Nat} {no : Prop} {s' : Option (List Nat)} {xs : List Bool} {y : Nat} (h : BtI n l' no s' xs y 8) : BtO n l' no s' xs := by
  rcases h with h | ⟨a, r, h1, h2, h3, h4, h5⟩
  · exact .inl h
  · have e : 8 * (a ++ [y]).length = 8 * a.length + 8 := by simp; omega
    exact .inr ⟨a ++ [y], r, h1, h2, by rw [e]; omega, by rw [e]; exact h4, by rw [e]; exact h5⟩
theorem bt_in {n : Nat} {l' : List Nat} {no : Prop} {s' : Option (List Nat)} {xs : List Bool} {y : Nat} {r' : List Nat} (h : BtO n l' no s' xs) (hp : s'.bind p8 = some (y, r')) (hx : xs.length < n) : BtI n l' no (some r') xs y 0 := by
  rw [p8_cons hp] at h
  rcases h with ⟨h, _⟩ | ⟨a, r, h1, h2, h3, h4, h5⟩
  · cases h
  · cases h2
    have hl : xs.length = min n (8 * a.length) := by rw [h5, bitsL_len]
    refine .inr ⟨a, r', by rw [h1]; simp, rfl, by omega, okk_low _ _ _ (by omega), ?_⟩
    rw [Nat.add_zero, bitsL_pre _ _ _ (by omega), h5]
theorem bt_none {n : Nat} {l' : List Nat} {s s' : Option (List Nat)} {xs : List Bool} (h : BtO n l' (s.bind pb = none) s' xs) (hp : s.bind pc = some (n, l')) (hn : ¬ 4096 < n) (hp8 : s'.bind p8 = none) (hx : xs.length < n) : s.bind pb = none := by
  rcases h with h | ⟨a, r, h1, h2, h3, h4, h5⟩
  · exact h.2
  · subst h2
    have hr : r = [] := by cases r with | nil => rfl | cons z r => cases hp8
    subst hr
    have hl : xs.length = min n (8 * a.length) := by rw [h5, bitsL_len]
    refine pb_no3 s n l' hp hn ?_
    unfold ptk
    rw [if_neg]
    rw [h1, List.append_nil]; omega
theorem bt_fin {n : Nat} {l' : List Nat} {s s' : Option (List Nat)} {xs : List Bool} (h : BtO n l' (s.bind pb = none) s' xs) (hp : s.bind pc = some (n, l')) (hn : ¬ 4096 < n) (hx : s' = none ∨ ¬ xs.length < n) : (s' = none ∧ s.bind pb = none) ∨ ∃ r, s' = some r ∧ s.bind pb = some (xs, r) := by
  rcases h with h | ⟨a, r, h1, h2, h3, h4, h5⟩
  · exact .inl h
  · subst h2
    rcases hx with q | hx
    · cases q
    · have hl : xs.length = min n (8 * a.length) := by rw [h5, bitsL_len]
      have hlen : a.length = (n + 7) / 8 := by omega
      have hpt := ptk_app a r
      rw [hlen, ← h1] at hpt
      refine .inr ⟨r, rfl, ?_⟩
      rw [pb_is s n l' _ _ hp hn hpt, h4, h5, show min n (8 * a.length) = n by omega]
      rfl
end Go.Proofs.YtcdjjmjhdoanlaaGreatDoor
