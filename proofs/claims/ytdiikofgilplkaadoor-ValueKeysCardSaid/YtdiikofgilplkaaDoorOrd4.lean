/- How keys stand to each other (P117). Plain mathematics, no program. -/
import Derived.Test.YtdiikofgilplkaaDoorOrd2
import Derived.Test.YtdiikofgilplkaaDoorKey3
namespace Go.Proofs.YtdiikofgilplkaaDoor
open Go.RowKit Go.Shelf Go.PlainAid Go.Lib

/-- The k bytes of a number, the highest first. -/
def hiB (k x : Nat) : List Nat := (List.range k).map fun j => x / 256 ^ (k - 1 - j) % 256
theorem hiB_len (k x : Nat) : (hiB k x).length = k := by simp [hiB]
theorem hiB_lt (k x : Nat) : ∀ d ∈ hiB k x, d < 256 := fun d hd => by
  simp only [hiB, List.mem_map] at hd
  obtain ⟨j, _, rfl⟩ := hd
  exact Nat.mod_lt _ (by decide)
theorem hiB_succ (k x : Nat) : hiB (k + 1) x = hiB k (x / 256) ++ [x % 256] := by
  unfold hiB
  rw [List.range_succ, List.map_append]
  congr 1
  · refine List.map_congr_left fun j hj => ?_
    have : j < k := by simpa using hj
    rw [Nat.div_div_eq_div_mul, show k + 1 - 1 - j = (k - 1 - j) + 1 by omega, Nat.pow_succ, Nat.mul_comm]
  · simp
theorem hiB_acc (k x : Nat) (h : x < 256 ^ k) : acc (hiB k x) = x := by
  induction k generalizing x with
  | zero => simp at h; subst h; rfl
  | succ k ih =>
    rw [hiB_succ, acc_snoc, ih (x / 256) (by rw [Nat.pow_succ] at h; omega)]
    omega
theorem hiB_ls {k x y : Nat} (hy : y < 256 ^ k) (h : x < y) : Ls (hiB k x) (hiB k y) :=
  Ls.of_acc _ _ (by rw [hiB_len, hiB_len]) (hiB_lt _ _) (hiB_lt _ _) (by rw [hiB_acc k x (by omega), hiB_acc k y hy]; exact h)
/-- Eight bytes: the first ones of a list, zeros behind them. -/
def pad8 (ys : List Nat) : List Nat := (List.range 8).map fun j => ys.getD j 0
theorem pad8_eq (ys : List Nat) : pad8 ys = ys.take 8 ++ List.replicate (8 - ys.length) 0 := by
  apply List.ext_getElem?
  intro i
  unfold pad8
  rw [List.getElem?_map]
  by_cases h : i < 8
  · rw [List.getElem?_range h, Option.map_some, List.getD_eq_getElem?_getD]
    by_cases h2 : i < ys.length
    · rw [List.getElem?_append_left (by simp; omega), List.getElem?_take, if_pos h, List.getElem?_eq_getElem h2]; rfl
    · rw [List.getElem?_append_right (by simp; omega), List.getElem?_replicate, if_pos (by simp; omega), List.getElem?_eq_none (by omega)]; rfl
  · rw [List.getElem?_eq_none (by simpa using h), List.getElem?_eq_none (by simp; omega)]; rfl
/-- Lesser bytes, cut to eight: lesser, or the same. -/
theorem pad8_ls {ys zs : List Nat} (h : Ls ys zs) : Ls (pad8 ys) (pad8 zs) ∨ pad8 ys = pad8 zs := by
  obtain ⟨p, x, y, r, r', rfl, rfl, hx⟩ := h
  by_cases hp : p.length < 8
  · refine .inl ?_
    rw [pad8_eq, pad8_eq]
    obtain ⟨m, hm⟩ : ∃ m, 8 - p.length = m + 1 := ⟨7 - p.length, by omega⟩
    have e : ∀ (z : Nat) (q : List Nat), (p ++ z :: q).take 8 = p ++ z :: q.take m := fun z q => by
      rw [List.take_append, List.take_of_length_le (by omega), hm, List.take_succ_cons]
    rw [e, e]
    exact ⟨p, x, y, _, _, by simp; rfl, by simp; rfl, hx⟩
  · refine .inr ?_
    rw [pad8_eq, pad8_eq, List.take_append_of_le_length (by omega), List.take_append_of_le_length (by omega)]
    simp
    omega
/-- What a key holds, part by part. -/
theorem keyF_parts (pl pm : Nat) (ys : List Nat) (id : Nat) : (List.range 24).map (keyF pl pm ys id) = hiB 6 pl ++ hiB 6 pm ++ pad8 ys ++ hiB 4 id := by
  have e : (List.range 24) = (List.range 6) ++ (List.range 6).map (6 + ·) ++ (List.range 8).map (12 + ·) ++ (List.range 4).map (20 + ·) := by decide
  rw [e, List.map_append, List.map_append, List.map_append, List.map_map, List.map_map, List.map_map]
  have p1 : (List.range 6).map (keyF pl pm ys id) = hiB 6 pl := List.map_congr_left fun j hj => by
    have hj : j < 6 := by simpa using hj
    unfold keyF putF layF
    dsimp only
    rw [if_neg (by omega), if_neg (by omega), if_neg (by omega), if_pos (by omega)]
    rfl
  have p2 : (List.range 6).map (keyF pl pm ys id ∘ (6 + ·)) = hiB 6 pm := List.map_congr_left fun j hj => by
    have hj : j < 6 := by simpa using hj
    show keyF pl pm ys id (6 + j) = _
    unfold keyF putF layF
    dsimp only
    rw [if_neg (by omega), if_neg (by omega), if_pos (by omega), show 6 + j - 6 = j by omega]
  have p3 : (List.range 8).map (keyF pl pm ys id ∘ (12 + ·)) = pad8 ys := List.map_congr_left fun j hj => by
    have hj : j < 8 := by simpa using hj
    show keyF pl pm ys id (12 + j) = _
    unfold keyF putF layF
    dsimp only
    rw [if_neg (by omega), List.length_take]
    by_cases h : j < ys.length
    · rw [if_pos (by omega), show 12 + j - 12 = j by omega, List.getD_eq_getElem?_getD, List.getD_eq_getElem?_getD, List.getElem?_take, if_pos hj]
    · rw [if_neg (by omega), if_neg (by omega), if_neg (by omega), List.getD_eq_getElem?_getD, List.getElem?_eq_none (by omega)]
      rfl
  have p4 : (List.range 4).map (keyF pl pm ys id ∘ (20 + ·)) = hiB 4 id := List.map_congr_left fun j hj => by
    have hj : j < 4 := by simpa using hj
    show keyF pl pm ys id (20 + j) = _
    unfold keyF putF
    dsimp only
    rw [if_pos (by omega), show 20 + j - 20 = j by omega]
  rw [p1, p2, p3, p4]
end Go.Proofs.YtdiikofgilplkaaDoor
