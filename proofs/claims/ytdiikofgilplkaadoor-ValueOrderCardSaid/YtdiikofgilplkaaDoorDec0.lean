/- Bytes read back: the number that digits make. Plain mathematics, no program. -/
import Derived.Test.YtdiikofgilplkaaDoorEnc7
namespace Go.Proofs.YtdiikofgilplkaaDoor
open Go.RowKit Go.PlainAid

/-- The number of digits, the highest first. -/
def acc (l : List Nat) : Nat := l.foldl (fun m d => m * 256 + d) 0
theorem acc_snoc (l : List Nat) (d : Nat) : acc (l ++ [d]) = acc l * 256 + d := by
  unfold acc
  rw [List.foldl_append]; rfl
theorem acc_lt' (l : List Nat) (h : ∀ d ∈ l, d < 256) (m : Nat) : l.foldl (fun m d => m * 256 + d) m < (m + 1) * 256 ^ l.length := by
  induction l generalizing m with
  | nil => simp
  | cons d l ih =>
    have h1 := ih (fun x hx => h x (by simp [hx])) (m * 256 + d)
    have h2 := h d (by simp)
    rw [List.foldl_cons, List.length_cons, Nat.pow_succ]
    refine Nat.lt_of_lt_of_le h1 ?_
    rw [Nat.mul_comm (256 ^ l.length) 256, ← Nat.mul_assoc]
    exact Nat.mul_le_mul_right _ (by omega)
theorem acc_lt (l : List Nat) (h : ∀ d ∈ l, d < 256) : acc l < 256 ^ l.length := by
  have := acc_lt' l h 0
  simpa [acc] using this
theorem acc_digs (m : Nat) : acc (digs m).reverse = m := by
  induction m using Nat.strongRecOn with
  | _ m ih =>
    by_cases h : m = 0
    · subst h; rw [digs_zero]; rfl
    · rw [digs_pos h, List.reverse_cons, acc_snoc, ih (m / 256) (by omega)]
      omega
theorem flip_flip (n : Int) (x : Nat) (h : x < 256) : flipB n (flipB n x) = x := by
  unfold flipB
  split <;> omega
theorem low_back (n : Int) : (lowB n).reverse.map (flipB n) = (digs n.natAbs).reverse := by
  rw [lowB_eq, ← List.map_reverse, List.map_map]
  conv => rhs; rw [← List.map_id (digs n.natAbs).reverse]
  refine List.map_congr_left fun x hx => ?_
  exact flip_flip n x (digs_lt _ x (List.mem_reverse.1 hx))
theorem low_len (n : Int) (h1 : -9223372036854775808 ≤ n) (h2 : n ≤ 9223372036854775807) : (lowB n).length ≤ 8 := by
  unfold lowB
  have := digs_len_le 8 n.natAbs (by omega)
  simpa using this
/-- The first byte and the digits of a row that begins with a whole number's bytes. -/
theorem enc_split {bs rest : List Nat} {n : Int} (h : bs = encW n ++ rest) : bs[0]? = some (if n < 0 then 64 - (lowB n).length else 64 + (lowB n).length) ∧ (bs.drop 1).take (lowB n).length = (lowB n).reverse ∧ bs.drop (1 + (lowB n).length) = rest := by
  subst h
  unfold encW
  refine ⟨rfl, ?_, ?_⟩
  · simp
  · rw [Nat.add_comm, List.cons_append, List.drop_succ_cons]
    simp
end Go.Proofs.YtdiikofgilplkaaDoor
