/- How the bytes of numbers stand to each other (P113). Plain mathematics, no program. -/
import Derived.Test.YtdiikofgilplkaaDoorDec0
import Derived.Test.YtdiikofgilplkaaDoorScriptOpen
namespace Go.Proofs.YtdiikofgilplkaaDoor

/-- Two lists part at some place, and the first is the lesser one there. -/
def Ls (us bs : List Nat) : Prop := ∃ (p : List Nat) (x y : Nat) (r r' : List Nat), us = p ++ x :: r ∧ bs = p ++ y :: r' ∧ x < y
theorem Ls.app {us bs : List Nat} (h : Ls us bs) (u v : List Nat) : Ls (us ++ u) (bs ++ v) := by
  obtain ⟨p, x, y, r, r', rfl, rfl, hx⟩ := h
  exact ⟨p, x, y, r ++ u, r' ++ v, by simp, by simp, hx⟩
theorem Ls.pre {us bs : List Nat} (h : Ls us bs) (q : List Nat) : Ls (q ++ us) (q ++ bs) := by
  obtain ⟨p, x, y, r, r', rfl, rfl, hx⟩ := h
  exact ⟨q ++ p, x, y, r, r', by simp, by simp, hx⟩
theorem Ls.cons {us bs : List Nat} (h : Ls us bs) (d : Nat) : Ls (d :: us) (d :: bs) := h.pre [d]
theorem Ls.head (x y : Nat) (r r' : List Nat) (h : x < y) : Ls (x :: r) (y :: r') := ⟨[], x, y, r, r', rfl, rfl, h⟩
/-- trellislaw1.lexical. -/
def lx : List Nat → List Nat → Int
  | [], [] => 0
  | [], _ :: _ => -1
  | _ :: _, [] => 1
  | a :: us, b :: bs => if a < b then -1 else if b < a then 1 else lx us bs
theorem lx_self (us : List Nat) : lx us us = 0 := by
  induction us with
  | nil => rfl
  | cons a us ih => simp [lx, ih]
theorem Ls.lt {us bs : List Nat} (h : Ls us bs) : lx us bs = -1 ∧ lx bs us = 1 := by
  obtain ⟨p, x, y, r, r', rfl, rfl, hx⟩ := h
  induction p with
  | nil => simp [lx, hx, Nat.lt_asymm hx]
  | cons a p ih => simpa [lx] using ih
theorem Ls.noBegin {us bs : List Nat} (h : Ls us bs) : ¬ us <+: bs ∧ ¬ bs <+: us := by
  obtain ⟨p, x, y, r, r', rfl, rfl, hx⟩ := h
  constructor
  · intro h; rw [List.prefix_append_right_inj] at h
    have := (List.cons_prefix_cons.1 h).1; omega
  · intro h; rw [List.prefix_append_right_inj] at h
    have := (List.cons_prefix_cons.1 h).1; omega
theorem acc_cons (d : Nat) (l : List Nat) : acc (d :: l) = d * 256 ^ l.length + acc l := by
  have : ∀ (l : List Nat) (m : Nat), l.foldl (fun m d => m * 256 + d) m = m * 256 ^ l.length + l.foldl (fun m d => m * 256 + d) 0 := by
    intro l
    induction l with
    | nil => intro m; simp
    | cons a l ih =>
      intro m
      rw [List.foldl_cons, List.foldl_cons, ih, ih (0 * 256 + a), List.length_cons, Nat.pow_succ]
      rw [Nat.add_mul, Nat.zero_mul, Nat.zero_add, Nat.mul_assoc, Nat.mul_comm 256 (256 ^ l.length), Nat.add_assoc]
  unfold acc
  rw [List.foldl_cons, this]; simp
theorem Ls.of_acc : ∀ (us bs : List Nat), us.length = bs.length → (∀ d ∈ us, d < 256) → (∀ d ∈ bs, d < 256) → acc us < acc bs → Ls us bs
  | [], [], _, _, _, h => by simp [acc] at h
  | a :: us, b :: bs, hl, ha, hb, h => by
    have hl' : us.length = bs.length := by simpa using hl
    rw [acc_cons, acc_cons, hl'] at h
    have h1 := acc_lt us (fun d hd => ha d (by simp [hd]))
    have h2 := acc_lt bs (fun d hd => hb d (by simp [hd]))
    rw [hl'] at h1
    rcases Nat.lt_trichotomy a b with hab | hab | hab
    · exact Ls.head _ _ _ _ hab
    · subst hab
      exact (Ls.of_acc us bs hl' (fun d hd => ha d (by simp [hd])) (fun d hd => hb d (by simp [hd])) (by omega)).cons a
    · exfalso
      have : (b + 1) * 256 ^ bs.length ≤ a * 256 ^ bs.length := Nat.mul_le_mul_right _ hab
      rw [Nat.add_mul, Nat.one_mul] at this
      omega
theorem Ls.flip {us bs : List Nat} (h : Ls us bs) (hb : ∀ d ∈ bs, d < 256) : Ls (bs.map (255 - ·)) (us.map (255 - ·)) := by
  obtain ⟨p, x, y, r, r', rfl, rfl, hx⟩ := h
  have := hb y (by simp)
  exact ⟨p.map (255 - ·), 255 - y, 255 - x, r'.map (255 - ·), r.map (255 - ·), by simp, by simp, by omega⟩
theorem digs_top (m : Nat) : m < 256 ^ (digs m).length := by
  have := acc_lt (digs m).reverse (fun d hd => digs_lt m d (by simpa using hd))
  rwa [acc_digs, List.length_reverse] at this
theorem digs_mono {m n : Nat} (h : m ≤ n) : (digs m).length ≤ (digs n).length := digs_len_le _ _ (Nat.lt_of_le_of_lt h (digs_top n))
theorem digs_ls {m n : Nat} (h : m < n) (hl : (digs m).length = (digs n).length) : Ls (digs m).reverse (digs n).reverse :=
  Ls.of_acc _ _ (by simpa using hl) (fun d hd => digs_lt m d (by simpa using hd)) (fun d hd => digs_lt n d (by simpa using hd)) (by rw [acc_digs, acc_digs]; exact h)
theorem digs_some {m : Nat} (h : 0 < m) : 0 < (digs m).length := by rw [digs_pos (by omega)]; simp
/-- P113: a lesser number has lesser bytes. -/
theorem encW_ls {n m : Int} (hn : R64 n) (hm : R64 m) (h : n < m) : Ls (encW n) (encW m) := by
  have ln := low_len n hn.1 hn.2
  have lm := low_len m hm.1 hm.2
  have en : (lowB n).length = (digs n.natAbs).length := by simp [lowB]
  have em : (lowB m).length = (digs m.natAbs).length := by simp [lowB]
  unfold encW
  by_cases h1 : n < 0
  · rw [if_pos h1]
    have p1 := digs_some (show 0 < n.natAbs by omega)
    by_cases h2 : m < 0
    · rw [if_pos h2]
      have hle := digs_mono (show m.natAbs ≤ n.natAbs by omega)
      by_cases he : (digs m.natAbs).length = (digs n.natAbs).length
      · rw [show (lowB n).length = (lowB m).length by omega]
        refine Ls.cons ?_ _
        have := (digs_ls (show m.natAbs < n.natAbs by omega) he).flip (fun d hd => digs_lt _ d (by simpa using hd))
        rw [lowB, lowB, ← List.map_reverse, ← List.map_reverse]
        simpa [h1, h2] using this
      · exact Ls.head _ _ _ _ (by omega)
    · rw [if_neg h2]
      exact Ls.head _ _ _ _ (by omega)
  · have h2 : ¬ m < 0 := by omega
    rw [if_neg h1, if_neg h2]
    have hle := digs_mono (show n.natAbs ≤ m.natAbs by omega)
    by_cases he : (digs n.natAbs).length = (digs m.natAbs).length
    · rw [show (lowB n).length = (lowB m).length by omega]
      refine Ls.cons ?_ _
      have := digs_ls (show n.natAbs < m.natAbs by omega) he
      rw [lowB, lowB, ← List.map_reverse, ← List.map_reverse]
      simpa [h1, h2] using this
    · exact Ls.head _ _ _ _ (by omega)
end Go.Proofs.YtdiikofgilplkaaDoor
