/- Paths: how many arcs lead to a node from those that are not done, as a thing of thought. -/
import Derived.Test.YtcbjcienjolceabDoorPz12
namespace Go.Proofs.YtcbjcienjolceabDoor

theorem sum_zero {f : Nat → Nat} : ∀ {l : List Nat}, (l.map f).sum = 0 ↔ ∀ x ∈ l, f x = 0
  | [] => by simp
  | a :: l => by
    rw [List.map_cons, List.sum_cons, List.forall_mem_cons, ← sum_zero (l := l)]
    omega
theorem sum_one {f g : Nat → Nat} {k c : Nat} (hne : ∀ x, x ≠ k → f x = g x) (hk : g k = f k + c) : ∀ {l : List Nat}, l.Nodup → (l.map g).sum = (l.map f).sum + if k ∈ l then c else 0
  | [], _ => by simp
  | a :: l, hn => by
    obtain ⟨h1, h2⟩ := List.nodup_cons.1 hn
    rw [List.map_cons, List.map_cons, List.sum_cons, List.sum_cons, sum_one hne hk h2]
    by_cases e : a = k
    · subst e
      rw [if_neg h1, if_pos (by simp), hk]
      omega
    · rw [hne a e]
      by_cases hm : k ∈ l
      · rw [if_pos hm, if_pos (by simp [hm])]
        omega
      · rw [if_neg hm, if_neg (by simp [hm]; exact fun q => e q.symm)]
        omega
/-- How many arcs lead to k from nodes that are still to come. -/
def wcnt (L : List (List Nat)) (D : List Bool) (k : Nat) : Nat := ((List.range L.length).map fun i => if D[i]! then 0 else (L[i]!).count k).sum
theorem wcnt_zero {L : List (List Nat)} {D : List Bool} {k : Nat} : wcnt L D k = 0 ↔ freeB L D k = true := by
  unfold wcnt
  rw [sum_zero, freeB_iff]
  constructor
  · intro h i hi hd
    have := h i (List.mem_range.2 hi)
    rw [if_neg (by rw [hd]; simp)] at this
    exact List.count_eq_zero.1 this
  · intro h i hi
    split
    · rfl
    · rename_i hd
      exact List.count_eq_zero.2 (h i (List.mem_range.1 hi) (by simpa using hd))
theorem set_at {D : List Bool} {k : Nat} (hk : k < D.length) : (D.set k true)[k]! = true := by
  rw [Hp.get_of (by rw [List.length_set]; exact hk)]
  simp
theorem set_ne {D : List Bool} {k j : Nat} (h : j ≠ k) : (D.set k true)[j]! = D[j]! := by
  rw [List.getElem!_eq_getElem?_getD, List.getElem!_eq_getElem?_getD, List.getElem?_set_ne (fun e => h e.symm)]
/-- One is done: its arcs no longer count. -/
theorem wcnt_done {L : List (List Nat)} {D : List Bool} {k m : Nat} (hl : D.length = L.length) (hk : k < L.length) (hd : D[k]! = false) : wcnt L D m = wcnt L (D.set k true) m + (L[k]!).count m := by
  unfold wcnt
  have h := sum_one (f := fun i => if (D.set k true)[i]! then 0 else (L[i]!).count m) (g := fun i => if D[i]! then 0 else (L[i]!).count m) (k := k) (c := (L[k]!).count m) (fun x hx => by rw [set_ne hx]) (by
    rw [set_at (by rw [hl]; exact hk), hd]
    simp) (l := List.range L.length) List.nodup_range
  rw [h, if_pos (List.mem_range.2 hk)]
/-- The next one is the least of those that are ready. -/
theorem nxt_ready {L : List (List Nat)} {D : List Bool} {k : Nat} (hk : k < L.length) (hd : D[k]! = false) (hw : wcnt L D k = 0) (h : ∀ j, j < L.length → D[j]! = false → wcnt L D j = 0 → k ≤ j) : nxtO L D = some k := by
  refine nxtO_some hk hd (wcnt_zero.1 hw) (fun j hj => ?_)
  cases hdj : D[j]! with
  | true => exact .inl rfl
  | false =>
    right
    cases hfb : freeB L D j with
    | false => rfl
    | true =>
      have := h j (by omega) hdj (wcnt_zero.2 hfb)
      omega
theorem nxt_not {L : List (List Nat)} {D : List Bool} (h : ∀ j, j < L.length → D[j]! = false → wcnt L D j ≠ 0) : nxtO L D = none := by
  refine nxtO_none (fun j hj => ?_)
  cases hdj : D[j]! with
  | true => exact .inl rfl
  | false =>
    right
    cases hfb : freeB L D j with
    | false => rfl
    | true => exact absurd (wcnt_zero.2 hfb) (h j hj hdj)
/-- In a rising list the order of the ids is that of the places. -/
theorem ltP_iff {ids : List Int} (hp : ids.Pairwise (· < ·)) {a b : Nat} (ha : a < ids.length) (hb : b < ids.length) : ltP ids a b = decide (a < b) := by
  have e1 : ids[((a : Int)).toNat]! = ids[a] := by rw [Int.toNat_natCast]; exact Hp.get_of ha
  have e2 : ids[((b : Int)).toNat]! = ids[b] := by rw [Int.toNat_natCast]; exact Hp.get_of hb
  have e3 : ltP ids a b = decide (ids[a] < ids[b]) := by unfold ltP; simp only [e1, e2]
  rw [e3]
  rw [List.pairwise_iff_getElem] at hp
  rcases Nat.lt_trichotomy a b with h | h | h
  · rw [decide_eq_true (hp a b ha hb h), decide_eq_true h]
  · subst h
    simp
  · have := hp b a hb ha h
    rw [decide_eq_false (by omega), decide_eq_false (by omega)]
end Go.Proofs.YtcbjcienjolceabDoor
