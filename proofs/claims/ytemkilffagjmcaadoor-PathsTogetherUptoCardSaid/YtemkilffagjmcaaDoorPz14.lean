/- Paths: the order by counting, as a thing of thought. -/
import Derived.Test.YtemkilffagjmcaaDoorPz12
namespace Go.Proofs.YtemkilffagjmcaaDoor
section

theorem sum_zero {f : Nat → Nat} : ∀ {l : List Nat}, (l.map f).sum = 0 ↔ ∀ x ∈ l, f x = 0
  | [] => by simp
  | a :: l => by
    rw [List.map_cons, List.sum_cons, List.forall_mem_cons, ← sum_zero (l := l)]
    omega
theorem sum_one {f g : Nat → Nat} {k c : Nat} (hne : ∀ x, x ≠ k → f x = g x) (hk : g k = f k + c) : ∀ {l : List Nat}, l.Nodup → (l.map g).sum = (l.map f).sum + if k ∈ l then c else 0
  | [], _ => by simp
  | a :: l, hn => by
    obtain ⟨h1, h2⟩ := List.nodup_cons.1 hn
    rw [List.map_cons, List.map_cons, List.sum_cons, List.sum_cons, sum_one hne hk h2]
    by_cases e : a = k
    · subst e
      rw [if_neg h1, if_pos (by simp), hk]
      omega
    · rw [hne a e]
      by_cases hm : k ∈ l
      · rw [if_pos hm, if_pos (by simp [hm])]
        omega
      · rw [if_neg hm, if_neg (by simp [hm]; exact fun q => e q.symm)]
        omega
/-- How many arcs lead to k from nodes that are still to come. -/
def wcnt (L : List (List Nat)) (D : List Bool) (k : Nat) : Nat := ((List.range L.length).map fun i => if D[i]! then 0 else (L[i]!).count k).sum
theorem wcnt_zero {L : List (List Nat)} {D : List Bool} {k : Nat} : wcnt L D k = 0 ↔ freeB L D k = true := by
  unfold wcnt
  rw [sum_zero, freeB_iff]
  constructor
  · intro h i hi hd
    have := h i (List.mem_range.2 hi)
    rw [if_neg (by rw [hd]; simp)] at this
    exact List.count_eq_zero.1 this
  · intro h i hi
    split
    · rfl
    · rename_i hd
      exact List.count_eq_zero.2 (h i (List.mem_range.1 hi) (by simpa using hd))
theorem set_at {D : List Bool} {k : Nat} (hk : k < D.length) : (D.set k true)[k]! = true := by
  rw [Hp.get_of (by rw [List.length_set]; exact hk)]
  simp
theorem set_ne {D : List Bool} {k j : Nat} (h : j ≠ k) : (D.set k true)[j]! = D[j]! := by
  rw [List.getElem!_eq_getElem?_getD, List.getElem!_eq_getElem?_getD, List.getElem?_set_ne (fun e => h e.symm)]
/-- One is done: its arcs no longer count. -/
theorem wcnt_done {L : List (List Nat)} {D : List Bool} {k m : Nat} (hl : D.length = L.length) (hk : k < L.length) (hd : D[k]! = false) : wcnt L D m = wcnt L (D.set k true) m + (L[k]!).count m := by
  unfold wcnt
  have h := sum_one (f := fun i => if (D.set k true)[i]! then 0 else (L[i]!).count m) (g := fun i => if D[i]! then 0 else (L[i]!).count m) (k := k) (c := (L[k]!).count m) (fun x hx => by rw [set_ne hx]) (by
    rw [set_at (by rw [hl]; exact hk), hd]
    simp) (l := List.range L.length) List.nodup_range
  rw [h, if_pos (List.mem_range.2 hk)]
/-- The next one is the least of those that are ready. -/
theorem nxt_ready {L : List (List Nat)} {D : List Bool} {k : Nat} (hk : k < L.length) (hd : D[k]! = false) (hw : wcnt L D k = 0) (h : ∀ j, j < L.length → D[j]! = false → wcnt L D j = 0 → k ≤ j) : nxtO L D = some k := by
  refine nxtO_some hk hd (wcnt_zero.1 hw) (fun j hj => ?_)
  cases hdj : D[j]! with
  | true => exact .inl rfl
  | false =>
    right
    cases hfb : freeB L D j with
    | false => rfl
    | true =>
      have := h j (by omega) hdj (wcnt_zero.2 hfb)
      omega
theorem nxt_not {L : List (List Nat)} {D : List Bool} (h : ∀ j, j < L.length → D[j]! = false → wcnt L D j ≠ 0) : nxtO L D = none := by
  refine nxtO_none (fun j hj => ?_)
  cases hdj : D[j]! with
  | true => exact .inl rfl
  | false =>
    right
    cases hfb : freeB L D j with
    | false => rfl
    | true => exact absurd (wcnt_zero.2 hfb) (h j hj hdj)
/-- In a rising list the order of the ids is that of the places. -/
theorem ltP_iff {ids : List Int} (hp : ids.Pairwise (· < ·)) {a b : Nat} (ha : a < ids.length) (hb : b < ids.length) : ltP ids a b = decide (a < b) := by
  have e1 : ids[((a : Int)).toNat]! = ids[a] := by rw [Int.toNat_natCast]; exact Hp.get_of ha
  have e2 : ids[((b : Int)).toNat]! = ids[b] := by rw [Int.toNat_natCast]; exact Hp.get_of hb
  have e3 : ltP ids a b = decide (ids[a] < ids[b]) := by unfold ltP; simp only [e1, e2]
  rw [e3]
  rw [List.pairwise_iff_getElem] at hp
  rcases Nat.lt_trichotomy a b with h | h | h
  · rw [decide_eq_true (hp a b ha hb h), decide_eq_true h]
  · subst h
    simp
  · have := hp b a hb ha h
    rw [decide_eq_false (by omega), decide_eq_false (by omega)]
end

theorem rep_at {n j : Nat} : (List.replicate n false)[j]! = false := by
  rw [List.getElem!_eq_getElem?_getD, List.getElem?_replicate]
  split <;> rfl
theorem range_map {α β : Type} [Inhabited α] (f : α → β) (l : List α) : (List.range l.length).map (fun i => f l[i]!) = l.map f := by
  refine List.ext_getElem? fun q => ?_
  rw [List.getElem?_map, List.getElem?_map]
  by_cases hq : q < l.length
  · rw [List.getElem?_range hq, List.getElem?_eq_getElem hq]
    simp [hq]
  · rw [List.getElem?_eq_none (by simpa using hq), List.getElem?_eq_none (by simpa using hq)]
    rfl
theorem wcnt_start (L : List (List Nat)) (m : Nat) : wcnt L (List.replicate L.length false) m = (L.map fun l => l.count m).sum := by
  unfold wcnt
  rw [← range_map (fun l : List Nat => l.count m) L]
  congr 1
  refine List.map_congr_left (fun i _ => ?_)
  rw [rep_at]
  rfl
theorem ordF_len (L : List (List Nat)) : ∀ (f : Nat) (D : List Bool) (O : List Nat), ((ordF L f D O).2 = true → (ordF L f D O).1.length = O.length + f) ∧ ((ordF L f D O).2 = false → (ordF L f D O).1.length < O.length + f)
  | 0, D, O => by simp [ordF]
  | f + 1, D, O => by
    cases hk : nxtO L D with
    | none =>
      have e : ordF L (f + 1) D O = (O, false) := by simp only [ordF, hk]
      rw [e]
      refine ⟨fun h => (by cases h), fun _ => ?_⟩
      show O.length < O.length + (f + 1)
      omega
    | some k =>
      have e : ordF L (f + 1) D O = ordF L f (D.set k true) (O ++ [k]) := by simp only [ordF, hk]
      have this := ordF_len L f (D.set k true) (O ++ [k])
      rw [List.length_append] at this
      simp only [List.length_cons, List.length_nil] at this
      rw [e]
      refine ⟨fun h => ?_, fun h => ?_⟩
      · have := this.1 h
        omega
      · have := this.2 h
        omega
/-- Between two that are taken: what waits, which are ready. -/
structure Kh (L : List (List Nat)) (D : List Bool) (W : List Nat) (R : List Nat) : Prop where
  dl : D.length = L.length
  wl : W.length = L.length
  cnt : ∀ m, m < L.length → W[m]! = wcnt L D m
  rdy : ∀ m, m ∈ R ↔ m < L.length ∧ D[m]! = false ∧ W[m]! = 0
  nd : R.Nodup
/-- While the arcs of k are gone through: the first j of them. -/
structure Kp (L : List (List Nat)) (D : List Bool) (k j : Nat) (W : List Nat) (R : List Nat) : Prop where
  dl : D.length = L.length
  wl : W.length = L.length
  cnt : ∀ m, m < L.length → W[m]! + ((L[k]!).take j).count m = wcnt L D m
  rdy : ∀ m, m ∈ R ↔ m < L.length ∧ (D.set k true)[m]! = false ∧ W[m]! = 0
  nd : R.Nodup
theorem Kh.pop {L : List (List Nat)} {D : List Bool} {W R R' : List Nat} {k : Nat} (h : Kh L D W R) (hp : R.Perm (k :: R')) (hle : ∀ m ∈ R', k ≤ m) : nxtO L D = some k ∧ Kp L D k 0 W R' ∧ k < L.length ∧ D[k]! = false := by
  have hkR : k ∈ R := hp.symm.subset (by simp)
  obtain ⟨hk, hd, hw⟩ := (h.rdy k).1 hkR
  have hnd := List.nodup_cons.1 (hp.nodup_iff.1 h.nd)
  refine ⟨nxt_ready hk hd (by rw [← h.cnt k hk]; exact hw) (fun j hj hdj hwj => ?_), ⟨h.dl, h.wl, fun m hm => by rw [List.take_zero]; simpa using h.cnt m hm, fun m => ?_, hnd.2⟩, hk, hd⟩
  · have : j ∈ R := (h.rdy j).2 ⟨hj, hdj, by rw [h.cnt j hj]; exact hwj⟩
    rcases List.mem_cons.1 (hp.subset this) with e | e
    · omega
    · exact hle j e
  · constructor
    · intro hm
      have hmk : m ≠ k := fun e => hnd.1 (e ▸ hm)
      obtain ⟨a, b, c⟩ := (h.rdy m).1 (hp.symm.subset (by simp [hm]))
      exact ⟨a, by rw [set_ne hmk]; exact b, c⟩
    · rintro ⟨a, b, c⟩
      have hmk : m ≠ k := fun e => by
        rw [e, set_at (by rw [h.dl]; exact hk)] at b
        cases b
      rw [set_ne hmk] at b
      rcases List.mem_cons.1 (hp.subset ((h.rdy m).2 ⟨a, b, c⟩)) with e | e
      · exact absurd e hmk
      · exact e
theorem Kh.none {L : List (List Nat)} {D : List Bool} {W : List Nat} (h : Kh L D W []) : nxtO L D = none :=
  nxt_not (fun j hj hd hw => by
    have := (h.rdy j).2 ⟨hj, hd, by rw [h.cnt j hj]; exact hw⟩
    simp at this)
theorem Kp.fin {L : List (List Nat)} {D : List Bool} {k : Nat} {W R : List Nat} (h : Kp L D k (L[k]!).length W R) (hk : k < L.length) (hd : D[k]! = false) : Kh L (D.set k true) W R := by
  refine ⟨by rw [List.length_set]; exact h.dl, h.wl, fun m hm => ?_, h.rdy, h.nd⟩
  have h1 := h.cnt m hm
  rw [List.take_length, wcnt_done h.dl hk hd] at h1
  omega
theorem getW_set {W : List Nat} {m q x : Nat} (hm : m < W.length) : (W.set m x)[q]! = if q = m then x else W[q]! := by
  by_cases e : q = m
  · subst e
    rw [if_pos rfl, Hp.get_of (by rw [List.length_set]; exact hm)]
    simp
  · rw [if_neg e, List.getElem!_eq_getElem?_getD, List.getElem!_eq_getElem?_getD, List.getElem?_set_ne (fun e2 => e e2.symm)]
/-- One arc more. -/
theorem Kp.step {L : List (List Nat)} {D : List Bool} {k j m : Nat} {W R : List Nat} (h : Kp L D k j W R) (hk : k < L.length) (hd : D[k]! = false) (hw : wcnt L D k = 0) (hdone : ∀ q, q < L.length → D[q]! = true → wcnt L D q = 0) (hm : (L[k]!)[j]? = some m) (hml : m < L.length) :
    1 ≤ W[m]! ∧ m ∉ R ∧ (W[m]! - 1 = 0 → Kp L D k (j + 1) (W.set m (W[m]! - 1)) (m :: R)) ∧ (W[m]! - 1 ≠ 0 → Kp L D k (j + 1) (W.set m (W[m]! - 1)) R) := by
  have hmw : m < W.length := by rw [h.wl]; exact hml
  have hge : ((L[k]!).take (j + 1)).count m ≤ wcnt L D m := by
    rw [wcnt_done h.dl hk hd]
    have := List.Sublist.count_le (l₁ := (L[k]!).take (j + 1)) (l₂ := L[k]!) m (List.take_sublist _ _)
    omega
  have htk : (L[k]!).take (j + 1) = (L[k]!).take j ++ [m] := by rw [List.take_add_one, hm]; rfl
  have hc : ∀ q, ((L[k]!).take (j + 1)).count q = ((L[k]!).take j).count q + if q = m then 1 else 0 := fun q => by
    rw [htk, List.count_append]
    congr 1
    by_cases e : q = m
    · subst e; simp
    · rw [if_neg e]
      exact List.count_eq_zero.2 (by simp [e])
  have h1 := h.cnt m hml
  have h2 := hc m
  rw [if_pos rfl] at h2
  have hpos : 1 ≤ W[m]! := by omega
  have hmR : m ∉ R := fun hr => by
    have := ((h.rdy m).1 hr).2.2
    omega
  have hwpos : wcnt L D m ≠ 0 := by omega
  have hmk : m ≠ k := fun e => hwpos (by rw [e]; exact hw)
  have hmd : (D.set k true)[m]! = false := by
    rw [set_ne hmk]
    cases hq : D[m]! with
    | false => rfl
    | true => exact absurd (hdone m hml hq) hwpos
  have hcnt : ∀ q, q < L.length → (W.set m (W[m]! - 1))[q]! + ((L[k]!).take (j + 1)).count q = wcnt L D q := fun q hq => by
    rw [getW_set hmw, hc q]
    have := h.cnt q hq
    by_cases e : q = m
    · rw [if_pos e, if_pos e]
      rw [e] at this ⊢
      omega
    · rw [if_neg e, if_neg e]
      omega
  refine ⟨hpos, hmR, fun h0 => ⟨h.dl, by rw [List.length_set]; exact h.wl, hcnt, fun q => ?_, List.nodup_cons.2 ⟨hmR, h.nd⟩⟩, fun h0 => ⟨h.dl, by rw [List.length_set]; exact h.wl, hcnt, fun q => ?_, h.nd⟩⟩
  · rw [List.mem_cons, h.rdy q, getW_set hmw]
    by_cases e : q = m
    · subst e
      rw [if_pos rfl]
      exact ⟨fun _ => ⟨hml, hmd, h0⟩, fun _ => .inl rfl⟩
    · rw [if_neg e]
      exact ⟨fun q => q.resolve_left e, fun q => .inr q⟩
  · rw [h.rdy q, getW_set hmw]
    by_cases e : q = m
    · subst e
      rw [if_pos rfl]
      exact ⟨fun q => absurd q.2.2 (by omega), fun q => absurd q.2.2 h0⟩
    · rw [if_neg e]
end Go.Proofs.YtemkilffagjmcaaDoor
