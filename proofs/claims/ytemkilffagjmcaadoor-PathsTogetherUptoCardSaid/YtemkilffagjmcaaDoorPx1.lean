/- Paths: what an order is, as a thing of thought. -/
import Derived.Test.YtemkilffagjmcaaDoorPz17
namespace Go.Proofs.YtemkilffagjmcaaDoor

/-- What is known of the order while it is being made. -/
structure Fw (L : List (List Nat)) (D : List Bool) (O : List Nat) : Prop where
  len : D.length = L.length
  don : ∀ k, k < L.length → (D[k]! = true ↔ k ∈ O)
  inn : ∀ k ∈ O, k < L.length
  nd : O.Nodup
  fw : ∀ a b, a ≤ b → b < O.length → O[a]! ∉ L[O[b]!]!
  st : ∀ k ∈ O, ∀ i, i < L.length → D[i]! = false → k ∉ L[i]!
  cnt : D.count false + O.length = L.length
theorem Fw.start (L : List (List Nat)) : Fw L (List.replicate L.length false) [] where
  len := List.length_replicate
  don k hk := by rw [Hp.get_of (by rw [List.length_replicate]; exact hk)]; simp
  inn k hk := by simp at hk
  nd := List.nodup_nil
  fw a b _ hb := by simp at hb
  st k hk := by simp at hk
  cnt := by simp
theorem nxtO_is {L : List (List Nat)} {D : List Bool} {k : Nat} (h : nxtO L D = some k) : k < L.length ∧ D[k]! = false ∧ freeB L D k = true := by
  unfold nxtO at h
  have h1 := List.mem_of_find?_eq_some h
  have h2 := List.find?_some h
  simp only [Bool.and_eq_true, Bool.not_eq_true'] at h2
  exact ⟨List.mem_range.1 h1, h2.1, h2.2⟩
theorem nxtO_no {L : List (List Nat)} {D : List Bool} (h : nxtO L D = none) : ∀ k, k < L.length → D[k]! = false → freeB L D k = false := fun k hk hd => by
  unfold nxtO at h
  rw [List.find?_eq_none] at h
  have := h k (List.mem_range.2 hk)
  simp only [hd, Bool.not_false, Bool.true_and, Bool.not_eq_true] at this
  exact this
theorem app_get {O : List Nat} {k b : Nat} (h : b < (O ++ [k]).length) : (O ++ [k])[b]! = if b = O.length then k else O[b]! := by
  rw [Hp.get_of h]
  have hl : b < O.length + 1 := by simpa using h
  split
  · rename_i e
    subst e
    simp
  · rename_i e
    have hb : b < O.length := by omega
    rw [Hp.get_of hb, List.getElem_append_left hb]
theorem Fw.step {L : List (List Nat)} {D : List Bool} {O : List Nat} (h : Fw L D O) {k : Nat} (hk : nxtO L D = some k) : Fw L (D.set k true) (O ++ [k]) := by
  obtain ⟨h1, h2, h3⟩ := nxtO_is hk
  rw [freeB_iff] at h3
  have hkl : k < D.length := by rw [h.len]; exact h1
  have hs : ∀ q, (D.set k true)[q]! = if q = k then true else D[q]! := fun q => Hp.get_set _ _ _ _ hkl
  have hno : k ∉ O := fun q => by
    have := (h.don k h1).2 q
    rw [h2] at this
    cases this
  refine ⟨by rw [List.length_set]; exact h.len, fun q hq => ?_, fun q hq => ?_, ?_, fun a b hab hb => ?_, fun q hq i hi hd => ?_, ?_⟩
  · rw [hs, List.mem_append, List.mem_singleton]
    split
    · rename_i e
      exact ⟨fun _ => .inr e, fun _ => rfl⟩
    · rename_i e
      rw [h.don q hq]
      exact ⟨.inl, fun r => r.resolve_right e⟩
  · rw [List.mem_append, List.mem_singleton] at hq
    rcases hq with hq | rfl
    · exact h.inn q hq
    · exact h1
  · rw [List.nodup_append]
    refine ⟨h.nd, by simp, fun a ha b hb => ?_⟩
    simp at hb
    subst hb
    exact fun e => hno (e ▸ ha)
  · have hl : b < O.length + 1 := by simpa using hb
    rw [app_get hb, app_get (Nat.lt_of_le_of_lt hab hb)]
    by_cases eb : b = O.length
    · rw [if_pos eb]
      by_cases ea : a = O.length
      · rw [if_pos ea]
        exact h3 k h1 h2
      · rw [if_neg ea]
        have ha : a < O.length := by omega
        refine h.st _ ?_ k h1 h2
        rw [Hp.get_of ha]
        exact List.getElem_mem ha
    · rw [if_neg eb, if_neg (by omega)]
      exact h.fw a b hab (by omega)
  · rw [hs] at hd
    split at hd
    · cases hd
    · rw [List.mem_append, List.mem_singleton] at hq
      rcases hq with hq | rfl
      · exact h.st q hq i hi hd
      · exact h3 i hi hd
  · have hc := h.cnt
    have hd : D[k] = false := by rw [← Hp.get_of hkl]; exact h2
    have hm : 0 < D.count false := List.count_pos_iff.2 (hd ▸ List.getElem_mem hkl)
    rw [List.count_set hkl, hd, List.length_append]
    simp
    omega
theorem ordF_fw (L : List (List Nat)) : ∀ (f : Nat) (D : List Bool) (O : List Nat), Fw L D O → O.length + f = L.length → ∃ D', Fw L D' (ordF L f D O).1 ∧ ((ordF L f D O).2 = true → (ordF L f D O).1.length = L.length) ∧ ((ordF L f D O).2 = false → nxtO L D' = none ∧ (ordF L f D O).1.length < L.length)
  | 0, D, O, h, hf => ⟨D, by simpa [ordF] using h, fun _ => by simpa [ordF] using hf, fun q => by simp [ordF] at q⟩
  | f + 1, D, O, h, hf => by
    cases hk : nxtO L D with
    | none =>
      have e : ordF L (f + 1) D O = (O, false) := by simp only [ordF, hk]
      rw [e]
      exact ⟨D, h, fun q => (by cases q), fun _ => ⟨hk, by show O.length < L.length; omega⟩⟩
    | some k =>
      have e : ordF L (f + 1) D O = ordF L f (D.set k true) (O ++ [k]) := by simp only [ordF, hk]
      rw [e]
      exact ordF_fw L f _ _ (h.step hk) (by rw [List.length_append]; simp; omega)
theorem Fw.all {L : List (List Nat)} {D : List Bool} {O : List Nat} (h : Fw L D O) (hl : O.length = L.length) (k : Nat) (hk : k < L.length) : k ∈ O := by
  have hc := h.cnt
  have h0 : D.count false = 0 := by omega
  rw [List.count_eq_zero] at h0
  have hkl : k < D.length := by rw [h.len]; exact hk
  refine (h.don k hk).1 ?_
  rw [Hp.get_of hkl]
  cases e : D[k] with
  | true => rfl
  | false => exact absurd (e ▸ List.getElem_mem hkl) h0
theorem Fw.some_ {L : List (List Nat)} {D : List Bool} {O : List Nat} (h : Fw L D O) (hl : O.length < L.length) : ∃ k, k < L.length ∧ D[k]! = false := by
  have hc := h.cnt
  have h0 : 0 < D.count false := by omega
  rw [List.count_pos_iff] at h0
  obtain ⟨k, hk, e⟩ := List.getElem_of_mem h0
  exact ⟨k, by rw [← h.len]; exact hk, by rw [Hp.get_of hk]; exact e⟩
/-- An arc inside the piece, by its places. -/
theorem insL_mem {ids : List Int} {l : List Ar} {k : Nat} : k ∈ insL (atI ids) l ↔ ∃ a ∈ l, atI ids a.2.1 = some k := by
  unfold insL
  rw [List.mem_filterMap]
theorem LL_at {rs : List Nr} {tail : Bool} {ids : List Int} {i : Nat} (hi : i < ids.length) : (ids.map fun id => insL (atI ids) (netOf rs tail id).1)[i]! = insL (atI ids) (netOf rs tail ids[i]!).1 := by
  rw [Hp.get_of (by rw [List.length_map]; exact hi), List.getElem_map, Hp.get_of hi]
/-- Arcs that go round: each of them is led to from one of them. -/
def Rng (rs : List Nr) (tail : Bool) (U : Int → Prop) : Prop := ∀ u, U u → ∃ u', U u' ∧ ∃ a ∈ (netOf rs tail u').1, a.2.1 = u
/-- What Order says in a net without errors, of few nodes. -/
theorem OrdR.says {rs : List Nr} {tail : Bool} {ids out : List Int} {ok : Bool} {code : Int} {asked : List Int} (h : OrdR rs tail ids out ok code asked) (hids : ids.Pairwise (· < ·)) (hl : ids.length ≤ 4096) (h0 : ∀ id, (netOf rs tail id).2 = 0) :
    code = 0 ∧ (ok = true → out.Nodup ∧ (∀ x, x ∈ out ↔ x ∈ ids) ∧ ∀ (a b : Nat) x y, a ≤ b → out[a]? = some x → out[b]? = some y → ∀ r ∈ (netOf rs tail y).1, r.2.1 ≠ x) ∧ (ok = false → out = [] ∧ ∃ U : Int → Prop, Rng rs tail U ∧ (∀ u, U u → u ∈ ids) ∧ ∃ u, U u) := by
  rcases h with ⟨a1, -⟩ | ⟨a1, k, id, a2, a3, -⟩ | ⟨a1, a2, rfl, -, O, a3, a4, a5⟩
  · omega
  · exact absurd (h0 id) a3
  · obtain ⟨L, hL⟩ : ∃ L, L = ids.map fun id => insL (atI ids) (netOf rs tail id).1 := ⟨_, rfl⟩
    have hLl : L.length = ids.length := by rw [hL, List.length_map]
    rw [← hL, ← hLl] at a3
    obtain ⟨D, hfw, ht, hf⟩ := ordF_fw L L.length _ [] (Fw.start L) (by simp)
    rw [a3] at hfw ht hf
    refine ⟨rfl, fun q => ?_, fun q => ⟨a5 q, ?_⟩⟩
    · rw [a4 q]
      have hgi : ∀ i j, i < ids.length → j < ids.length → ids[i]! = ids[j]! → i = j := fun i j hi hj e => by
        rw [Hp.get_of hi, Hp.get_of hj] at e
        rw [List.pairwise_iff_getElem] at hids
        rcases Nat.lt_trichotomy i j with r | r | r
        · have := hids i j hi hj r; omega
        · exact r
        · have := hids j i hj hi r; omega
      refine ⟨?_, fun x => ⟨fun hx => ?_, fun hx => ?_⟩, fun a b x y hab hx hy r hr e => ?_⟩
      · refine List.nodup_iff_pairwise_ne.2 ?_
        rw [List.pairwise_map]
        have hn := List.nodup_iff_pairwise_ne.1 hfw.nd
        refine List.Pairwise.imp_of_mem ?_ hn
        intro i j hi hj hne e
        exact hne (hgi i j (by rw [← hLl]; exact hfw.inn i hi) (by rw [← hLl]; exact hfw.inn j hj) e)
      · obtain ⟨k, hk, rfl⟩ := List.mem_map.1 hx
        have := hfw.inn k hk
        rw [Hp.get_of (by omega)]
        exact List.getElem_mem _
      · obtain ⟨k, hk, e⟩ := List.getElem_of_mem hx
        refine List.mem_map.2 ⟨k, hfw.all (ht q) k (by omega), ?_⟩
        rw [Hp.get_of hk]
        exact e
      · rw [List.getElem?_map, Option.map_eq_some_iff] at hx hy
        obtain ⟨i, hi, rfl⟩ := hx
        obtain ⟨j, hj, rfl⟩ := hy
        have hbl : b < O.length := (List.getElem?_eq_some_iff.1 hj).1
        have hi2 := hfw.inn i (List.mem_of_getElem? hi)
        have hj2 := hfw.inn j (List.mem_of_getElem? hj)
        have := hfw.fw a b hab hbl
        have ea : O[a]! = i := by simp [hi]
        have eb : O[b]! = j := by simp [hj]
        rw [ea, eb, hL, LL_at (by omega)] at this
        refine this (insL_mem.2 ⟨r, hr, ?_⟩)
        rw [e]
        refine atI_get hids ?_
        rw [Hp.get_of (by omega)]
        exact List.getElem?_eq_getElem _
    · obtain ⟨hno, hlt⟩ := hf q
      refine ⟨fun u => ∃ k, k < L.length ∧ D[k]! = false ∧ ids[k]! = u, fun u hu => ?_, fun u hu => ?_, ?_⟩
      · obtain ⟨k, hk, hd, rfl⟩ := hu
        have hfr := nxtO_no hno k hk hd
        have : ¬ ∀ i, i < L.length → D[i]! = false → k ∉ L[i]! := fun hall => by
          rw [freeB_iff.2 hall] at hfr
          cases hfr
        simp only [Classical.not_forall] at this
        obtain ⟨i, hi, hdi, hki⟩ := this
        have hki := Classical.not_not.1 hki
        rw [hL, LL_at (by omega)] at hki
        obtain ⟨a, ha, e⟩ := insL_mem.1 hki
        refine ⟨ids[i]!, ⟨i, hi, hdi, rfl⟩, a, ha, ?_⟩
        have := atI_some e
        simp [this]
      · obtain ⟨k, hk, hd, rfl⟩ := hu
        rw [Hp.get_of (by omega)]
        exact List.getElem_mem _
      · obtain ⟨k, hk, hd⟩ := hfw.some_ hlt
        exact ⟨_, k, hk, hd, rfl⟩
end Go.Proofs.YtemkilffagjmcaaDoor
