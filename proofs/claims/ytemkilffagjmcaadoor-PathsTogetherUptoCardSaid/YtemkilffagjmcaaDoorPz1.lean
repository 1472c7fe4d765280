/- Paths: the keys of a map of numbers. -/
import Derived.Test.YtemkilffagjmcaaDoorPjM
import Derived.Lib.SlKeysI
namespace Go.Proofs.YtemkilffagjmcaaDoor
open Go.RowKit Go.Maps

theorem Mp.keysI {w : World} {b : Nat} {g : Int → Option Value} (h : Mp (fun n : Int => I n) 2 w b g) : ∃ (n : Nat) (D : DataW Value), w.ownsMap Tryd.prog 2 hE b n D ∧ (intKeys D).Nodup ∧ (∀ a, a ∈ intKeys D ↔ R64 a ∧ g a ≠ none) ∧ Maps.size D = (intKeys D).length := by
  obtain ⟨n, D, h1, h2⟩ := h
  have hk := Tryd.underlying2
  obtain ⟨es, hD, hpw, _⟩ := h1.entries kyI.keyed
  obtain ⟨es', hD', hko⟩ := h1.keysOf
  obtain rfl : es = es' := by rw [hD] at hD'; simpa using hD'
  have hki : ∀ p ∈ es, ∃ x, p.1 = .int .i64 x := fun p hp => by obtain ⟨v, hv⟩ := hko p hp; obtain ⟨x, _, hx, _⟩ := Maps.keyOf_i64 hk hv; exact ⟨x, hx⟩
  refine ⟨n, D, h1, ?_, fun a => ?_, ?_⟩
  · rw [hD]
    show (es.map fun p => intOf p.1).Nodup
    refine List.pairwise_map.2 (hpw.imp_of_mem fun {p q} hp' hq' hne e => hne ?_)
    obtain ⟨a, ha⟩ := hki p hp'
    obtain ⟨b, hb⟩ := hki q hq'
    rw [ha, hb] at e ⊢
    exact congrArg _ e
  · have hmem : a ∈ intKeys D ↔ Maps.has D (.int .i64 a) = true := by
      rw [hD, has_eq, List.any_eq_true]
      show a ∈ es.map (fun p => intOf p.1) ↔ _
      rw [List.mem_map]
      constructor
      · rintro ⟨p, hp', rfl⟩
        obtain ⟨x, hx⟩ := hki p hp'
        exact ⟨p, hp', by rw [hx]; simp [Lit.sameKey, intOf]⟩
      · rintro ⟨p, hp', hs⟩
        obtain ⟨x, hx⟩ := hki p hp'
        rw [hx] at hs
        exact ⟨p, hp', by rw [hx]; simpa [Lit.sameKey, intOf] using hs⟩
    constructor
    · intro ha
      have hr : R64 a := wf_R64.1 (intKeys_wf h1 hk a ha)
      refine ⟨hr, fun e => ?_⟩
      have h3 := h2 a _ (keyOf_int_mk hk (wf_R64.2 hr))
      have h4 := hmem.1 ha
      rw [getH_has h1, h3, e] at h4
      cases h4
    · rintro ⟨hr, hg⟩
      rw [hmem, getH_has h1, h2 a _ (keyOf_int_mk hk (wf_R64.2 hr))]
      cases hv : g a with
      | none => exact absurd hv hg
      | some v => rfl
  · rw [hD]
    simp [intKeys, size_eq]
end Go.Proofs.YtemkilffagjmcaaDoor
