/- What came in, opened: a slice of ids is no longer than its room. -/
import Derived.Test.YtemkilffagjmcaaDoorPlO
import Derived.Test.YtemkilffagjmcaaDoorPy2
namespace Go.Proofs.YtemkilffagjmcaaDoor
section
open Go.ChangeShapes Go.WideShapes Go.ChangeAt Go.RowKit

section
variable {H : Type} {enc : TypeId × Value → H} {w : World}
theorem open_ids {fuel : Nat} {c : Value} {x : DataW H × List MemPlace} (h : trodA enc w fuel 23 [c] = some x) : ∃ l : List Int, l.length ≤ Rows.uptoBulk x.1 ∧ Ids w c l := by
  rcases Go.Deep.open_slice Tryd.underlying23 h with ⟨hc, rfl⟩ | ⟨a, len, cap, m, n, D, Pl, hc, _, hl, hm, rfl, rfl, hx⟩
  · obtain rfl : c = .slice none 0 0 := by simpa using hc
    exact ⟨[], Nat.zero_le _, ⟨none, 0, rfl, fun _ => rfl, .inl rfl⟩, fun x hx => by simp at hx⟩
  · have each : ∀ i, i < m → ∃ e : Int, w.cell? (a.add i) = some (I e) ∧ R64 e := by
      intro i hi
      obtain ⟨cs', h1, h2⟩ := hx i hi
      obtain ⟨q, rfl, _, wq⟩ := DataW.trod_int Tryd.underlying2 h2
      rw [cells_i] at h1
      obtain ⟨_, _, hcell⟩ := World.cells?_some h1
      have h3 := hcell 0 (by decide)
      rw [Go.Deep.add_add, Nat.mul_one, Nat.add_zero] at h3
      exact ⟨q, h3, r64 wq⟩
    obtain ⟨E, hE⟩ := Go.Deep.choose_lt each
    obtain rfl : c = .slice (some a) len m := by simpa using hc
    refine ⟨(List.range len).map E, ?_, ?_, fun e he => ?_⟩
    · have := bulk_slice ((List.range len).map D) ((List.range (m - len)).map fun j => D (len + j))
      simpa using this
    · refine ⟨some a, m, by simp, fun q => (by cases q), ?_⟩
      by_cases h0 : len = 0
      · exact .inl (by simp [h0])
      · obtain ⟨b, o, rfl⟩ := spot_of (by have := (hE 0 (by omega)).1; exact this)
        refine .inr ⟨b, o, rfl, fun i hi => ?_⟩
        have hil : i < len := by simpa using hi
        have := (hE i (by omega)).1
        rw [Addr.add_mid] at this
        rw [this]
        simp [hil]
    · obtain ⟨i, hi, rfl⟩ := List.mem_map.1 he
      exact (hE i (by have := List.mem_range.1 hi; omega)).2
end
end
open Go.ChangeShapes Go.WideShapes Go.ChangeAt Go.RowKit

theorem open_cap {H : Type} {enc : TypeId × Value → H} {w : World} {fuel : Nat} {y : Option Addr} {n c : Nat} {x : DataW H × List MemPlace} (h : trodA enc w fuel 23 [.slice y n c] = some x) : n ≤ c := by
  rcases Go.Deep.open_slice Tryd.underlying23 h with ⟨hc, rfl⟩ | ⟨a, len, cap, m, n', D, Pl, hc, _, hl, hm, rfl, rfl, hx⟩
  · simp at hc
    omega
  · simp at hc
    omega
theorem ids_len {w : World} {a : Option Addr} {n c : Nat} {l : List Int} (h : Ids w (.slice a n c) l) : n = l.length := by
  obtain ⟨_, _, e, -⟩ := h.at_
  simp only [Value.slice.injEq] at e
  exact e.2.1
end Go.Proofs.YtemkilffagjmcaaDoor
