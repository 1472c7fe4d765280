/- What came in, opened: a slice of ids is no longer than its room. -/
import Derived.Test.YtcbjcienjolceabDoorPy4
namespace Go.Proofs.YtcbjcienjolceabDoor
open Go.ChangeShapes Go.WideShapes Go.ChangeAt Go.RowKit

theorem open_cap {H : Type} {enc : TypeId × Value → H} {w : World} {fuel : Nat} {y : Option Addr} {n c : Nat} {x : DataW H × List MemPlace} (h : trodA enc w fuel 25 [.slice y n c] = some x) : n ≤ c := by
  rcases Go.Deep.open_slice Tryd.underlying25 h with ⟨hc, rfl⟩ | ⟨a, len, cap, m, n', D, Pl, hc, _, hl, hm, rfl, rfl, hx⟩
  · simp at hc
    omega
  · simp at hc
    omega
theorem ids_len {w : World} {a : Option Addr} {n c : Nat} {l : List Int} (h : Ids w (.slice a n c) l) : n = l.length := by
  obtain ⟨_, _, e, -⟩ := h.at_
  simp only [Value.slice.injEq] at e
  exact e.2.1
end Go.Proofs.YtcbjcienjolceabDoor
