/- Wire: the document's GetRequest. -/
import Derived.Test.YtcdjjmjhdoanlaaGreatDoorW34
import Derived.Test.YtcdjjmjhdoanlaaGreatDoorW17
namespace Go.Proofs.YtcdjjmjhdoanlaaGreatDoor
open Go.RowKit
theorem G.far {w w4 w5 : World} (hg : Go.Proofs.YtcdjjmjhdoanlaaGreatDoor.G w w4) (hc : Chg (fun k => w.heap.size ≤ k) w4 w5) : Go.Proofs.YtcdjjmjhdoanlaaGreatDoor.G w w5 :=
  ⟨hc.os.trans hg.os, hc.tape.trans hg.tape, hc.output.trans hg.output, Nat.le_trans hg.size hc.size, fun i hi => (hc.block i (Nat.lt_of_lt_of_le hi hg.size) (by omega)).trans (hg.block i hi)⟩
theorem pq_rest (k : Int) (s : Option (List Nat)) : (((((s.bind (pl pz)).map (·.2)).bind pt).map (·.2)).bind pb).map (·.2) = (s.bind (pq k)).map (·.2) := by
  rw [pq_eq]
  cases s.bind (pl pz) with
  | none => rfl
  | some x =>
    show (((pt x.2).map (·.2)).bind pb).map (·.2) = ((pt x.2).bind fun y => ((some y.2).bind pb).bind fun z => some ((⟨k, x.1, y.1, z.1⟩ : Rq), z.2)).map (·.2)
    cases pt x.2 with
    | none => rfl
    | some y =>
      show (pb y.2).map (·.2) = ((pb y.2).bind fun z => some ((⟨k, x.1, y.1, z.1⟩ : Rq), z.2)).map (·.2)
      cases pb y.2 with
      | none => rfl
      | some z => rfl
end Go.Proofs.YtcdjjmjhdoanlaaGreatDoor
