/- trellisref1.bytes, joined. -/
import Derived.Test.YtdiikofgilplkaaDoorEnc4
namespace Go.Proofs.YtdiikofgilplkaaDoor
open Go.RowKit Go.Shelf Go.PlainAid Go.Lib
theorem cell_ltE {w : World} {b o : Nat} {u : Value} (h : w.cell? ⟨b, o, none⟩ = some u) : b < w.heap.size := Nat.lt_of_not_le fun hle => by
  have : w.heap[b]? = none := Array.getElem?_eq_none hle
  simp [World.cell?, this] at h
/-- A digit as it stands in the bytes. -/
def flipB (n : Int) (x : Nat) : Nat := if n < 0 then 255 - x else x
theorem lowB_eq (n : Int) : lowB n = (digs n.natAbs).map (flipB n) := rfl
end Go.Proofs.YtdiikofgilplkaaDoor
