/- trellisref1.Valid: what it answers, kind by kind. -/
import Derived.Test.YthpflfkgbapbnaaGreatDoorItems
import Derived.Test.YthpflfkgbapbnaaGreatDoorUtf
namespace Go.Proofs.YthpflfkgbapbnaaGreatDoor
open Go.RowKit Go.PlainAid Go.Lib

theorem ret_b {x y : Bool} (h : x = y) : Ending.returned (.bool x) = .returned (.bool y) := by rw [h]
/-- A part of a complex number, as a Bool. -/
def partB (n : Int) : Bool := decide (-33554432 ≤ n) && decide (n ≤ 33554432)
/-- What a value is (P102). -/
def okV (k a b : Int) (s : ByteArray) : Bool :=
  if k = 0 then (a == 0) && (b == 0) && s.toList.isEmpty
  else if k = 1 then ((a == 0) || (a == 1)) && (b == 0) && s.toList.isEmpty
  else if k = 2 then (b == 0) && s.toList.isEmpty
  else if k = 3 then partB a && partB b && s.toList.isEmpty
  else if k = 4 then (a == 0) && (b == 0) && decide (s.size ≤ 32) && validD s.data.toList
  else if k = 5 ∨ k = 6 then (a != 0) && (b == 0) && s.toList.isEmpty
  else false
end Go.Proofs.YthpflfkgbapbnaaGreatDoor
