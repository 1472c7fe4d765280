/- Calls over floats that are whole numbers. -/
import Derived.Test.YtifioikdhfhljaaGreatDoorBase
import Derived.Test.YtifioikdhfhljaaGreatDoorFl
namespace Go.Proofs.YtifioikdhfhljaaGreatDoor
open Go.RowKit

abbrev fl (n : Int) : Nat := floatOfInt .f64 n
/-- The bits with the sign struck, behind a name. -/
def strike (x : Nat) : Nat := x % 9223372036854775808
end Go.Proofs.YtifioikdhfhljaaGreatDoor
