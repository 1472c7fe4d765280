/- int64. -/
import Derived.Test.YthmdjhfbhbheeaaGreatDoorBase
namespace Go.Proofs.YthmdjhfbhbheeaaGreatDoor
/-- An int64. -/
def I64 (n : Int) : Prop := -9223372036854775808 ≤ n ∧ n ≤ 9223372036854775807
end Go.Proofs.YthmdjhfbhbheeaaGreatDoor
