/- int64. -/
import Derived.Test.YtnoajhegcjoebabGreatDoorBase
namespace Go.Proofs.YtnoajhegcjoebabGreatDoor
/-- An int64. -/
def I64 (n : Int) : Prop := -9223372036854775808 ≤ n ∧ n ≤ 9223372036854775807
end Go.Proofs.YtnoajhegcjoebabGreatDoor
