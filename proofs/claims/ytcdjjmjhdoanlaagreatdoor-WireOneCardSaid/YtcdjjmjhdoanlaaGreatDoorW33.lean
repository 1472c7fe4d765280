/- Wire: the document's lists of numbers, read. -/
import Derived.Test.YtcdjjmjhdoanlaaGreatDoorW32
namespace Go.Proofs.YtcdjjmjhdoanlaaGreatDoor
open Go.RowKit
end Go.Proofs.YtcdjjmjhdoanlaaGreatDoor
