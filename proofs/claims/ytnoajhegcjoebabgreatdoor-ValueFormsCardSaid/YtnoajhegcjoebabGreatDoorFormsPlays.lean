/- plays at the kind of ValueForms. -/
import Derived.Test.YtnoajhegcjoebabGreatDoorScriptOpen
namespace Go.Proofs.YtnoajhegcjoebabGreatDoor
open Go.RowKit
theorem forms_plays (W : World) (hT : Tabs W) (e : Ent) (h : EntOk W e) (h1 : 1 ≤ e.kind) (h2 : e.kind ≤ 1) (w' : World) (g : G W w') : Calls Tryz.prog 10 #[e.V] w' fun r w'' => r = .returned (.bool true) ∧ G w' w'' :=
  plays_1 e (by omega) (by have := h.s; unfold reachBytes at this; omega) w' (hT.G g)
end Go.Proofs.YtnoajhegcjoebabGreatDoor
