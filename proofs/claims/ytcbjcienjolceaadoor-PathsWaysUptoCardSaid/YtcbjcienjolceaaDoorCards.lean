/-
  DERIVED. GIVEN WITH THE SEED: THE CARDS: each row of YtcbjcienjolceaaDoorRows.lean that lists a variable, with what it lists TIED to the program's text (the seventh form; the later family's looks); each row that meets fmt, with fmt's text TOLD by the authors' own Lean function (tested against real Go, not proved from fmt's source: count such statements apart). THE CARD IS WHAT COUNTS. Prove the row's statement (the work); the ties are given (YtcbjcienjolceaaDoorTie.lean); close each card by the builder's one call (the guide's Derived/Test/ToyasCard.lean, 'card_holds'). Laid BY PROGRAM, IN A SANDBOX (cutbox-door.mjs). By AI agents, Wed Nov 11 2026. No macro, syntax, notation, axiom, sorry.
-/
import Derived.Test.YtcbjcienjolceaaDoorRows
import GoSem.ClaimSeven
namespace Go.Proofs.YtcbjcienjolceaaDoor
namespace Rows

/-- THE TIED CARD OF 'trellislaw9.PathsNear'. -/
def pathsNearCard : Claim7 := { stood := { row := pathsNearRow, standIns := [], harness := (true, "a0a06e5c94a2eb580fab4a38077bf6c1feb9898a9f528b31825817213b6049c2"), looks := false }, kinds := [], alts := [], laidByText := true, laidKinds := [.data], laidTests := true, laidLooks := .later }
def PathsNearCardSaid : Prop := Claim7.holds Tryd.pinned (.plain (OpenSpec.ofChange pathsNearSpec)) pathsNearCard

/-- THE TIED CARD OF 'trellislaw9.PathsLeast'. -/
def pathsLeastCard : Claim7 := { stood := { row := pathsLeastRow, standIns := [], harness := (true, "a0a06e5c94a2eb580fab4a38077bf6c1feb9898a9f528b31825817213b6049c2"), looks := false }, kinds := [], alts := [], laidByText := true, laidKinds := [.data], laidTests := true, laidLooks := .later }
def PathsLeastCardSaid : Prop := Claim7.holds Tryd.pinned (.plain (OpenSpec.ofChange pathsLeastSpec)) pathsLeastCard

/-- THE TIED CARD OF 'trellislaw9.PathsHops'. -/
def pathsHopsCard : Claim7 := { stood := { row := pathsHopsRow, standIns := [], harness := (true, "a0a06e5c94a2eb580fab4a38077bf6c1feb9898a9f528b31825817213b6049c2"), looks := false }, kinds := [], alts := [], laidByText := true, laidKinds := [.data], laidTests := true, laidLooks := .later }
def PathsHopsCardSaid : Prop := Claim7.holds Tryd.pinned (.plain (OpenSpec.ofChange pathsHopsSpec)) pathsHopsCard

/-- THE TIED CARD OF 'trellislaw9.PathsReaches'. -/
def pathsReachesCard : Claim7 := { stood := { row := pathsReachesRow, standIns := [], harness := (true, "a0a06e5c94a2eb580fab4a38077bf6c1feb9898a9f528b31825817213b6049c2"), looks := false }, kinds := [], alts := [], laidByText := true, laidKinds := [.data], laidTests := true, laidLooks := .later }
def PathsReachesCardSaid : Prop := Claim7.holds Tryd.pinned (.plain (OpenSpec.ofChange pathsReachesSpec)) pathsReachesCard

/-- THE TIED CARD OF 'trellislaw9.PathsWays'. -/
def pathsWaysCard : Claim7 := { stood := { row := pathsWaysRow, standIns := [], harness := (true, "a0a06e5c94a2eb580fab4a38077bf6c1feb9898a9f528b31825817213b6049c2"), looks := false }, kinds := [], alts := [], laidByText := true, laidKinds := [.data], laidTests := true, laidLooks := .later }
def PathsWaysCardSaid : Prop := Claim7.holds Tryd.pinned (.plain (OpenSpec.ofChange pathsWaysSpec)) pathsWaysCard

/-- THE TIED CARD OF 'trellislaw9.PathsForward'. -/
def pathsForwardCard : Claim7 := { stood := { row := pathsForwardRow, standIns := [], harness := (true, "a0a06e5c94a2eb580fab4a38077bf6c1feb9898a9f528b31825817213b6049c2"), looks := false }, kinds := [], alts := [], laidByText := true, laidKinds := [.data], laidTests := true, laidLooks := .later }
def PathsForwardCardSaid : Prop := Claim7.holds Tryd.pinned (.plain (OpenSpec.ofChange pathsForwardSpec)) pathsForwardCard

/-- THE SECOND FORM's CARD OF 'trellislaw9.PathsNear'. -/
def pathsNearUptoCard : Claim7 := { stood := { row := pathsNearUptoRow, standIns := [], harness := (true, "a0a06e5c94a2eb580fab4a38077bf6c1feb9898a9f528b31825817213b6049c2"), looks := false }, kinds := [], alts := [], laidByText := true, laidKinds := [.data], laidTests := true, laidLooks := .later }
def PathsNearUptoCardSaid : Prop := Claim7.holds Tryd.pinned (.plain (OpenSpec.upto pathsNearSpec)) pathsNearUptoCard

/-- THE SECOND FORM's CARD OF 'trellislaw9.PathsLeast'. -/
def pathsLeastUptoCard : Claim7 := { stood := { row := pathsLeastUptoRow, standIns := [], harness := (true, "a0a06e5c94a2eb580fab4a38077bf6c1feb9898a9f528b31825817213b6049c2"), looks := false }, kinds := [], alts := [], laidByText := true, laidKinds := [.data], laidTests := true, laidLooks := .later }
def PathsLeastUptoCardSaid : Prop := Claim7.holds Tryd.pinned (.plain (OpenSpec.upto pathsLeastSpec)) pathsLeastUptoCard

/-- THE SECOND FORM's CARD OF 'trellislaw9.PathsHops'. -/
def pathsHopsUptoCard : Claim7 := { stood := { row := pathsHopsUptoRow, standIns := [], harness := (true, "a0a06e5c94a2eb580fab4a38077bf6c1feb9898a9f528b31825817213b6049c2"), looks := false }, kinds := [], alts := [], laidByText := true, laidKinds := [.data], laidTests := true, laidLooks := .later }
def PathsHopsUptoCardSaid : Prop := Claim7.holds Tryd.pinned (.plain (OpenSpec.upto pathsHopsSpec)) pathsHopsUptoCard

/-- THE SECOND FORM's CARD OF 'trellislaw9.PathsReaches'. -/
def pathsReachesUptoCard : Claim7 := { stood := { row := pathsReachesUptoRow, standIns := [], harness := (true, "a0a06e5c94a2eb580fab4a38077bf6c1feb9898a9f528b31825817213b6049c2"), looks := false }, kinds := [], alts := [], laidByText := true, laidKinds := [.data], laidTests := true, laidLooks := .later }
def PathsReachesUptoCardSaid : Prop := Claim7.holds Tryd.pinned (.plain (OpenSpec.upto pathsReachesSpec)) pathsReachesUptoCard

/-- THE SECOND FORM's CARD OF 'trellislaw9.PathsWays'. -/
def pathsWaysUptoCard : Claim7 := { stood := { row := pathsWaysUptoRow, standIns := [], harness := (true, "a0a06e5c94a2eb580fab4a38077bf6c1feb9898a9f528b31825817213b6049c2"), looks := false }, kinds := [], alts := [], laidByText := true, laidKinds := [.data], laidTests := true, laidLooks := .later }
def PathsWaysUptoCardSaid : Prop := Claim7.holds Tryd.pinned (.plain (OpenSpec.upto pathsWaysSpec)) pathsWaysUptoCard

/-- THE SECOND FORM's CARD OF 'trellislaw9.PathsForward'. -/
def pathsForwardUptoCard : Claim7 := { stood := { row := pathsForwardUptoRow, standIns := [], harness := (true, "a0a06e5c94a2eb580fab4a38077bf6c1feb9898a9f528b31825817213b6049c2"), looks := false }, kinds := [], alts := [], laidByText := true, laidKinds := [.data], laidTests := true, laidLooks := .later }
def PathsForwardUptoCardSaid : Prop := Claim7.holds Tryd.pinned (.plain (OpenSpec.upto pathsForwardSpec)) pathsForwardUptoCard
end Rows
end Go.Proofs.YtcbjcienjolceaaDoor
