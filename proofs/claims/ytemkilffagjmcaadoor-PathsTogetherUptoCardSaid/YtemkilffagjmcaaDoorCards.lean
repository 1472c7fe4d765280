/-
  DERIVED. GIVEN WITH THE SEED: THE CARDS: each row of YtemkilffagjmcaaDoorRows.lean that lists a variable, with what it lists TIED to the program's text (the seventh form; the later family's looks); each row that meets fmt, with fmt's text TOLD by the authors' own Lean function (tested against real Go, not proved from fmt's source: count such statements apart). THE CARD IS WHAT COUNTS. Prove the row's statement (the work); the ties are given (YtemkilffagjmcaaDoorTie.lean); close each card by the builder's one call (the guide's Derived/Test/ToyasCard.lean, 'card_holds'). Laid BY PROGRAM, IN A SANDBOX (cutbox-door.mjs). By AI agents, Wed Nov 11 2026. No macro, syntax, notation, axiom, sorry.
-/
import Derived.Test.YtemkilffagjmcaaDoorRows
import GoSem.ClaimSeven
namespace Go.Proofs.YtemkilffagjmcaaDoor
namespace Rows

/-- THE TIED CARD OF 'trellislaw9.PathsForward'. -/
def pathsForwardCard : Claim7 := { stood := { row := pathsForwardRow, standIns := [], harness := (true, "be9418e5ee3e2c5f1648f63a8101545e9282788cf114afce50317f4a987db301"), looks := false }, kinds := [], alts := [], laidByText := true, laidKinds := [.data], laidTests := true, laidLooks := .later }
def PathsForwardCardSaid : Prop := Claim7.holds Tryd.pinned (.plain (OpenSpec.ofChange pathsForwardSpec)) pathsForwardCard

/-- THE TIED CARD OF 'trellislaw9.PathsParts'. -/
def pathsPartsCard : Claim7 := { stood := { row := pathsPartsRow, standIns := [], harness := (true, "be9418e5ee3e2c5f1648f63a8101545e9282788cf114afce50317f4a987db301"), looks := false }, kinds := [], alts := [], laidByText := true, laidKinds := [.data], laidTests := true, laidLooks := .later }
def PathsPartsCardSaid : Prop := Claim7.holds Tryd.pinned (.plain (OpenSpec.ofChange pathsPartsSpec)) pathsPartsCard

/-- THE TIED CARD OF 'trellislaw9.PathsTogether'. -/
def pathsTogetherCard : Claim7 := { stood := { row := pathsTogetherRow, standIns := [], harness := (true, "be9418e5ee3e2c5f1648f63a8101545e9282788cf114afce50317f4a987db301"), looks := false }, kinds := [], alts := [], laidByText := true, laidKinds := [.data], laidTests := true, laidLooks := .later }
def PathsTogetherCardSaid : Prop := Claim7.holds Tryd.pinned (.plain (OpenSpec.ofChange pathsTogetherSpec)) pathsTogetherCard

/-- THE SECOND FORM's CARD OF 'trellislaw9.PathsForward'. -/
def pathsForwardUptoCard : Claim7 := { stood := { row := pathsForwardUptoRow, standIns := [], harness := (true, "be9418e5ee3e2c5f1648f63a8101545e9282788cf114afce50317f4a987db301"), looks := false }, kinds := [], alts := [], laidByText := true, laidKinds := [.data], laidTests := true, laidLooks := .later }
def PathsForwardUptoCardSaid : Prop := Claim7.holds Tryd.pinned (.plain (OpenSpec.upto pathsForwardSpec)) pathsForwardUptoCard

/-- THE SECOND FORM's CARD OF 'trellislaw9.PathsParts'. -/
def pathsPartsUptoCard : Claim7 := { stood := { row := pathsPartsUptoRow, standIns := [], harness := (true, "be9418e5ee3e2c5f1648f63a8101545e9282788cf114afce50317f4a987db301"), looks := false }, kinds := [], alts := [], laidByText := true, laidKinds := [.data], laidTests := true, laidLooks := .later }
def PathsPartsUptoCardSaid : Prop := Claim7.holds Tryd.pinned (.plain (OpenSpec.upto pathsPartsSpec)) pathsPartsUptoCard

/-- THE SECOND FORM's CARD OF 'trellislaw9.PathsTogether'. -/
def pathsTogetherUptoCard : Claim7 := { stood := { row := pathsTogetherUptoRow, standIns := [], harness := (true, "be9418e5ee3e2c5f1648f63a8101545e9282788cf114afce50317f4a987db301"), looks := false }, kinds := [], alts := [], laidByText := true, laidKinds := [.data], laidTests := true, laidLooks := .later }
def PathsTogetherUptoCardSaid : Prop := Claim7.holds Tryd.pinned (.plain (OpenSpec.upto pathsTogetherSpec)) pathsTogetherUptoCard
end Rows
end Go.Proofs.YtemkilffagjmcaaDoor
