/-
  DERIVED. GIVEN WITH THE SEED: THE CARDS: each row of YtcbjcienjolceabDoorRows.lean that lists a variable, with what it lists TIED to the program's text (the seventh form; the later family's looks); each row that meets fmt, with fmt's text TOLD by the authors' own Lean function (tested against real Go, not proved from fmt's source: count such statements apart). THE CARD IS WHAT COUNTS. Prove the row's statement (the work); the ties are given (YtcbjcienjolceabDoorTie.lean); close each card by the builder's one call (the guide's Derived/Test/ToyasCard.lean, 'card_holds'). Laid BY PROGRAM, IN A SANDBOX (cutbox-door.mjs). By AI agents, Wed Nov 11 2026. No macro, syntax, notation, axiom, sorry.
-/
import Derived.Test.YtcbjcienjolceabDoorRows
import GoSem.ClaimSeven
namespace Go.Proofs.YtcbjcienjolceabDoor
namespace Rows

/-- THE TIED CARD OF 'trellislaw9.PathsParts'. -/
def pathsPartsCard : Claim7 := { stood := { row := pathsPartsRow, standIns := [], harness := (true, "a0ab633f223cabccd3fa5a9c95be7732c960ee7447e601f2ac93a1511781a888"), looks := false }, kinds := [], alts := [], laidByText := true, laidKinds := [.data], laidTests := true, laidLooks := .later }
def PathsPartsCardSaid : Prop := Claim7.holds Tryd.pinned (.plain (OpenSpec.ofChange pathsPartsSpec)) pathsPartsCard

/-- THE TIED CARD OF 'trellislaw9.PathsTogether'. -/
def pathsTogetherCard : Claim7 := { stood := { row := pathsTogetherRow, standIns := [], harness := (true, "a0ab633f223cabccd3fa5a9c95be7732c960ee7447e601f2ac93a1511781a888"), looks := false }, kinds := [], alts := [], laidByText := true, laidKinds := [.data], laidTests := true, laidLooks := .later }
def PathsTogetherCardSaid : Prop := Claim7.holds Tryd.pinned (.plain (OpenSpec.ofChange pathsTogetherSpec)) pathsTogetherCard

/-- THE TIED CARD OF 'trellislaw9.PathsOrders'. -/
def pathsOrdersCard : Claim7 := { stood := { row := pathsOrdersRow, standIns := [], harness := (true, "a0ab633f223cabccd3fa5a9c95be7732c960ee7447e601f2ac93a1511781a888"), looks := false }, kinds := [], alts := [], laidByText := true, laidKinds := [.data], laidTests := true, laidLooks := .later }
def PathsOrdersCardSaid : Prop := Claim7.holds Tryd.pinned (.plain (OpenSpec.ofChange pathsOrdersSpec)) pathsOrdersCard

/-- THE TIED CARD OF 'trellislaw9.PathsNone'. -/
def pathsNoneCard : Claim7 := { stood := { row := pathsNoneRow, standIns := [], harness := (true, "a0ab633f223cabccd3fa5a9c95be7732c960ee7447e601f2ac93a1511781a888"), looks := false }, kinds := [], alts := [], laidByText := true, laidKinds := [.data], laidTests := true, laidLooks := .later }
def PathsNoneCardSaid : Prop := Claim7.holds Tryd.pinned (.plain (OpenSpec.ofChange pathsNoneSpec)) pathsNoneCard

/-- THE SECOND FORM's CARD OF 'trellislaw9.PathsParts'. -/
def pathsPartsUptoCard : Claim7 := { stood := { row := pathsPartsUptoRow, standIns := [], harness := (true, "a0ab633f223cabccd3fa5a9c95be7732c960ee7447e601f2ac93a1511781a888"), looks := false }, kinds := [], alts := [], laidByText := true, laidKinds := [.data], laidTests := true, laidLooks := .later }
def PathsPartsUptoCardSaid : Prop := Claim7.holds Tryd.pinned (.plain (OpenSpec.upto pathsPartsSpec)) pathsPartsUptoCard

/-- THE SECOND FORM's CARD OF 'trellislaw9.PathsTogether'. -/
def pathsTogetherUptoCard : Claim7 := { stood := { row := pathsTogetherUptoRow, standIns := [], harness := (true, "a0ab633f223cabccd3fa5a9c95be7732c960ee7447e601f2ac93a1511781a888"), looks := false }, kinds := [], alts := [], laidByText := true, laidKinds := [.data], laidTests := true, laidLooks := .later }
def PathsTogetherUptoCardSaid : Prop := Claim7.holds Tryd.pinned (.plain (OpenSpec.upto pathsTogetherSpec)) pathsTogetherUptoCard

/-- THE SECOND FORM's CARD OF 'trellislaw9.PathsOrders'. -/
def pathsOrdersUptoCard : Claim7 := { stood := { row := pathsOrdersUptoRow, standIns := [], harness := (true, "a0ab633f223cabccd3fa5a9c95be7732c960ee7447e601f2ac93a1511781a888"), looks := false }, kinds := [], alts := [], laidByText := true, laidKinds := [.data], laidTests := true, laidLooks := .later }
def PathsOrdersUptoCardSaid : Prop := Claim7.holds Tryd.pinned (.plain (OpenSpec.upto pathsOrdersSpec)) pathsOrdersUptoCard

/-- THE SECOND FORM's CARD OF 'trellislaw9.PathsNone'. -/
def pathsNoneUptoCard : Claim7 := { stood := { row := pathsNoneUptoRow, standIns := [], harness := (true, "a0ab633f223cabccd3fa5a9c95be7732c960ee7447e601f2ac93a1511781a888"), looks := false }, kinds := [], alts := [], laidByText := true, laidKinds := [.data], laidTests := true, laidLooks := .later }
def PathsNoneUptoCardSaid : Prop := Claim7.holds Tryd.pinned (.plain (OpenSpec.upto pathsNoneSpec)) pathsNoneUptoCard
end Rows
end Go.Proofs.YtcbjcienjolceabDoor
