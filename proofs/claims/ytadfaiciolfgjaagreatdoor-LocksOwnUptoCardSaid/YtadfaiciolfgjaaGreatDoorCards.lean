/-
  DERIVED. GIVEN WITH THE SEED: THE CARDS: each row of YtadfaiciolfgjaaGreatDoorRows.lean that lists a variable, with what it lists TIED to the program's text (the seventh form; the later family's looks); each row that meets fmt, with fmt's text TOLD by the authors' own Lean function (tested against real Go, not proved from fmt's source: count such statements apart). THE CARD IS WHAT COUNTS. Prove the row's statement (the work); the ties are given (YtadfaiciolfgjaaGreatDoorTie.lean); close each card by the builder's one call (the guide's Derived/Test/ToyasCard.lean, 'card_holds'). Laid BY PROGRAM, IN A SANDBOX (cutbox-door.mjs). By AI agents, Wed Nov 11 2026. No macro, syntax, notation, axiom, sorry.
-/
import Derived.Test.YtadfaiciolfgjaaGreatDoorRows
import GoSem.ClaimSeven
namespace Go.Proofs.YtadfaiciolfgjaaGreatDoor
namespace Rows

/-- THE TIED CARD OF 'trellislaw8.LocksOwn'. -/
def locksOwnCard : Claim7 := { stood := { row := locksOwnRow, standIns := [], harness := (true, "9439c6fc48daae08d2f058390435fd59803bd129a2faf8f25c290044ec935cf8"), looks := false }, kinds := [], alts := [], laidByText := true, laidKinds := [.data, .data], laidTests := true, laidLooks := .later }
def LocksOwnCardSaid : Prop := Claim7.holds Tryz.pinned (.plain (OpenSpec.ofChange locksOwnSpec)) locksOwnCard

/-- THE SECOND FORM's CARD OF 'trellislaw8.LocksOwn'. -/
def locksOwnUptoCard : Claim7 := { stood := { row := locksOwnUptoRow, standIns := [], harness := (true, "9439c6fc48daae08d2f058390435fd59803bd129a2faf8f25c290044ec935cf8"), looks := false }, kinds := [], alts := [], laidByText := true, laidKinds := [.data, .data], laidTests := true, laidLooks := .later }
def LocksOwnUptoCardSaid : Prop := Claim7.holds Tryz.pinned (.plain (OpenSpec.upto locksOwnSpec)) locksOwnUptoCard
end Rows
end Go.Proofs.YtadfaiciolfgjaaGreatDoor
