/-
  DERIVED. GIVEN WITH THE SEED: THE CARDS: each row of YtfeiocahlhklaaaDoorRows.lean that lists a variable, with what it lists TIED to the program's text (the seventh form; the later family's looks); each row that meets fmt, with fmt's text TOLD by the authors' own Lean function (tested against real Go, not proved from fmt's source: count such statements apart). THE CARD IS WHAT COUNTS. Prove the row's statement (the work); the ties are given (YtfeiocahlhklaaaDoorTie.lean); close each card by the builder's one call (the guide's Derived/Test/ToyasCard.lean, 'card_holds'). Laid BY PROGRAM, IN A SANDBOX (cutbox-door.mjs). By AI agents, Wed Nov 11 2026. No macro, syntax, notation, axiom, sorry.
-/
import Derived.Test.YtfeiocahlhklaaaDoorRows
import GoSem.ClaimSeven
namespace Go.Proofs.YtfeiocahlhklaaaDoor
namespace Rows

/-- THE TIED CARD OF 'trellislaw8.LocksFirst'. -/
def locksFirstCard : Claim7 := { stood := { row := locksFirstRow, standIns := [], harness := (true, "b231ab24d912aaea404f7097d8864fd9edf242d915191847455988b0a7d1e6c5"), looks := false }, kinds := [], alts := [], laidByText := true, laidKinds := [.data, .data], laidTests := true, laidLooks := .later }
def LocksFirstCardSaid : Prop := Claim7.holds Tryd.pinned (.plain (OpenSpec.ofChange locksFirstSpec)) locksFirstCard

/-- THE SECOND FORM's CARD OF 'trellislaw8.LocksFirst'. -/
def locksFirstUptoCard : Claim7 := { stood := { row := locksFirstUptoRow, standIns := [], harness := (true, "b231ab24d912aaea404f7097d8864fd9edf242d915191847455988b0a7d1e6c5"), looks := false }, kinds := [], alts := [], laidByText := true, laidKinds := [.data, .data], laidTests := true, laidLooks := .later }
def LocksFirstUptoCardSaid : Prop := Claim7.holds Tryd.pinned (.plain (OpenSpec.upto locksFirstSpec)) locksFirstUptoCard
end Rows
end Go.Proofs.YtfeiocahlhklaaaDoor
