/-
  DERIVED. GIVEN WITH THE SEED: THE CARDS: each row of YthgpegldlcfolaaGreatDoorRows.lean that lists a variable, with what it lists TIED to the program's text (the seventh form; the later family's looks); each row that meets fmt, with fmt's text TOLD by the authors' own Lean function (tested against real Go, not proved from fmt's source: count such statements apart). THE CARD IS WHAT COUNTS. Prove the row's statement (the work); the ties are given (YthgpegldlcfolaaGreatDoorTie.lean); close each card by the builder's one call (the guide's Derived/Test/ToyasCard.lean, 'card_holds'). Laid BY PROGRAM, IN A SANDBOX (cutbox-door.mjs). By AI agents, Wed Nov 11 2026. No macro, syntax, notation, axiom, sorry.
-/
import Derived.Test.YthgpegldlcfolaaGreatDoorRows
import GoSem.ClaimSeven
namespace Go.Proofs.YthgpegldlcfolaaGreatDoor
namespace Rows

/-- THE TIED CARD OF 'trellislaw10.SyntaxLexes'. -/
def syntaxLexesCard : Claim7 := { stood := { row := syntaxLexesRow, standIns := [], harness := (true, "7349c617d047f743f126f33f90bcad1d006a51c856c2363d0c22e3310c03142d"), looks := true }, kinds := [], alts := [], laidByText := true, laidKinds := [.data, .data, .data, .data, .sentinel, .sentinel, .data, .data, .data, .data, .data, .pinned], laidTests := true, laidLooks := .later }
def SyntaxLexesCardSaid : Prop := Claim7.holds Tryz.pinned (.plain (OpenSpec.ofChange syntaxLexesSpec)) syntaxLexesCard

/-- THE SECOND FORM's CARD OF 'trellislaw10.SyntaxLexes'. -/
def syntaxLexesUptoCard : Claim7 := { stood := { row := syntaxLexesUptoRow, standIns := [], harness := (true, "7349c617d047f743f126f33f90bcad1d006a51c856c2363d0c22e3310c03142d"), looks := true }, kinds := [], alts := [], laidByText := true, laidKinds := [.data, .data, .data, .data, .sentinel, .sentinel, .data, .data, .data, .data, .data, .pinned], laidTests := true, laidLooks := .later }
def SyntaxLexesUptoCardSaid : Prop := Claim7.holds Tryz.pinned (.plain (OpenSpec.upto syntaxLexesSpec)) syntaxLexesUptoCard
end Rows
end Go.Proofs.YthgpegldlcfolaaGreatDoor
