/-
  DERIVED. GIVEN WITH THE SEED: THE CARDS: each row of YtifioikdhfhljaaGreatDoorRows.lean that lists a variable, with what it lists TIED to the program's text (the seventh form; the later family's looks); each row that meets fmt, with fmt's text TOLD by the authors' own Lean function (tested against real Go, not proved from fmt's source: count such statements apart). THE CARD IS WHAT COUNTS. Prove the row's statement (the work); the ties are given (YtifioikdhfhljaaGreatDoorTie.lean); close each card by the builder's one call (the guide's Derived/Test/ToyasCard.lean, 'card_holds'). Laid BY PROGRAM, IN A SANDBOX (cutbox-door.mjs). By AI agents, Wed Nov 11 2026. No macro, syntax, notation, axiom, sorry.
-/
import Derived.Test.YtifioikdhfhljaaGreatDoorRows
import GoSem.ClaimSeven
namespace Go.Proofs.YtifioikdhfhljaaGreatDoor
namespace Rows

/-- THE TIED CARD OF 'trellislaw12.SpaceLoads'. -/
def spaceLoadsCard : Claim7 := { stood := { row := spaceLoadsRow, standIns := [], harness := (true, "aaf6af5fdf719daa5e4861a61624c4e1ae2e2a454b65b32dd394caf0017ebc47"), looks := true }, kinds := [], alts := [], laidByText := true, laidKinds := [.data, .pinned], laidTests := true, laidLooks := .later }
def SpaceLoadsCardSaid : Prop := Claim7.holds Tryz.pinned (.plain (OpenSpec.ofChange spaceLoadsSpec)) spaceLoadsCard

/-- THE TIED CARD OF 'trellislaw12.SpaceMems'. -/
def spaceMemsCard : Claim7 := { stood := { row := spaceMemsRow, standIns := [], harness := (true, "aaf6af5fdf719daa5e4861a61624c4e1ae2e2a454b65b32dd394caf0017ebc47"), looks := true }, kinds := [], alts := [], laidByText := true, laidKinds := [.data, .pinned], laidTests := true, laidLooks := .later }
def SpaceMemsCardSaid : Prop := Claim7.holds Tryz.pinned (.plain (OpenSpec.ofChange spaceMemsSpec)) spaceMemsCard

/-- THE TIED CARD OF 'trellislaw18.RulesReads'. -/
def rulesReadsCard : Claim7 := { stood := { row := rulesReadsRow, standIns := [], harness := (true, "aaf6af5fdf719daa5e4861a61624c4e1ae2e2a454b65b32dd394caf0017ebc47"), looks := true }, kinds := [], alts := [], laidByText := true, laidKinds := [.data, .wider, .data, .pinned], laidTests := true, laidLooks := .later }
def RulesReadsCardSaid : Prop := Claim7.holds Tryz.pinned (.plain (OpenSpec.ofChange rulesReadsSpec)) rulesReadsCard

/-- THE TIED CARD OF 'trellislaw18.RulesBroken'. -/
def rulesBrokenCard : Claim7 := { stood := { row := rulesBrokenRow, standIns := [], harness := (true, "aaf6af5fdf719daa5e4861a61624c4e1ae2e2a454b65b32dd394caf0017ebc47"), looks := true }, kinds := [], alts := [], laidByText := true, laidKinds := [.data, .wider, .pinned], laidTests := true, laidLooks := .later }
def RulesBrokenCardSaid : Prop := Claim7.holds Tryz.pinned (.plain (OpenSpec.ofChange rulesBrokenSpec)) rulesBrokenCard

/-- THE SECOND FORM's CARD OF 'trellislaw12.SpaceLoads'. -/
def spaceLoadsUptoCard : Claim7 := { stood := { row := spaceLoadsUptoRow, standIns := [], harness := (true, "aaf6af5fdf719daa5e4861a61624c4e1ae2e2a454b65b32dd394caf0017ebc47"), looks := true }, kinds := [], alts := [], laidByText := true, laidKinds := [.data, .pinned], laidTests := true, laidLooks := .later }
def SpaceLoadsUptoCardSaid : Prop := Claim7.holds Tryz.pinned (.plain (OpenSpec.upto spaceLoadsSpec)) spaceLoadsUptoCard

/-- THE SECOND FORM's CARD OF 'trellislaw12.SpaceMems'. -/
def spaceMemsUptoCard : Claim7 := { stood := { row := spaceMemsUptoRow, standIns := [], harness := (true, "aaf6af5fdf719daa5e4861a61624c4e1ae2e2a454b65b32dd394caf0017ebc47"), looks := true }, kinds := [], alts := [], laidByText := true, laidKinds := [.data, .pinned], laidTests := true, laidLooks := .later }
def SpaceMemsUptoCardSaid : Prop := Claim7.holds Tryz.pinned (.plain (OpenSpec.upto spaceMemsSpec)) spaceMemsUptoCard

/-- THE SECOND FORM's CARD OF 'trellislaw18.RulesReads'. -/
def rulesReadsUptoCard : Claim7 := { stood := { row := rulesReadsUptoRow, standIns := [], harness := (true, "aaf6af5fdf719daa5e4861a61624c4e1ae2e2a454b65b32dd394caf0017ebc47"), looks := true }, kinds := [], alts := [], laidByText := true, laidKinds := [.data, .wider, .data, .pinned], laidTests := true, laidLooks := .later }
def RulesReadsUptoCardSaid : Prop := Claim7.holds Tryz.pinned (.plain (OpenSpec.upto rulesReadsSpec)) rulesReadsUptoCard

/-- THE SECOND FORM's CARD OF 'trellislaw18.RulesBroken'. -/
def rulesBrokenUptoCard : Claim7 := { stood := { row := rulesBrokenUptoRow, standIns := [], harness := (true, "aaf6af5fdf719daa5e4861a61624c4e1ae2e2a454b65b32dd394caf0017ebc47"), looks := true }, kinds := [], alts := [], laidByText := true, laidKinds := [.data, .wider, .pinned], laidTests := true, laidLooks := .later }
def RulesBrokenUptoCardSaid : Prop := Claim7.holds Tryz.pinned (.plain (OpenSpec.upto rulesBrokenSpec)) rulesBrokenUptoCard
end Rows
end Go.Proofs.YtifioikdhfhljaaGreatDoor
