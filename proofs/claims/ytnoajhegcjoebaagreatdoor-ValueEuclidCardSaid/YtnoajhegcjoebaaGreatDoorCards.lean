/-
  DERIVED. GIVEN WITH THE SEED: THE CARDS: each row of YtnoajhegcjoebaaGreatDoorRows.lean that lists a variable, with what it lists TIED to the program's text (the seventh form; the later family's looks); each row that meets fmt, with fmt's text TOLD by the authors' own Lean function (tested against real Go, not proved from fmt's source: count such statements apart). THE CARD IS WHAT COUNTS. Prove the row's statement (the work); the ties are given (YtnoajhegcjoebaaGreatDoorTie.lean); close each card by the builder's one call (the guide's Derived/Test/ToyasCard.lean, 'card_holds'). Laid BY PROGRAM, IN A SANDBOX (cutbox-door.mjs). By AI agents, Wed Nov 11 2026. No macro, syntax, notation, axiom, sorry.
-/
import Derived.Test.YtnoajhegcjoebaaGreatDoorRows
import GoSem.ClaimSeven
namespace Go.Proofs.YtnoajhegcjoebaaGreatDoor
namespace Rows

/-- THE TIED CARD OF 'trellislaw1.ValueKleene'. -/
def valueKleeneCard : Claim7 := { stood := { row := valueKleeneRow, standIns := [], harness := (true, "dc66aaf3a75255387af8b50be3df0e1ca887459b837d0b189d1e5bbfa239f40a"), looks := true }, kinds := [], alts := [], laidByText := true, laidKinds := [.data, .data, .pinned], laidTests := true, laidLooks := .later }
def ValueKleeneCardSaid : Prop := Claim7.holds Tryz.pinned (.plain (OpenSpec.ofChange valueKleeneSpec)) valueKleeneCard

/-- THE TIED CARD OF 'trellislaw1.ValueRing'. -/
def valueRingCard : Claim7 := { stood := { row := valueRingRow, standIns := [], harness := (true, "dc66aaf3a75255387af8b50be3df0e1ca887459b837d0b189d1e5bbfa239f40a"), looks := true }, kinds := [], alts := [], laidByText := true, laidKinds := [.data, .data, .pinned], laidTests := true, laidLooks := .later }
def ValueRingCardSaid : Prop := Claim7.holds Tryz.pinned (.plain (OpenSpec.ofChange valueRingSpec)) valueRingCard

/-- THE TIED CARD OF 'trellislaw1.ValueEuclid'. -/
def valueEuclidCard : Claim7 := { stood := { row := valueEuclidRow, standIns := [], harness := (true, "dc66aaf3a75255387af8b50be3df0e1ca887459b837d0b189d1e5bbfa239f40a"), looks := true }, kinds := [], alts := [], laidByText := true, laidKinds := [.data, .data, .pinned], laidTests := true, laidLooks := .later }
def ValueEuclidCardSaid : Prop := Claim7.holds Tryz.pinned (.plain (OpenSpec.ofChange valueEuclidSpec)) valueEuclidCard

/-- THE TIED CARD OF 'trellislaw1.ValueBack'. -/
def valueBackCard : Claim7 := { stood := { row := valueBackRow, standIns := [], harness := (true, "dc66aaf3a75255387af8b50be3df0e1ca887459b837d0b189d1e5bbfa239f40a"), looks := true }, kinds := [], alts := [], laidByText := true, laidKinds := [.data, .data, .data, .data, .sentinel, .sentinel, .data, .pinned], laidTests := true, laidLooks := .later }
def ValueBackCardSaid : Prop := Claim7.holds Tryz.pinned (.plain (OpenSpec.ofChange valueBackSpec)) valueBackCard

/-- THE SECOND FORM's CARD OF 'trellislaw1.ValueKleene'. -/
def valueKleeneUptoCard : Claim7 := { stood := { row := valueKleeneUptoRow, standIns := [], harness := (true, "dc66aaf3a75255387af8b50be3df0e1ca887459b837d0b189d1e5bbfa239f40a"), looks := true }, kinds := [], alts := [], laidByText := true, laidKinds := [.data, .data, .pinned], laidTests := true, laidLooks := .later }
def ValueKleeneUptoCardSaid : Prop := Claim7.holds Tryz.pinned (.plain (OpenSpec.upto valueKleeneSpec)) valueKleeneUptoCard

/-- THE SECOND FORM's CARD OF 'trellislaw1.ValueRing'. -/
def valueRingUptoCard : Claim7 := { stood := { row := valueRingUptoRow, standIns := [], harness := (true, "dc66aaf3a75255387af8b50be3df0e1ca887459b837d0b189d1e5bbfa239f40a"), looks := true }, kinds := [], alts := [], laidByText := true, laidKinds := [.data, .data, .pinned], laidTests := true, laidLooks := .later }
def ValueRingUptoCardSaid : Prop := Claim7.holds Tryz.pinned (.plain (OpenSpec.upto valueRingSpec)) valueRingUptoCard

/-- THE SECOND FORM's CARD OF 'trellislaw1.ValueEuclid'. -/
def valueEuclidUptoCard : Claim7 := { stood := { row := valueEuclidUptoRow, standIns := [], harness := (true, "dc66aaf3a75255387af8b50be3df0e1ca887459b837d0b189d1e5bbfa239f40a"), looks := true }, kinds := [], alts := [], laidByText := true, laidKinds := [.data, .data, .pinned], laidTests := true, laidLooks := .later }
def ValueEuclidUptoCardSaid : Prop := Claim7.holds Tryz.pinned (.plain (OpenSpec.upto valueEuclidSpec)) valueEuclidUptoCard

/-- THE SECOND FORM's CARD OF 'trellislaw1.ValueBack'. -/
def valueBackUptoCard : Claim7 := { stood := { row := valueBackUptoRow, standIns := [], harness := (true, "dc66aaf3a75255387af8b50be3df0e1ca887459b837d0b189d1e5bbfa239f40a"), looks := true }, kinds := [], alts := [], laidByText := true, laidKinds := [.data, .data, .data, .data, .sentinel, .sentinel, .data, .pinned], laidTests := true, laidLooks := .later }
def ValueBackUptoCardSaid : Prop := Claim7.holds Tryz.pinned (.plain (OpenSpec.upto valueBackSpec)) valueBackUptoCard
end Rows
end Go.Proofs.YtnoajhegcjoebaaGreatDoor
