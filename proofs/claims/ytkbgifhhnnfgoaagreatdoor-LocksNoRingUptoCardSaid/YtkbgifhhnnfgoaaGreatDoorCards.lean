/-
  DERIVED. GIVEN WITH THE SEED: THE CARDS: each row of YtkbgifhhnnfgoaaGreatDoorRows.lean that lists a variable, with what it lists TIED to the program's text (the seventh form; the later family's looks); each row that meets fmt, with fmt's text TOLD by the authors' own Lean function (tested against real Go, not proved from fmt's source: count such statements apart). THE CARD IS WHAT COUNTS. Prove the row's statement (the work); the ties are given (YtkbgifhhnnfgoaaGreatDoorTie.lean); close each card by the builder's one call (the guide's Derived/Test/ToyasCard.lean, 'card_holds'). Laid BY PROGRAM, IN A SANDBOX (cutbox-door.mjs). By AI agents, Wed Nov 11 2026. No macro, syntax, notation, axiom, sorry.
-/
import Derived.Test.YtkbgifhhnnfgoaaGreatDoorRows
import GoSem.ClaimSeven
namespace Go.Proofs.YtkbgifhhnnfgoaaGreatDoor
namespace Rows

/-- THE TIED CARD OF 'trellislaw8.LocksOldest'. -/
def locksOldestCard : Claim7 := { stood := { row := locksOldestRow, standIns := [], harness := (true, "e5363986340b6fd4309e72833ae682650c9e67577eba263245c5303fda4362e9"), looks := false }, kinds := [], alts := [], laidByText := true, laidKinds := [.data, .data], laidTests := true, laidLooks := .later }
def LocksOldestCardSaid : Prop := Claim7.holds Tryz.pinned (.plain (OpenSpec.ofChange locksOldestSpec)) locksOldestCard

/-- THE TIED CARD OF 'trellislaw8.LocksNoRing'. -/
def locksNoRingCard : Claim7 := { stood := { row := locksNoRingRow, standIns := [], harness := (true, "e5363986340b6fd4309e72833ae682650c9e67577eba263245c5303fda4362e9"), looks := false }, kinds := [], alts := [], laidByText := true, laidKinds := [.data, .data], laidTests := true, laidLooks := .later }
def LocksNoRingCardSaid : Prop := Claim7.holds Tryz.pinned (.plain (OpenSpec.ofChange locksNoRingSpec)) locksNoRingCard

/-- THE TIED CARD OF 'trellislaw8.LocksBegins'. -/
def locksBeginsCard : Claim7 := { stood := { row := locksBeginsRow, standIns := [], harness := (true, "e5363986340b6fd4309e72833ae682650c9e67577eba263245c5303fda4362e9"), looks := false }, kinds := [], alts := [], laidByText := true, laidKinds := [.data, .data], laidTests := true, laidLooks := .later }
def LocksBeginsCardSaid : Prop := Claim7.holds Tryz.pinned (.plain (OpenSpec.ofChange locksBeginsSpec)) locksBeginsCard

/-- THE TIED CARD OF 'trellislaw8.LocksAsks'. -/
def locksAsksCard : Claim7 := { stood := { row := locksAsksRow, standIns := [], harness := (true, "e5363986340b6fd4309e72833ae682650c9e67577eba263245c5303fda4362e9"), looks := false }, kinds := [], alts := [], laidByText := true, laidKinds := [.data, .data], laidTests := true, laidLooks := .later }
def LocksAsksCardSaid : Prop := Claim7.holds Tryz.pinned (.plain (OpenSpec.ofChange locksAsksSpec)) locksAsksCard

/-- THE TIED CARD OF 'trellislaw8.LocksEnds'. -/
def locksEndsCard : Claim7 := { stood := { row := locksEndsRow, standIns := [], harness := (true, "e5363986340b6fd4309e72833ae682650c9e67577eba263245c5303fda4362e9"), looks := false }, kinds := [], alts := [], laidByText := true, laidKinds := [.data, .data], laidTests := true, laidLooks := .later }
def LocksEndsCardSaid : Prop := Claim7.holds Tryz.pinned (.plain (OpenSpec.ofChange locksEndsSpec)) locksEndsCard

/-- THE TIED CARD OF 'trellislaw8.LocksTells'. -/
def locksTellsCard : Claim7 := { stood := { row := locksTellsRow, standIns := [], harness := (true, "e5363986340b6fd4309e72833ae682650c9e67577eba263245c5303fda4362e9"), looks := false }, kinds := [], alts := [], laidByText := true, laidKinds := [.data, .data], laidTests := true, laidLooks := .later }
def LocksTellsCardSaid : Prop := Claim7.holds Tryz.pinned (.plain (OpenSpec.ofChange locksTellsSpec)) locksTellsCard

/-- THE SECOND FORM's CARD OF 'trellislaw8.LocksOldest'. -/
def locksOldestUptoCard : Claim7 := { stood := { row := locksOldestUptoRow, standIns := [], harness := (true, "e5363986340b6fd4309e72833ae682650c9e67577eba263245c5303fda4362e9"), looks := false }, kinds := [], alts := [], laidByText := true, laidKinds := [.data, .data], laidTests := true, laidLooks := .later }
def LocksOldestUptoCardSaid : Prop := Claim7.holds Tryz.pinned (.plain (OpenSpec.upto locksOldestSpec)) locksOldestUptoCard

/-- THE SECOND FORM's CARD OF 'trellislaw8.LocksNoRing'. -/
def locksNoRingUptoCard : Claim7 := { stood := { row := locksNoRingUptoRow, standIns := [], harness := (true, "e5363986340b6fd4309e72833ae682650c9e67577eba263245c5303fda4362e9"), looks := false }, kinds := [], alts := [], laidByText := true, laidKinds := [.data, .data], laidTests := true, laidLooks := .later }
def LocksNoRingUptoCardSaid : Prop := Claim7.holds Tryz.pinned (.plain (OpenSpec.upto locksNoRingSpec)) locksNoRingUptoCard

/-- THE SECOND FORM's CARD OF 'trellislaw8.LocksBegins'. -/
def locksBeginsUptoCard : Claim7 := { stood := { row := locksBeginsUptoRow, standIns := [], harness := (true, "e5363986340b6fd4309e72833ae682650c9e67577eba263245c5303fda4362e9"), looks := false }, kinds := [], alts := [], laidByText := true, laidKinds := [.data, .data], laidTests := true, laidLooks := .later }
def LocksBeginsUptoCardSaid : Prop := Claim7.holds Tryz.pinned (.plain (OpenSpec.upto locksBeginsSpec)) locksBeginsUptoCard

/-- THE SECOND FORM's CARD OF 'trellislaw8.LocksAsks'. -/
def locksAsksUptoCard : Claim7 := { stood := { row := locksAsksUptoRow, standIns := [], harness := (true, "e5363986340b6fd4309e72833ae682650c9e67577eba263245c5303fda4362e9"), looks := false }, kinds := [], alts := [], laidByText := true, laidKinds := [.data, .data], laidTests := true, laidLooks := .later }
def LocksAsksUptoCardSaid : Prop := Claim7.holds Tryz.pinned (.plain (OpenSpec.upto locksAsksSpec)) locksAsksUptoCard

/-- THE SECOND FORM's CARD OF 'trellislaw8.LocksEnds'. -/
def locksEndsUptoCard : Claim7 := { stood := { row := locksEndsUptoRow, standIns := [], harness := (true, "e5363986340b6fd4309e72833ae682650c9e67577eba263245c5303fda4362e9"), looks := false }, kinds := [], alts := [], laidByText := true, laidKinds := [.data, .data], laidTests := true, laidLooks := .later }
def LocksEndsUptoCardSaid : Prop := Claim7.holds Tryz.pinned (.plain (OpenSpec.upto locksEndsSpec)) locksEndsUptoCard

/-- THE SECOND FORM's CARD OF 'trellislaw8.LocksTells'. -/
def locksTellsUptoCard : Claim7 := { stood := { row := locksTellsUptoRow, standIns := [], harness := (true, "e5363986340b6fd4309e72833ae682650c9e67577eba263245c5303fda4362e9"), looks := false }, kinds := [], alts := [], laidByText := true, laidKinds := [.data, .data], laidTests := true, laidLooks := .later }
def LocksTellsUptoCardSaid : Prop := Claim7.holds Tryz.pinned (.plain (OpenSpec.upto locksTellsSpec)) locksTellsUptoCard
end Rows
end Go.Proofs.YtkbgifhhnnfgoaaGreatDoor
