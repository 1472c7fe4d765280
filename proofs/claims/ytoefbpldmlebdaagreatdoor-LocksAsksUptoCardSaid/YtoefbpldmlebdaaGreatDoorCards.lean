/-
  DERIVED. GIVEN WITH THE SEED: THE CARDS: each row of YtoefbpldmlebdaaGreatDoorRows.lean that lists a variable, with what it lists TIED to the program's text (the seventh form; the later family's looks); each row that meets fmt, with fmt's text TOLD by the authors' own Lean function (tested against real Go, not proved from fmt's source: count such statements apart). THE CARD IS WHAT COUNTS. Prove the row's statement (the work); the ties are given (YtoefbpldmlebdaaGreatDoorTie.lean); close each card by the builder's one call (the guide's Derived/Test/ToyasCard.lean, 'card_holds'). Laid BY PROGRAM, IN A SANDBOX (cutbox-door.mjs). By AI agents, Wed Nov 11 2026. No macro, syntax, notation, axiom, sorry.
-/
import Derived.Test.YtoefbpldmlebdaaGreatDoorRows
import GoSem.ClaimSeven
namespace Go.Proofs.YtoefbpldmlebdaaGreatDoor
namespace Rows

/-- THE TIED CARD OF 'trellislaw8.LocksBegins'. -/
def locksBeginsCard : Claim7 := { stood := { row := locksBeginsRow, standIns := [], harness := (true, "e7dec6d420fa24ee8ee20b2783caa101307fdaf79047430209d24c1de8d4897e"), looks := false }, kinds := [], alts := [], laidByText := true, laidKinds := [.data, .data], laidTests := true, laidLooks := .later }
def LocksBeginsCardSaid : Prop := Claim7.holds Tryz.pinned (.plain (OpenSpec.ofChange locksBeginsSpec)) locksBeginsCard

/-- THE TIED CARD OF 'trellislaw8.LocksAsks'. -/
def locksAsksCard : Claim7 := { stood := { row := locksAsksRow, standIns := [], harness := (true, "e7dec6d420fa24ee8ee20b2783caa101307fdaf79047430209d24c1de8d4897e"), looks := false }, kinds := [], alts := [], laidByText := true, laidKinds := [.data, .data], laidTests := true, laidLooks := .later }
def LocksAsksCardSaid : Prop := Claim7.holds Tryz.pinned (.plain (OpenSpec.ofChange locksAsksSpec)) locksAsksCard

/-- THE TIED CARD OF 'trellislaw8.LocksEnds'. -/
def locksEndsCard : Claim7 := { stood := { row := locksEndsRow, standIns := [], harness := (true, "e7dec6d420fa24ee8ee20b2783caa101307fdaf79047430209d24c1de8d4897e"), looks := false }, kinds := [], alts := [], laidByText := true, laidKinds := [.data, .data], laidTests := true, laidLooks := .later }
def LocksEndsCardSaid : Prop := Claim7.holds Tryz.pinned (.plain (OpenSpec.ofChange locksEndsSpec)) locksEndsCard

/-- THE TIED CARD OF 'trellislaw8.LocksTells'. -/
def locksTellsCard : Claim7 := { stood := { row := locksTellsRow, standIns := [], harness := (true, "e7dec6d420fa24ee8ee20b2783caa101307fdaf79047430209d24c1de8d4897e"), looks := false }, kinds := [], alts := [], laidByText := true, laidKinds := [.data, .data], laidTests := true, laidLooks := .later }
def LocksTellsCardSaid : Prop := Claim7.holds Tryz.pinned (.plain (OpenSpec.ofChange locksTellsSpec)) locksTellsCard

/-- THE TIED CARD OF 'trellislaw8.LocksLists'. -/
def locksListsCard : Claim7 := { stood := { row := locksListsRow, standIns := [], harness := (true, "e7dec6d420fa24ee8ee20b2783caa101307fdaf79047430209d24c1de8d4897e"), looks := false }, kinds := [], alts := [], laidByText := true, laidKinds := [.data, .data], laidTests := true, laidLooks := .later }
def LocksListsCardSaid : Prop := Claim7.holds Tryz.pinned (.plain (OpenSpec.ofChange locksListsSpec)) locksListsCard

/-- THE TIED CARD OF 'trellislaw8.LocksAll'. -/
def locksAllCard : Claim7 := { stood := { row := locksAllRow, standIns := [], harness := (true, "e7dec6d420fa24ee8ee20b2783caa101307fdaf79047430209d24c1de8d4897e"), looks := false }, kinds := [], alts := [], laidByText := true, laidKinds := [.data, .data], laidTests := true, laidLooks := .later }
def LocksAllCardSaid : Prop := Claim7.holds Tryz.pinned (.plain (OpenSpec.ofChange locksAllSpec)) locksAllCard

/-- THE SECOND FORM's CARD OF 'trellislaw8.LocksBegins'. -/
def locksBeginsUptoCard : Claim7 := { stood := { row := locksBeginsUptoRow, standIns := [], harness := (true, "e7dec6d420fa24ee8ee20b2783caa101307fdaf79047430209d24c1de8d4897e"), looks := false }, kinds := [], alts := [], laidByText := true, laidKinds := [.data, .data], laidTests := true, laidLooks := .later }
def LocksBeginsUptoCardSaid : Prop := Claim7.holds Tryz.pinned (.plain (OpenSpec.upto locksBeginsSpec)) locksBeginsUptoCard

/-- THE SECOND FORM's CARD OF 'trellislaw8.LocksAsks'. -/
def locksAsksUptoCard : Claim7 := { stood := { row := locksAsksUptoRow, standIns := [], harness := (true, "e7dec6d420fa24ee8ee20b2783caa101307fdaf79047430209d24c1de8d4897e"), looks := false }, kinds := [], alts := [], laidByText := true, laidKinds := [.data, .data], laidTests := true, laidLooks := .later }
def LocksAsksUptoCardSaid : Prop := Claim7.holds Tryz.pinned (.plain (OpenSpec.upto locksAsksSpec)) locksAsksUptoCard

/-- THE SECOND FORM's CARD OF 'trellislaw8.LocksEnds'. -/
def locksEndsUptoCard : Claim7 := { stood := { row := locksEndsUptoRow, standIns := [], harness := (true, "e7dec6d420fa24ee8ee20b2783caa101307fdaf79047430209d24c1de8d4897e"), looks := false }, kinds := [], alts := [], laidByText := true, laidKinds := [.data, .data], laidTests := true, laidLooks := .later }
def LocksEndsUptoCardSaid : Prop := Claim7.holds Tryz.pinned (.plain (OpenSpec.upto locksEndsSpec)) locksEndsUptoCard

/-- THE SECOND FORM's CARD OF 'trellislaw8.LocksTells'. -/
def locksTellsUptoCard : Claim7 := { stood := { row := locksTellsUptoRow, standIns := [], harness := (true, "e7dec6d420fa24ee8ee20b2783caa101307fdaf79047430209d24c1de8d4897e"), looks := false }, kinds := [], alts := [], laidByText := true, laidKinds := [.data, .data], laidTests := true, laidLooks := .later }
def LocksTellsUptoCardSaid : Prop := Claim7.holds Tryz.pinned (.plain (OpenSpec.upto locksTellsSpec)) locksTellsUptoCard

/-- THE SECOND FORM's CARD OF 'trellislaw8.LocksLists'. -/
def locksListsUptoCard : Claim7 := { stood := { row := locksListsUptoRow, standIns := [], harness := (true, "e7dec6d420fa24ee8ee20b2783caa101307fdaf79047430209d24c1de8d4897e"), looks := false }, kinds := [], alts := [], laidByText := true, laidKinds := [.data, .data], laidTests := true, laidLooks := .later }
def LocksListsUptoCardSaid : Prop := Claim7.holds Tryz.pinned (.plain (OpenSpec.upto locksListsSpec)) locksListsUptoCard

/-- THE SECOND FORM's CARD OF 'trellislaw8.LocksAll'. -/
def locksAllUptoCard : Claim7 := { stood := { row := locksAllUptoRow, standIns := [], harness := (true, "e7dec6d420fa24ee8ee20b2783caa101307fdaf79047430209d24c1de8d4897e"), looks := false }, kinds := [], alts := [], laidByText := true, laidKinds := [.data, .data], laidTests := true, laidLooks := .later }
def LocksAllUptoCardSaid : Prop := Claim7.holds Tryz.pinned (.plain (OpenSpec.upto locksAllSpec)) locksAllUptoCard
end Rows
end Go.Proofs.YtoefbpldmlebdaaGreatDoor
