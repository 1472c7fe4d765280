/-
  DERIVED. GIVEN WITH THE SEED: THE CARDS: each row of YtbknpobmkamjiaaDoorRows.lean that lists a variable, with what it lists TIED to the program's text (the seventh form; the later family's looks); each row that meets fmt, with fmt's text TOLD by the authors' own Lean function (tested against real Go, not proved from fmt's source: count such statements apart). THE CARD IS WHAT COUNTS. Prove the row's statement (the work); the ties are given (YtbknpobmkamjiaaDoorTie.lean); close each card by the builder's one call (the guide's Derived/Test/ToyasCard.lean, 'card_holds'). Laid BY PROGRAM, IN A SANDBOX (cutbox-door.mjs). By AI agents, Wed Nov 11 2026. No macro, syntax, notation, axiom, sorry.
-/
import Derived.Test.YtbknpobmkamjiaaDoorRows
import GoSem.ClaimSeven
namespace Go.Proofs.YtbknpobmkamjiaaDoor
namespace Rows

/-- THE TIED CARD OF 'trellislaw8.LocksFits'. -/
def locksFitsCard : Claim7 := { stood := { row := locksFitsRow, standIns := [], harness := (true, "19a25d4eb2323a9ee5cdeb0efd8a23ef13887702875cc9d18741a75a1173c0ac"), looks := false }, kinds := [], alts := [], laidByText := true, laidKinds := [.data, .data], laidTests := true, laidLooks := .later }
def LocksFitsCardSaid : Prop := Claim7.holds Tryd.pinned (.plain (OpenSpec.ofChange locksFitsSpec)) locksFitsCard

/-- THE TIED CARD OF 'trellislaw8.LocksFirst'. -/
def locksFirstCard : Claim7 := { stood := { row := locksFirstRow, standIns := [], harness := (true, "19a25d4eb2323a9ee5cdeb0efd8a23ef13887702875cc9d18741a75a1173c0ac"), looks := false }, kinds := [], alts := [], laidByText := true, laidKinds := [.data, .data], laidTests := true, laidLooks := .later }
def LocksFirstCardSaid : Prop := Claim7.holds Tryd.pinned (.plain (OpenSpec.ofChange locksFirstSpec)) locksFirstCard

/-- THE SECOND FORM's CARD OF 'trellislaw8.LocksFits'. -/
def locksFitsUptoCard : Claim7 := { stood := { row := locksFitsUptoRow, standIns := [], harness := (true, "19a25d4eb2323a9ee5cdeb0efd8a23ef13887702875cc9d18741a75a1173c0ac"), looks := false }, kinds := [], alts := [], laidByText := true, laidKinds := [.data, .data], laidTests := true, laidLooks := .later }
def LocksFitsUptoCardSaid : Prop := Claim7.holds Tryd.pinned (.plain (OpenSpec.upto locksFitsSpec)) locksFitsUptoCard

/-- THE SECOND FORM's CARD OF 'trellislaw8.LocksFirst'. -/
def locksFirstUptoCard : Claim7 := { stood := { row := locksFirstUptoRow, standIns := [], harness := (true, "19a25d4eb2323a9ee5cdeb0efd8a23ef13887702875cc9d18741a75a1173c0ac"), looks := false }, kinds := [], alts := [], laidByText := true, laidKinds := [.data, .data], laidTests := true, laidLooks := .later }
def LocksFirstUptoCardSaid : Prop := Claim7.holds Tryd.pinned (.plain (OpenSpec.upto locksFirstSpec)) locksFirstUptoCard
end Rows
end Go.Proofs.YtbknpobmkamjiaaDoor
