/-
  DERIVED. GIVEN WITH THE SEED: THE CARDS: each row of YtnjeingpjoadjaaDoorRows.lean that lists a variable, with what it lists TIED to the program's text (the seventh form; the later family's looks); each row that meets fmt, with fmt's text TOLD by the authors' own Lean function (tested against real Go, not proved from fmt's source: count such statements apart). THE CARD IS WHAT COUNTS. Prove the row's statement (the work); the ties are given (YtnjeingpjoadjaaDoorTie.lean); close each card by the builder's one call (the guide's Derived/Test/ToyasCard.lean, 'card_holds'). Laid BY PROGRAM, IN A SANDBOX (cutbox-door.mjs). By AI agents, Wed Nov 11 2026. No macro, syntax, notation, axiom, sorry.
-/
import Derived.Test.YtnjeingpjoadjaaDoorRows
import GoSem.ClaimSeven
namespace Go.Proofs.YtnjeingpjoadjaaDoor
namespace Rows

/-- THE TIED CARD OF 'trellislaw16.WireRequests'. -/
def wireRequestsCard : Claim7 := { stood := { row := wireRequestsRow, standIns := [], harness := (true, "64bc9b7234890c3b43bcaf4aa74e9a9f8e1ae0609677ff77aadb3948356324ff"), looks := false }, kinds := [], alts := [], laidByText := true, laidKinds := [.data], laidTests := true, laidLooks := .later }
def WireRequestsCardSaid : Prop := Claim7.holds Tryd.pinned (.plain (OpenSpec.ofChange wireRequestsSpec)) wireRequestsCard

/-- THE TIED CARD OF 'trellislaw16.WireAsked'. -/
def wireAskedCard : Claim7 := { stood := { row := wireAskedRow, standIns := [], harness := (true, "64bc9b7234890c3b43bcaf4aa74e9a9f8e1ae0609677ff77aadb3948356324ff"), looks := false }, kinds := [], alts := [], laidByText := true, laidKinds := [.data], laidTests := true, laidLooks := .later }
def WireAskedCardSaid : Prop := Claim7.holds Tryd.pinned (.plain (OpenSpec.ofChange wireAskedSpec)) wireAskedCard

/-- THE TIED CARD OF 'trellislaw16.WireTold'. -/
def wireToldCard : Claim7 := { stood := { row := wireToldRow, standIns := [], harness := (true, "64bc9b7234890c3b43bcaf4aa74e9a9f8e1ae0609677ff77aadb3948356324ff"), looks := false }, kinds := [], alts := [], laidByText := true, laidKinds := [.data, .pinned], laidTests := true, laidLooks := .later }
def WireToldCardSaid : Prop := Claim7.holds Tryd.pinned (.plain (OpenSpec.ofChange wireToldSpec)) wireToldCard

/-- THE SECOND FORM's CARD OF 'trellislaw16.WireRequests'. -/
def wireRequestsUptoCard : Claim7 := { stood := { row := wireRequestsUptoRow, standIns := [], harness := (true, "64bc9b7234890c3b43bcaf4aa74e9a9f8e1ae0609677ff77aadb3948356324ff"), looks := false }, kinds := [], alts := [], laidByText := true, laidKinds := [.data], laidTests := true, laidLooks := .later }
def WireRequestsUptoCardSaid : Prop := Claim7.holds Tryd.pinned (.plain (OpenSpec.upto wireRequestsSpec)) wireRequestsUptoCard

/-- THE SECOND FORM's CARD OF 'trellislaw16.WireAsked'. -/
def wireAskedUptoCard : Claim7 := { stood := { row := wireAskedUptoRow, standIns := [], harness := (true, "64bc9b7234890c3b43bcaf4aa74e9a9f8e1ae0609677ff77aadb3948356324ff"), looks := false }, kinds := [], alts := [], laidByText := true, laidKinds := [.data], laidTests := true, laidLooks := .later }
def WireAskedUptoCardSaid : Prop := Claim7.holds Tryd.pinned (.plain (OpenSpec.upto wireAskedSpec)) wireAskedUptoCard

/-- THE SECOND FORM's CARD OF 'trellislaw16.WireTold'. -/
def wireToldUptoCard : Claim7 := { stood := { row := wireToldUptoRow, standIns := [], harness := (true, "64bc9b7234890c3b43bcaf4aa74e9a9f8e1ae0609677ff77aadb3948356324ff"), looks := false }, kinds := [], alts := [], laidByText := true, laidKinds := [.data, .pinned], laidTests := true, laidLooks := .later }
def WireToldUptoCardSaid : Prop := Claim7.holds Tryd.pinned (.plain (OpenSpec.upto wireToldSpec)) wireToldUptoCard
end Rows
end Go.Proofs.YtnjeingpjoadjaaDoor
