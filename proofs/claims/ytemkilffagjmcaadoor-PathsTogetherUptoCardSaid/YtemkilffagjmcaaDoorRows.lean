/-
  NARROWER THAN 'FOR EVERY INPUT', by the rows' own cells (each row's printed sentence says how): PathsForward: laid · PathsParts: laid · PathsTogether: laid.
  DERIVED. THE GIVEN ROWS OF THIS SEAT. 3 by the template 'for every input the law returns true; each argument reads behind the call as it read before'; 0 by the template 'total and deterministic' (their statements: YtemkilffagjmcaaDoorTotals.lean).
  GIVEN WITH THE SEED: the statements are not yours to turn. If you find one false, say at which input.
  Laid BY PROGRAM, IN A SANDBOX (cutbox-rows.mjs): the forced cells as the released guide's own fill.sh prints them over the translation 1f1bc953c190eaed… (all of the seat's roots in one cut). By AI agents, Wed Nov 11 2026. No macro, syntax, notation, axiom, sorry.
-/
import Derived.Test.YtemkilffagjmcaaDoorChecked
import GoSem.Claim
import GoSem.ClaimJoined
import GoSem.ClaimMapViews
import Derived.JoinedTies
import Derived.KernelRfl
namespace Go.Proofs.YtemkilffagjmcaaDoor
/- THE CELL 'sum', in the pinned program and in every row, IS THE sha256 OF THE DUMP (.gsa) THAT YtemkilffagjmcaaDoorProg.lean LOADS. Nothing in Lean hashes anything: it is a label: what it is worth is what the hold of that sum in a sandbox is worth. -/
noncomputable def Tryd.pinned : Pinned := { name := "ytemkilffagjmcaadoor", sum := "1f1bc953c190eaed73b8006a9783f79e9d0d825b58045fd45f6165f66ffd96cc", checked := Tryd.checked }
namespace Rows
def none {H : Type} : Left H := { results := [], args := [] }

/- WHAT THE LISTED PACKAGE-LEVEL VARIABLES READ AS WHEN THE CALL BEGINS. Each datum BY PROGRAM (the guide's laid-datum.mjs) off the statement by which the dump's own 'gosem.cut.vars' lays the variable. In a bare row this is a premise. The card (YtemkilffagjmcaaDoorCards.lean) ties it to the program's text. -/
def laid_trellis_trellislaw9_pathsMark {H : Type} : DataW H := .agg [.lit (.int .i64 (-71)), .lit (.int .i64 (-72)), .lit (.int .i64 (-73))]

/-- 'trellislaw9.PathsForward': WHATEVER THE INPUT: true; the input reads as it did. -/
def pathsForwardSpec : ChangeSpec := { name := "pathsForward", fn := fun _ => fun
  | [d1, d2] => { results := [.lit (.bool true)], args := [d1, d2] }
  | _ => none }
def pathsForwardRow : OpenClaim := { program := "ytemkilffagjmcaadoor", sum := "1f1bc953c190eaed73b8006a9783f79e9d0d825b58045fd45f6165f66ffd96cc", func := "trellis/trellislaw9.PathsForward", spec := "pathsForward", unfollowed := true, recurses := true, named := ["trellis/trellislaw9.pathsMark"], apart := false, laid := [("trellis/trellislaw9.pathsMark", laid_trellis_trellislaw9_pathsMark)] }
def PathsForwardSaid : Prop := pathsForwardRow.holds Tryd.pinned (OpenSpec.ofChange pathsForwardSpec)

/-- ITS FALSE NEIGHBOUR: 'it returns false'. Refute it at one input. -/
def pathsForwardWrong : ChangeSpec := { name := "pathsForward", fn := fun _ => fun
  | [d1, d2] => { results := [.lit (.bool false)], args := [d1, d2] }
  | _ => none }
def PathsForwardWrongFalsely : Prop := pathsForwardRow.holds Tryd.pinned (OpenSpec.ofChange pathsForwardWrong)

/-- 'trellislaw9.PathsParts': WHATEVER THE INPUT: true; the input reads as it did. -/
def pathsPartsSpec : ChangeSpec := { name := "pathsParts", fn := fun _ => fun
  | [d1, d2] => { results := [.lit (.bool true)], args := [d1, d2] }
  | _ => none }
def pathsPartsRow : OpenClaim := { program := "ytemkilffagjmcaadoor", sum := "1f1bc953c190eaed73b8006a9783f79e9d0d825b58045fd45f6165f66ffd96cc", func := "trellis/trellislaw9.PathsParts", spec := "pathsParts", unfollowed := true, recurses := true, named := ["trellis/trellislaw9.pathsMark"], apart := false, laid := [("trellis/trellislaw9.pathsMark", laid_trellis_trellislaw9_pathsMark)] }
def PathsPartsSaid : Prop := pathsPartsRow.holds Tryd.pinned (OpenSpec.ofChange pathsPartsSpec)

/-- ITS FALSE NEIGHBOUR: 'it returns false'. Refute it at one input. -/
def pathsPartsWrong : ChangeSpec := { name := "pathsParts", fn := fun _ => fun
  | [d1, d2] => { results := [.lit (.bool false)], args := [d1, d2] }
  | _ => none }
def PathsPartsWrongFalsely : Prop := pathsPartsRow.holds Tryd.pinned (OpenSpec.ofChange pathsPartsWrong)

/-- 'trellislaw9.PathsTogether': WHATEVER THE INPUT: true; the input reads as it did. -/
def pathsTogetherSpec : ChangeSpec := { name := "pathsTogether", fn := fun _ => fun
  | [d1, d2] => { results := [.lit (.bool true)], args := [d1, d2] }
  | _ => none }
def pathsTogetherRow : OpenClaim := { program := "ytemkilffagjmcaadoor", sum := "1f1bc953c190eaed73b8006a9783f79e9d0d825b58045fd45f6165f66ffd96cc", func := "trellis/trellislaw9.PathsTogether", spec := "pathsTogether", unfollowed := true, recurses := true, named := ["trellis/trellislaw9.pathsMark"], apart := false, laid := [("trellis/trellislaw9.pathsMark", laid_trellis_trellislaw9_pathsMark)] }
def PathsTogetherSaid : Prop := pathsTogetherRow.holds Tryd.pinned (OpenSpec.ofChange pathsTogetherSpec)

/-- ITS FALSE NEIGHBOUR: 'it returns false'. Refute it at one input. -/
def pathsTogetherWrong : ChangeSpec := { name := "pathsTogether", fn := fun _ => fun
  | [d1, d2] => { results := [.lit (.bool false)], args := [d1, d2] }
  | _ => none }
def PathsTogetherWrongFalsely : Prop := pathsTogetherRow.holds Tryd.pinned (OpenSpec.ofChange pathsTogetherWrong)

/- THE SECOND FORM. 'bulk': how many values and letters a reading holds, each counted each time it is reached (what is shared counts as often as it is met; a slice's spare places count too). A statement '..UptoSaid' is the law's where the arguments, and the package variables that the reading takes, are together of bulk at most 1048576: NARROWER than '..Said'. Prove '..Said' where nothing that the law and all that it calls make is longer than what came in: it says more and counts as full. Else prove '..UptoSaid'. A law counts once. -/
mutual
def uptoBulk {H : Type} : DataW H → Nat
  | .lit (.string bytes) => bytes.length + 1
  | .lit _ => 1
  | .nil => 1
  | .ptr d => uptoBulk d + 1
  | .slice elems spare => uptoBulkAll elems + uptoBulkAll spare + 1
  | .agg parts => uptoBulkAll parts + 1
  | .iface _ d => uptoBulk d + 1
  | .map entries => uptoBulkEntries entries + 1
  | .held _ => 1
def uptoBulkAll {H : Type} : List (DataW H) → Nat
  | [] => 0
  | d :: r => uptoBulk d + uptoBulkAll r
def uptoBulkEntries {H : Type} : List (Lit × DataW H) → Nat
  | [] => 0
  | x :: r => uptoBulkEntry x + uptoBulkEntries r
def uptoBulkEntry {H : Type} : Lit × DataW H → Nat
  | (.string bytes, d) => bytes.length + uptoBulk d + 1
  | (_, d) => uptoBulk d + 1
 end
def uptoSmall : (H : Type) → List (DataW H) → Bool := fun _ ds => decide (uptoBulkAll ds ≤ 1048576)
def OpenSpec.upto (s : _root_.Go.ChangeSpec) : _root_.Go.OpenSpec := { _root_.Go.OpenSpec.ofChange s with cond := some uptoSmall }

/-- 'trellislaw9.PathsForward', WHERE WHAT IT READS IS OF BULK AT MOST 1048576: true; the input reads as it did. -/
def pathsForwardUptoRow : OpenClaim := { program := "ytemkilffagjmcaadoor", sum := "1f1bc953c190eaed73b8006a9783f79e9d0d825b58045fd45f6165f66ffd96cc", func := "trellis/trellislaw9.PathsForward", spec := "pathsForward", unfollowed := true, recurses := true, named := ["trellis/trellislaw9.pathsMark"], apart := false, laid := [("trellis/trellislaw9.pathsMark", laid_trellis_trellislaw9_pathsMark)], narrowed := true }
def PathsForwardUptoSaid : Prop := pathsForwardUptoRow.holds Tryd.pinned (OpenSpec.upto pathsForwardSpec)

/-- 'trellislaw9.PathsParts', WHERE WHAT IT READS IS OF BULK AT MOST 1048576: true; the input reads as it did. -/
def pathsPartsUptoRow : OpenClaim := { program := "ytemkilffagjmcaadoor", sum := "1f1bc953c190eaed73b8006a9783f79e9d0d825b58045fd45f6165f66ffd96cc", func := "trellis/trellislaw9.PathsParts", spec := "pathsParts", unfollowed := true, recurses := true, named := ["trellis/trellislaw9.pathsMark"], apart := false, laid := [("trellis/trellislaw9.pathsMark", laid_trellis_trellislaw9_pathsMark)], narrowed := true }
def PathsPartsUptoSaid : Prop := pathsPartsUptoRow.holds Tryd.pinned (OpenSpec.upto pathsPartsSpec)

/-- 'trellislaw9.PathsTogether', WHERE WHAT IT READS IS OF BULK AT MOST 1048576: true; the input reads as it did. -/
def pathsTogetherUptoRow : OpenClaim := { program := "ytemkilffagjmcaadoor", sum := "1f1bc953c190eaed73b8006a9783f79e9d0d825b58045fd45f6165f66ffd96cc", func := "trellis/trellislaw9.PathsTogether", spec := "pathsTogether", unfollowed := true, recurses := true, named := ["trellis/trellislaw9.pathsMark"], apart := false, laid := [("trellis/trellislaw9.pathsMark", laid_trellis_trellislaw9_pathsMark)], narrowed := true }
def PathsTogetherUptoSaid : Prop := pathsTogetherUptoRow.holds Tryd.pinned (OpenSpec.upto pathsTogetherSpec)

end Rows
end Go.Proofs.YtemkilffagjmcaaDoor
