/-
  No cell of these rows narrows 'for every input' (looked for: loops, veiled, ifaces, maps, wideKeys, modest, calm, conditions, laid).
  DERIVED. THE GIVEN ROWS OF THIS SEAT. 3 by the template 'for every input the law returns true; each argument reads behind the call as it read before'; 0 by the template 'total and deterministic' (their statements: YtbhbmcgjfcgdgaaTotals.lean).
  GIVEN WITH THE SEED: the statements are not yours to turn. If you find one false, say at which input.
  Laid BY PROGRAM, IN A SANDBOX (cutbox-rows.mjs): the forced cells as the released guide's own fill.sh prints them over the translation 4211f1f26139ea0f… (all of the seat's roots in one cut). By AI agents, Wed Nov 11 2026. No macro, syntax, notation, axiom, sorry.
-/
import Derived.Test.YtbhbmcgjfcgdgaaChecked
import GoSem.Claim
import GoSem.ClaimJoined
import GoSem.ClaimMapViews
import Derived.JoinedTies
import Derived.KernelRfl
namespace Go.Proofs.Ytbhbmcgjfcgdgaa
/- THE CELL 'sum', in the pinned program and in every row, IS THE sha256 OF THE DUMP (.gsa) THAT YtbhbmcgjfcgdgaaProg.lean LOADS. Nothing in Lean hashes anything: it is a label: what it is worth is what the hold of that sum in a sandbox is worth. -/
noncomputable def Try.pinned : Pinned := { name := "ytbhbmcgjfcgdgaa", sum := "4211f1f26139ea0f127ee14f5f3686f36b993b5c646628356b5d76eeed1fc058", checked := Try.checked }
namespace Rows
def none {H : Type} : Left H := { results := [], args := [] }

/-- 'trellislaw9.PathsSorted': WHATEVER THE INPUT: true; the input reads as it did. -/
def pathsSortedSpec : ChangeSpec := { name := "pathsSorted", fn := fun _ => fun
  | [d] => { results := [.lit (.bool true)], args := [d] }
  | _ => none }
def pathsSortedRow : OpenClaim := { program := "ytbhbmcgjfcgdgaa", sum := "4211f1f26139ea0f127ee14f5f3686f36b993b5c646628356b5d76eeed1fc058", func := "trellis/trellislaw9.PathsSorted", spec := "pathsSorted", unfollowed := true, recurses := true, apart := false }
def PathsSortedSaid : Prop := pathsSortedRow.holds Try.pinned (OpenSpec.ofChange pathsSortedSpec)

/-- ITS FALSE NEIGHBOUR: 'it returns false'. Refute it at one input. -/
def pathsSortedWrong : ChangeSpec := { name := "pathsSorted", fn := fun _ => fun
  | [d] => { results := [.lit (.bool false)], args := [d] }
  | _ => none }
def PathsSortedWrongFalsely : Prop := pathsSortedRow.holds Try.pinned (OpenSpec.ofChange pathsSortedWrong)

/-- 'trellislaw9.PathsOnce': WHATEVER THE INPUT: true; the input reads as it did. -/
def pathsOnceSpec : ChangeSpec := { name := "pathsOnce", fn := fun _ => fun
  | [d1, d2] => { results := [.lit (.bool true)], args := [d1, d2] }
  | _ => none }
def pathsOnceRow : OpenClaim := { program := "ytbhbmcgjfcgdgaa", sum := "4211f1f26139ea0f127ee14f5f3686f36b993b5c646628356b5d76eeed1fc058", func := "trellis/trellislaw9.PathsOnce", spec := "pathsOnce", unfollowed := true, recurses := true, apart := false }
def PathsOnceSaid : Prop := pathsOnceRow.holds Try.pinned (OpenSpec.ofChange pathsOnceSpec)

/-- ITS FALSE NEIGHBOUR: 'it returns false'. Refute it at one input. -/
def pathsOnceWrong : ChangeSpec := { name := "pathsOnce", fn := fun _ => fun
  | [d1, d2] => { results := [.lit (.bool false)], args := [d1, d2] }
  | _ => none }
def PathsOnceWrongFalsely : Prop := pathsOnceRow.holds Try.pinned (OpenSpec.ofChange pathsOnceWrong)

/-- 'trellislaw9.PathsHeap': WHATEVER THE INPUT: true; the input reads as it did. -/
def pathsHeapSpec : ChangeSpec := { name := "pathsHeap", fn := fun _ => fun
  | [d] => { results := [.lit (.bool true)], args := [d] }
  | _ => none }
def pathsHeapRow : OpenClaim := { program := "ytbhbmcgjfcgdgaa", sum := "4211f1f26139ea0f127ee14f5f3686f36b993b5c646628356b5d76eeed1fc058", func := "trellis/trellislaw9.PathsHeap", spec := "pathsHeap", unfollowed := true, recurses := true, apart := false }
def PathsHeapSaid : Prop := pathsHeapRow.holds Try.pinned (OpenSpec.ofChange pathsHeapSpec)

/-- ITS FALSE NEIGHBOUR: 'it returns false'. Refute it at one input. -/
def pathsHeapWrong : ChangeSpec := { name := "pathsHeap", fn := fun _ => fun
  | [d] => { results := [.lit (.bool false)], args := [d] }
  | _ => none }
def PathsHeapWrongFalsely : Prop := pathsHeapRow.holds Try.pinned (OpenSpec.ofChange pathsHeapWrong)

/- THE SECOND FORM. 'bulk': how many values and letters a reading holds, each counted each time it is reached (what is shared counts as often as it is met; a slice's spare places count too). A statement '..UptoSaid' is the law's where the arguments, and the package variables that the reading takes, are together of bulk at most 1048576: NARROWER than '..Said'. Prove '..Said' where nothing that the law and all that it calls make is longer than what came in: it says more and counts as full. Else prove '..UptoSaid'. A law counts once. -/
mutual
def uptoBulk {H : Type} : DataW H → Nat
  | .lit (.string bytes) => bytes.length + 1
  | .lit _ => 1
  | .nil => 1
  | .ptr d => uptoBulk d + 1
  | .slice elems spare => uptoBulkAll elems + uptoBulkAll spare + 1
  | .agg parts => uptoBulkAll parts + 1
  | .iface _ d => uptoBulk d + 1
  | .map entries => uptoBulkEntries entries + 1
  | .held _ => 1
def uptoBulkAll {H : Type} : List (DataW H) → Nat
  | [] => 0
  | d :: r => uptoBulk d + uptoBulkAll r
def uptoBulkEntries {H : Type} : List (Lit × DataW H) → Nat
  | [] => 0
  | x :: r => uptoBulkEntry x + uptoBulkEntries r
def uptoBulkEntry {H : Type} : Lit × DataW H → Nat
  | (.string bytes, d) => bytes.length + uptoBulk d + 1
  | (_, d) => uptoBulk d + 1
 end
def uptoSmall : (H : Type) → List (DataW H) → Bool := fun _ ds => decide (uptoBulkAll ds ≤ 1048576)
def OpenSpec.upto (s : _root_.Go.ChangeSpec) : _root_.Go.OpenSpec := { _root_.Go.OpenSpec.ofChange s with cond := some uptoSmall }

/-- 'trellislaw9.PathsSorted', WHERE WHAT IT READS IS OF BULK AT MOST 1048576: true; the input reads as it did. -/
def pathsSortedUptoRow : OpenClaim := { program := "ytbhbmcgjfcgdgaa", sum := "4211f1f26139ea0f127ee14f5f3686f36b993b5c646628356b5d76eeed1fc058", func := "trellis/trellislaw9.PathsSorted", spec := "pathsSorted", unfollowed := true, recurses := true, apart := false, narrowed := true }
def PathsSortedUptoSaid : Prop := pathsSortedUptoRow.holds Try.pinned (OpenSpec.upto pathsSortedSpec)

/-- 'trellislaw9.PathsOnce', WHERE WHAT IT READS IS OF BULK AT MOST 1048576: true; the input reads as it did. -/
def pathsOnceUptoRow : OpenClaim := { program := "ytbhbmcgjfcgdgaa", sum := "4211f1f26139ea0f127ee14f5f3686f36b993b5c646628356b5d76eeed1fc058", func := "trellis/trellislaw9.PathsOnce", spec := "pathsOnce", unfollowed := true, recurses := true, apart := false, narrowed := true }
def PathsOnceUptoSaid : Prop := pathsOnceUptoRow.holds Try.pinned (OpenSpec.upto pathsOnceSpec)

/-- 'trellislaw9.PathsHeap', WHERE WHAT IT READS IS OF BULK AT MOST 1048576: true; the input reads as it did. -/
def pathsHeapUptoRow : OpenClaim := { program := "ytbhbmcgjfcgdgaa", sum := "4211f1f26139ea0f127ee14f5f3686f36b993b5c646628356b5d76eeed1fc058", func := "trellis/trellislaw9.PathsHeap", spec := "pathsHeap", unfollowed := true, recurses := true, apart := false, narrowed := true }
def PathsHeapUptoSaid : Prop := pathsHeapUptoRow.holds Try.pinned (OpenSpec.upto pathsHeapSpec)

end Rows
end Go.Proofs.Ytbhbmcgjfcgdgaa
