/-
  NARROWER THAN 'FOR EVERY INPUT', by the rows' own cells (each row's printed sentence says how): LocksBegins: laid · LocksAsks: laid · LocksEnds: laid · LocksTells: laid · LocksLists: laid · LocksAll: laid.
  DERIVED. THE GIVEN ROWS OF THIS SEAT. 6 by the template 'for every input the law returns true; each argument reads behind the call as it read before'; 0 by the template 'total and deterministic' (their statements: YtoefbpldmlebdaaGreatDoorTotals.lean).
  GIVEN WITH THE SEED: the statements are not yours to turn. If you find one false, say at which input.
  Laid BY PROGRAM, IN A SANDBOX (cutbox-rows.mjs): the forced cells as the released guide's own fill.sh prints them over the translation c8a21d25fbe41776… (all of the seat's roots in one cut). By AI agents, Wed Nov 11 2026. No macro, syntax, notation, axiom, sorry.
-/
import Derived.Test.YtoefbpldmlebdaaGreatDoorChecked
import GoSem.Claim
import GoSem.ClaimJoined
import GoSem.ClaimMapViews
import Derived.JoinedTies
import Derived.KernelRfl
namespace Go.Proofs.YtoefbpldmlebdaaGreatDoor
/- THE CELL 'sum', in the pinned program and in every row, IS THE sha256 OF THE DUMP (.gsa) THAT YtoefbpldmlebdaaGreatDoorProg.lean LOADS. Nothing in Lean hashes anything: it is a label: what it is worth is what the hold of that sum in a sandbox is worth. -/
noncomputable def Tryz.pinned : Pinned := { name := "ytoefbpldmlebdaagreatdoor", sum := "c8a21d25fbe41776426575d5d79a4eb0514b9a5cfa1ce66c7a49cb5264345bef", checked := Tryz.checked }
namespace Rows
def none {H : Type} : Left H := { results := [], args := [] }

/- WHAT THE LISTED PACKAGE-LEVEL VARIABLES READ AS WHEN THE CALL BEGINS. Each datum BY PROGRAM (the guide's laid-datum.mjs) off the statement by which the dump's own 'gosem.cut.vars' lays the variable. In a bare row this is a premise. The card (YtoefbpldmlebdaaGreatDoorCards.lean) ties it to the program's text. -/
def laid_trellis_locks_fits {H : Type} : DataW H := .agg [.agg [.lit (.bool false), .lit (.bool false), .lit (.bool false), .lit (.bool false), .lit (.bool false), .lit (.bool false)], .agg [.lit (.bool false), .lit (.bool true), .lit (.bool true), .lit (.bool true), .lit (.bool true), .lit (.bool false)], .agg [.lit (.bool false), .lit (.bool true), .lit (.bool true), .lit (.bool false), .lit (.bool false), .lit (.bool false)], .agg [.lit (.bool false), .lit (.bool true), .lit (.bool false), .lit (.bool true), .lit (.bool false), .lit (.bool false)], .agg [.lit (.bool false), .lit (.bool true), .lit (.bool false), .lit (.bool false), .lit (.bool false), .lit (.bool false)], .agg [.lit (.bool false), .lit (.bool false), .lit (.bool false), .lit (.bool false), .lit (.bool false), .lit (.bool false)]]
def laid_trellis_locks_joins {H : Type} : DataW H := .agg [.agg [.lit (.int .i64 0), .lit (.int .i64 1), .lit (.int .i64 2), .lit (.int .i64 3), .lit (.int .i64 4), .lit (.int .i64 5)], .agg [.lit (.int .i64 1), .lit (.int .i64 1), .lit (.int .i64 2), .lit (.int .i64 3), .lit (.int .i64 4), .lit (.int .i64 5)], .agg [.lit (.int .i64 2), .lit (.int .i64 2), .lit (.int .i64 2), .lit (.int .i64 4), .lit (.int .i64 4), .lit (.int .i64 5)], .agg [.lit (.int .i64 3), .lit (.int .i64 3), .lit (.int .i64 4), .lit (.int .i64 3), .lit (.int .i64 4), .lit (.int .i64 5)], .agg [.lit (.int .i64 4), .lit (.int .i64 4), .lit (.int .i64 4), .lit (.int .i64 4), .lit (.int .i64 4), .lit (.int .i64 5)], .agg [.lit (.int .i64 5), .lit (.int .i64 5), .lit (.int .i64 5), .lit (.int .i64 5), .lit (.int .i64 5), .lit (.int .i64 5)]]

/-- 'trellislaw8.LocksBegins': WHATEVER THE INPUT: true; the input reads as it did. -/
def locksBeginsSpec : ChangeSpec := { name := "locksBegins", fn := fun _ => fun
  | [d] => { results := [.lit (.bool true)], args := [d] }
  | _ => none }
def locksBeginsRow : OpenClaim := { program := "ytoefbpldmlebdaagreatdoor", sum := "c8a21d25fbe41776426575d5d79a4eb0514b9a5cfa1ce66c7a49cb5264345bef", func := "trellis/trellislaw8.LocksBegins", spec := "locksBegins", inPlace := ["slices.overlaps[trellis/api.Held]", "internal/bytealg.abigen_runtime_cmpstring"], unfollowed := true, recurses := true, named := ["trellis/locks.joins", "trellis/locks.fits"], plainKeys := false, apart := false, laid := [("trellis/locks.fits", laid_trellis_locks_fits), ("trellis/locks.joins", laid_trellis_locks_joins)] }
def LocksBeginsSaid : Prop := locksBeginsRow.holds Tryz.pinned (OpenSpec.ofChange locksBeginsSpec)

/-- ITS FALSE NEIGHBOUR: 'it returns false'. Refute it at one input. -/
def locksBeginsWrong : ChangeSpec := { name := "locksBegins", fn := fun _ => fun
  | [d] => { results := [.lit (.bool false)], args := [d] }
  | _ => none }
def LocksBeginsWrongFalsely : Prop := locksBeginsRow.holds Tryz.pinned (OpenSpec.ofChange locksBeginsWrong)

/-- 'trellislaw8.LocksAsks': WHATEVER THE INPUT: true; the input reads as it did. -/
def locksAsksSpec : ChangeSpec := { name := "locksAsks", fn := fun _ => fun
  | [d] => { results := [.lit (.bool true)], args := [d] }
  | _ => none }
def locksAsksRow : OpenClaim := { program := "ytoefbpldmlebdaagreatdoor", sum := "c8a21d25fbe41776426575d5d79a4eb0514b9a5cfa1ce66c7a49cb5264345bef", func := "trellis/trellislaw8.LocksAsks", spec := "locksAsks", inPlace := ["slices.overlaps[trellis/api.Held]", "internal/bytealg.abigen_runtime_cmpstring"], unfollowed := true, recurses := true, named := ["trellis/locks.joins", "trellis/locks.fits"], plainKeys := false, apart := false, laid := [("trellis/locks.fits", laid_trellis_locks_fits), ("trellis/locks.joins", laid_trellis_locks_joins)] }
def LocksAsksSaid : Prop := locksAsksRow.holds Tryz.pinned (OpenSpec.ofChange locksAsksSpec)

/-- ITS FALSE NEIGHBOUR: 'it returns false'. Refute it at one input. -/
def locksAsksWrong : ChangeSpec := { name := "locksAsks", fn := fun _ => fun
  | [d] => { results := [.lit (.bool false)], args := [d] }
  | _ => none }
def LocksAsksWrongFalsely : Prop := locksAsksRow.holds Tryz.pinned (OpenSpec.ofChange locksAsksWrong)

/-- 'trellislaw8.LocksEnds': WHATEVER THE INPUT: true; the input reads as it did. -/
def locksEndsSpec : ChangeSpec := { name := "locksEnds", fn := fun _ => fun
  | [d] => { results := [.lit (.bool true)], args := [d] }
  | _ => none }
def locksEndsRow : OpenClaim := { program := "ytoefbpldmlebdaagreatdoor", sum := "c8a21d25fbe41776426575d5d79a4eb0514b9a5cfa1ce66c7a49cb5264345bef", func := "trellis/trellislaw8.LocksEnds", spec := "locksEnds", inPlace := ["slices.overlaps[trellis/api.Held]", "internal/bytealg.abigen_runtime_cmpstring"], unfollowed := true, recurses := true, named := ["trellis/locks.joins", "trellis/locks.fits"], plainKeys := false, apart := false, laid := [("trellis/locks.fits", laid_trellis_locks_fits), ("trellis/locks.joins", laid_trellis_locks_joins)] }
def LocksEndsSaid : Prop := locksEndsRow.holds Tryz.pinned (OpenSpec.ofChange locksEndsSpec)

/-- ITS FALSE NEIGHBOUR: 'it returns false'. Refute it at one input. -/
def locksEndsWrong : ChangeSpec := { name := "locksEnds", fn := fun _ => fun
  | [d] => { results := [.lit (.bool false)], args := [d] }
  | _ => none }
def LocksEndsWrongFalsely : Prop := locksEndsRow.holds Tryz.pinned (OpenSpec.ofChange locksEndsWrong)

/-- 'trellislaw8.LocksTells': WHATEVER THE INPUT: true; the input reads as it did. -/
def locksTellsSpec : ChangeSpec := { name := "locksTells", fn := fun _ => fun
  | [d] => { results := [.lit (.bool true)], args := [d] }
  | _ => none }
def locksTellsRow : OpenClaim := { program := "ytoefbpldmlebdaagreatdoor", sum := "c8a21d25fbe41776426575d5d79a4eb0514b9a5cfa1ce66c7a49cb5264345bef", func := "trellis/trellislaw8.LocksTells", spec := "locksTells", inPlace := ["slices.overlaps[trellis/api.Held]", "internal/bytealg.abigen_runtime_cmpstring"], unfollowed := true, recurses := true, named := ["trellis/locks.joins", "trellis/locks.fits"], plainKeys := false, apart := false, laid := [("trellis/locks.fits", laid_trellis_locks_fits), ("trellis/locks.joins", laid_trellis_locks_joins)] }
def LocksTellsSaid : Prop := locksTellsRow.holds Tryz.pinned (OpenSpec.ofChange locksTellsSpec)

/-- ITS FALSE NEIGHBOUR: 'it returns false'. Refute it at one input. -/
def locksTellsWrong : ChangeSpec := { name := "locksTells", fn := fun _ => fun
  | [d] => { results := [.lit (.bool false)], args := [d] }
  | _ => none }
def LocksTellsWrongFalsely : Prop := locksTellsRow.holds Tryz.pinned (OpenSpec.ofChange locksTellsWrong)

/-- 'trellislaw8.LocksLists': WHATEVER THE INPUT: true; the input reads as it did. -/
def locksListsSpec : ChangeSpec := { name := "locksLists", fn := fun _ => fun
  | [d] => { results := [.lit (.bool true)], args := [d] }
  | _ => none }
def locksListsRow : OpenClaim := { program := "ytoefbpldmlebdaagreatdoor", sum := "c8a21d25fbe41776426575d5d79a4eb0514b9a5cfa1ce66c7a49cb5264345bef", func := "trellis/trellislaw8.LocksLists", spec := "locksLists", inPlace := ["slices.overlaps[trellis/api.Held]", "internal/bytealg.abigen_runtime_cmpstring"], unfollowed := true, recurses := true, named := ["trellis/locks.joins", "trellis/locks.fits"], plainKeys := false, apart := false, laid := [("trellis/locks.fits", laid_trellis_locks_fits), ("trellis/locks.joins", laid_trellis_locks_joins)] }
def LocksListsSaid : Prop := locksListsRow.holds Tryz.pinned (OpenSpec.ofChange locksListsSpec)

/-- ITS FALSE NEIGHBOUR: 'it returns false'. Refute it at one input. -/
def locksListsWrong : ChangeSpec := { name := "locksLists", fn := fun _ => fun
  | [d] => { results := [.lit (.bool false)], args := [d] }
  | _ => none }
def LocksListsWrongFalsely : Prop := locksListsRow.holds Tryz.pinned (OpenSpec.ofChange locksListsWrong)

/-- 'trellislaw8.LocksAll': WHATEVER THE INPUT: true; the input reads as it did. -/
def locksAllSpec : ChangeSpec := { name := "locksAll", fn := fun _ => fun
  | [d] => { results := [.lit (.bool true)], args := [d] }
  | _ => none }
def locksAllRow : OpenClaim := { program := "ytoefbpldmlebdaagreatdoor", sum := "c8a21d25fbe41776426575d5d79a4eb0514b9a5cfa1ce66c7a49cb5264345bef", func := "trellis/trellislaw8.LocksAll", spec := "locksAll", inPlace := ["slices.overlaps[trellis/api.Held]", "internal/bytealg.abigen_runtime_cmpstring"], unfollowed := true, recurses := true, named := ["trellis/locks.joins", "trellis/locks.fits"], plainKeys := false, apart := false, laid := [("trellis/locks.fits", laid_trellis_locks_fits), ("trellis/locks.joins", laid_trellis_locks_joins)] }
def LocksAllSaid : Prop := locksAllRow.holds Tryz.pinned (OpenSpec.ofChange locksAllSpec)

/-- ITS FALSE NEIGHBOUR: 'it returns false'. Refute it at one input. -/
def locksAllWrong : ChangeSpec := { name := "locksAll", fn := fun _ => fun
  | [d] => { results := [.lit (.bool false)], args := [d] }
  | _ => none }
def LocksAllWrongFalsely : Prop := locksAllRow.holds Tryz.pinned (OpenSpec.ofChange locksAllWrong)

/- THE SECOND FORM. 'bulk': how many values and letters a reading holds, each counted each time it is reached (what is shared counts as often as it is met; a slice's spare places count too). A statement '..UptoSaid' is the law's where the arguments, and the package variables that the reading takes, are together of bulk at most 1048576: NARROWER than '..Said'. Prove '..Said' where nothing that the law and all that it calls make is longer than what came in: it says more and counts as full. Else prove '..UptoSaid'. A law counts once. -/
mutual
def uptoBulk {H : Type} : DataW H → Nat
  | .lit (.string bytes) => bytes.length + 1
  | .lit _ => 1
  | .nil => 1
  | .ptr d => uptoBulk d + 1
  | .slice elems spare => uptoBulkAll elems + uptoBulkAll spare + 1
  | .agg parts => uptoBulkAll parts + 1
  | .iface _ d => uptoBulk d + 1
  | .map entries => uptoBulkEntries entries + 1
  | .held _ => 1
def uptoBulkAll {H : Type} : List (DataW H) → Nat
  | [] => 0
  | d :: r => uptoBulk d + uptoBulkAll r
def uptoBulkEntries {H : Type} : List (Lit × DataW H) → Nat
  | [] => 0
  | x :: r => uptoBulkEntry x + uptoBulkEntries r
def uptoBulkEntry {H : Type} : Lit × DataW H → Nat
  | (.string bytes, d) => bytes.length + uptoBulk d + 1
  | (_, d) => uptoBulk d + 1
 end
def uptoSmall : (H : Type) → List (DataW H) → Bool := fun _ ds => decide (uptoBulkAll ds ≤ 1048576)
def OpenSpec.upto (s : _root_.Go.ChangeSpec) : _root_.Go.OpenSpec := { _root_.Go.OpenSpec.ofChange s with cond := some uptoSmall }

/-- 'trellislaw8.LocksBegins', WHERE WHAT IT READS IS OF BULK AT MOST 1048576: true; the input reads as it did. -/
def locksBeginsUptoRow : OpenClaim := { program := "ytoefbpldmlebdaagreatdoor", sum := "c8a21d25fbe41776426575d5d79a4eb0514b9a5cfa1ce66c7a49cb5264345bef", func := "trellis/trellislaw8.LocksBegins", spec := "locksBegins", inPlace := ["slices.overlaps[trellis/api.Held]", "internal/bytealg.abigen_runtime_cmpstring"], unfollowed := true, recurses := true, named := ["trellis/locks.joins", "trellis/locks.fits"], plainKeys := false, apart := false, laid := [("trellis/locks.fits", laid_trellis_locks_fits), ("trellis/locks.joins", laid_trellis_locks_joins)], narrowed := true }
def LocksBeginsUptoSaid : Prop := locksBeginsUptoRow.holds Tryz.pinned (OpenSpec.upto locksBeginsSpec)

/-- 'trellislaw8.LocksAsks', WHERE WHAT IT READS IS OF BULK AT MOST 1048576: true; the input reads as it did. -/
def locksAsksUptoRow : OpenClaim := { program := "ytoefbpldmlebdaagreatdoor", sum := "c8a21d25fbe41776426575d5d79a4eb0514b9a5cfa1ce66c7a49cb5264345bef", func := "trellis/trellislaw8.LocksAsks", spec := "locksAsks", inPlace := ["slices.overlaps[trellis/api.Held]", "internal/bytealg.abigen_runtime_cmpstring"], unfollowed := true, recurses := true, named := ["trellis/locks.joins", "trellis/locks.fits"], plainKeys := false, apart := false, laid := [("trellis/locks.fits", laid_trellis_locks_fits), ("trellis/locks.joins", laid_trellis_locks_joins)], narrowed := true }
def LocksAsksUptoSaid : Prop := locksAsksUptoRow.holds Tryz.pinned (OpenSpec.upto locksAsksSpec)

/-- 'trellislaw8.LocksEnds', WHERE WHAT IT READS IS OF BULK AT MOST 1048576: true; the input reads as it did. -/
def locksEndsUptoRow : OpenClaim := { program := "ytoefbpldmlebdaagreatdoor", sum := "c8a21d25fbe41776426575d5d79a4eb0514b9a5cfa1ce66c7a49cb5264345bef", func := "trellis/trellislaw8.LocksEnds", spec := "locksEnds", inPlace := ["slices.overlaps[trellis/api.Held]", "internal/bytealg.abigen_runtime_cmpstring"], unfollowed := true, recurses := true, named := ["trellis/locks.joins", "trellis/locks.fits"], plainKeys := false, apart := false, laid := [("trellis/locks.fits", laid_trellis_locks_fits), ("trellis/locks.joins", laid_trellis_locks_joins)], narrowed := true }
def LocksEndsUptoSaid : Prop := locksEndsUptoRow.holds Tryz.pinned (OpenSpec.upto locksEndsSpec)

/-- 'trellislaw8.LocksTells', WHERE WHAT IT READS IS OF BULK AT MOST 1048576: true; the input reads as it did. -/
def locksTellsUptoRow : OpenClaim := { program := "ytoefbpldmlebdaagreatdoor", sum := "c8a21d25fbe41776426575d5d79a4eb0514b9a5cfa1ce66c7a49cb5264345bef", func := "trellis/trellislaw8.LocksTells", spec := "locksTells", inPlace := ["slices.overlaps[trellis/api.Held]", "internal/bytealg.abigen_runtime_cmpstring"], unfollowed := true, recurses := true, named := ["trellis/locks.joins", "trellis/locks.fits"], plainKeys := false, apart := false, laid := [("trellis/locks.fits", laid_trellis_locks_fits), ("trellis/locks.joins", laid_trellis_locks_joins)], narrowed := true }
def LocksTellsUptoSaid : Prop := locksTellsUptoRow.holds Tryz.pinned (OpenSpec.upto locksTellsSpec)

/-- 'trellislaw8.LocksLists', WHERE WHAT IT READS IS OF BULK AT MOST 1048576: true; the input reads as it did. -/
def locksListsUptoRow : OpenClaim := { program := "ytoefbpldmlebdaagreatdoor", sum := "c8a21d25fbe41776426575d5d79a4eb0514b9a5cfa1ce66c7a49cb5264345bef", func := "trellis/trellislaw8.LocksLists", spec := "locksLists", inPlace := ["slices.overlaps[trellis/api.Held]", "internal/bytealg.abigen_runtime_cmpstring"], unfollowed := true, recurses := true, named := ["trellis/locks.joins", "trellis/locks.fits"], plainKeys := false, apart := false, laid := [("trellis/locks.fits", laid_trellis_locks_fits), ("trellis/locks.joins", laid_trellis_locks_joins)], narrowed := true }
def LocksListsUptoSaid : Prop := locksListsUptoRow.holds Tryz.pinned (OpenSpec.upto locksListsSpec)

/-- 'trellislaw8.LocksAll', WHERE WHAT IT READS IS OF BULK AT MOST 1048576: true; the input reads as it did. -/
def locksAllUptoRow : OpenClaim := { program := "ytoefbpldmlebdaagreatdoor", sum := "c8a21d25fbe41776426575d5d79a4eb0514b9a5cfa1ce66c7a49cb5264345bef", func := "trellis/trellislaw8.LocksAll", spec := "locksAll", inPlace := ["slices.overlaps[trellis/api.Held]", "internal/bytealg.abigen_runtime_cmpstring"], unfollowed := true, recurses := true, named := ["trellis/locks.joins", "trellis/locks.fits"], plainKeys := false, apart := false, laid := [("trellis/locks.fits", laid_trellis_locks_fits), ("trellis/locks.joins", laid_trellis_locks_joins)], narrowed := true }
def LocksAllUptoSaid : Prop := locksAllUptoRow.holds Tryz.pinned (OpenSpec.upto locksAllSpec)

end Rows
end Go.Proofs.YtoefbpldmlebdaaGreatDoor
