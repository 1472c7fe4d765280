/-
  DERIVED: THE SHELF's CONTRACTS AT THIS DUMP, IN PLAIN WORDS (tools/lay-plain.mjs out of 'YthpflfkgbapbnaaGreatDoorShB7.lean', which tools/lay-shelf.mjs wrote): THE SAME DECLARATIONS UNDER THE SAME NAMES: 'import', 'namespace', 'open', 'def', 'theorem' AND NOTHING ELSE: no command of the shelf's: FOR A HAND-IN. Each laying: the table of numbers ('.._ren') and one theorem, a field a fact of the dump's own or the kernel's comparison; each contract: ONE APPLICATION.
-/
import Derived.Ground.NamesProg
import Derived.Shelf.Small.Wraps
import Derived.Test.YthpflfkgbapbnaaGreatDoorProg
namespace Go.Proofs
open Go.Shelf
def Tryz.laysFormatBool_ren : Go.Shelf.Ren := ⟨fun | 121 => 189 | 214 => 190 | n => n, fun | 4 => 4 | 9 => 9 | n => n, fun | n => n⟩
theorem Tryz.laysFormatBool : Go.Proofs.Lays.n121 Tryz.prog Tryz.laysFormatBool_ren := {
  mixed := by kernel_rfl
  f121 := Tryz.func189.trans (congrArg some (by kernel_rfl))
  f214 := Tryz.func190.trans (congrArg some (by kernel_rfl))
  t4 := Tryz.underlying4
  a4 := Tryz.isAgg4
  z4 := Tryz.sizeOf4
  v4 := Tryz.zeroValue4
  t9 := Tryz.underlying9
  a9 := Tryz.isAgg9
  z9 := Tryz.sizeOf9
  v9 := Tryz.zeroValue9 }
end Go.Proofs
