import Derived.Ground.NamesProg
import Derived.Shelf.Small.Strs
import Derived.Test.YtadfaiciolfgjaaGreatDoorProg
namespace Go.Proofs
open Go.Shelf
def Tryz.laysStrCmp_ren:Go.Shelf.Ren:=⟨fun|106=>98|213=>121|265=>139|n=>n,fun|9=>9|3=>3|n=>n,fun|n=>n⟩
theorem Tryz.laysStrCmp:Go.Proofs.Lays.n106 Tryz.prog Tryz.laysStrCmp_ren:={
 mixed:=by kernel_rfl
 f106:=Tryz.func98.trans (congrArg some (by kernel_rfl))
 f213:=Tryz.func121.trans (congrArg some (by kernel_rfl))
 f265:=Tryz.func139.trans (congrArg some (by kernel_rfl))
 t3:=Tryz.underlying3
 a3:=Tryz.isAgg3
 z3:=Tryz.sizeOf3
 v3:=Tryz.zeroValue3
 t9:=Tryz.underlying9
 a9:=Tryz.isAgg9
 z9:=Tryz.sizeOf9
 v9:=Tryz.zeroValue9}
end Go.Proofs
