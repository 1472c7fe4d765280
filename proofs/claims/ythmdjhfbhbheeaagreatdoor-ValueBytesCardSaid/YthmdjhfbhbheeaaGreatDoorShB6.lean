import Derived.Ground.NamesProg
import Derived.Shelf.Strings.LastIndex
import Derived.Test.YthmdjhfbhbheeaaGreatDoorProg
namespace Go.Proofs
open Go.Shelf
def Tryz.laysLastIndexByte_ren:Go.Shelf.Ren:=⟨fun|149=>164|222=>178|n=>n,fun|9=>9|5=>5|3=>3|4=>4|n=>n,fun|n=>n⟩
theorem Tryz.laysLastIndexByte:Go.Proofs.Lays.n149 Tryz.prog Tryz.laysLastIndexByte_ren:={
 mixed:=by kernel_rfl
 f149:=Tryz.func164.trans (congrArg some (by kernel_rfl))
 f222:=Tryz.func178.trans (congrArg some (by kernel_rfl))
 t3:=Tryz.underlying3
 a3:=Tryz.isAgg3
 z3:=Tryz.sizeOf3
 v3:=Tryz.zeroValue3
 t4:=Tryz.underlying4
 a4:=Tryz.isAgg4
 z4:=Tryz.sizeOf4
 v4:=Tryz.zeroValue4
 t5:=Tryz.underlying5
 a5:=Tryz.isAgg5
 z5:=Tryz.sizeOf5
 v5:=Tryz.zeroValue5
 t9:=Tryz.underlying9
 a9:=Tryz.isAgg9
 z9:=Tryz.sizeOf9
 v9:=Tryz.zeroValue9}
end Go.Proofs
