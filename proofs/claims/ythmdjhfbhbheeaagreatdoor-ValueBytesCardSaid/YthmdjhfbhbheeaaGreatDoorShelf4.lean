import Derived.Ground.NamesProg
import Derived.Shelf.Bytes.SlSmallAll
import Derived.Test.YthmdjhfbhbheeaaGreatDoorProg
namespace Go.Proofs
open Go.Shelf
def Tryz.laysBytesPrefix_ren:Go.Shelf.Ren:=⟨fun|116=>104|115=>142|n=>n,fun|37=>33|4=>4|3=>3|9=>9|5=>5|n=>n,fun|n=>n⟩
theorem Tryz.laysBytesPrefix:Go.Proofs.Lays.nb116 Tryz.prog Tryz.laysBytesPrefix_ren:={
 mixed:=by kernel_rfl
 f115:=Tryz.func142.trans (congrArg some (by kernel_rfl))
 f116:=Tryz.func104.trans (congrArg some (by kernel_rfl))
 t3:=Tryz.underlying3
 a3:=Tryz.isAgg3
 z3:=Tryz.sizeOf3
 v3:=Tryz.zeroValue3
 t4:=Tryz.underlying4
 a4:=Tryz.isAgg4
 z4:=Tryz.sizeOf4
 v4:=Tryz.zeroValue4
 t9:=Tryz.underlying9
 a9:=Tryz.isAgg9
 z9:=Tryz.sizeOf9
 v9:=Tryz.zeroValue9
 t37:=Tryz.underlying33
 a37:=Tryz.isAgg33
 z37:=Tryz.sizeOf33
 v37:=Tryz.zeroValue33
 t5:=Tryz.underlying5
 a5:=Tryz.isAgg5
 z5:=Tryz.sizeOf5
 v5:=Tryz.zeroValue5}
end Go.Proofs
