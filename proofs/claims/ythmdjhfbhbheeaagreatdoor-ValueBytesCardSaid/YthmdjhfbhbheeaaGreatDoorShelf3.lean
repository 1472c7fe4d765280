import Derived.Ground.NamesProg
import Derived.Shelf.Strconv.Itoa0
import Derived.Test.YthmdjhfbhbheeaaGreatDoorProg
namespace Go.Proofs
open Go.Shelf
def Tryz.laysLen64_ren:Go.Shelf.Ren:=⟨fun|129=>209|n=>n,fun|53=>134|3=>3|4=>4|46=>168|5=>5|9=>9|n=>n,fun|n=>n⟩
theorem Tryz.laysLen64:Go.Proofs.Lays.n129 Tryz.prog Tryz.laysLen64_ren:={
 mixed:=by kernel_rfl
 f129:=Tryz.func209.trans (congrArg some (by kernel_rfl))
 t3:=Tryz.underlying3
 a3:=Tryz.isAgg3
 z3:=Tryz.sizeOf3
 v3:=Tryz.zeroValue3
 t4:=Tryz.underlying4
 a4:=Tryz.isAgg4
 z4:=Tryz.sizeOf4
 v4:=Tryz.zeroValue4
 t5:=Tryz.underlying5
 a5:=Tryz.isAgg5
 z5:=Tryz.sizeOf5
 v5:=Tryz.zeroValue5
 t9:=Tryz.underlying9
 a9:=Tryz.isAgg9
 z9:=Tryz.sizeOf9
 v9:=Tryz.zeroValue9
 t46:=Tryz.underlying168
 a46:=Tryz.isAgg168
 z46:=Tryz.sizeOf168
 v46:=Tryz.zeroValue168
 t53:=Tryz.underlying134
 a53:=Tryz.isAgg134
 z53:=Tryz.sizeOf134
 v53:=Tryz.zeroValue134}
end Go.Proofs
