import Derived.Ground.NamesProg
import Derived.Shelf.Small.Wraps
import Derived.Test.YthmdjhfbhbheeaaGreatDoorProg
namespace Go.Proofs
open Go.Shelf
def Tryz.laysFormatBool_ren:Go.Shelf.Ren:=⟨fun|121=>241|214=>242|n=>n,fun|4=>4|9=>9|n=>n,fun|n=>n⟩
theorem Tryz.laysFormatBool:Go.Proofs.Lays.n121 Tryz.prog Tryz.laysFormatBool_ren:={
 mixed:=by kernel_rfl
 f121:=Tryz.func241.trans (congrArg some (by kernel_rfl))
 f214:=Tryz.func242.trans (congrArg some (by kernel_rfl))
 t4:=Tryz.underlying4
 a4:=Tryz.isAgg4
 z4:=Tryz.sizeOf4
 v4:=Tryz.zeroValue4
 t9:=Tryz.underlying9
 a9:=Tryz.isAgg9
 z9:=Tryz.sizeOf9
 v9:=Tryz.zeroValue9}
end Go.Proofs
