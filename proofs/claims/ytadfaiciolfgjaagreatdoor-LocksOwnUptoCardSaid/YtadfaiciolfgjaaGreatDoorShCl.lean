import Derived.Shelf.SlGeneric
import Derived.Ground.SlgnProg
import Derived.Shelf.SlicesE.Clone
import Derived.Test.YtadfaiciolfgjaaGreatDoorProg
namespace Go.Proofs
open Go.Shelf
def Tryz.cloneHeld_ren:Go.Shelf.Ren:=⟨fun|41=>81|n=>n,fun|22=>91|23=>68|4=>4|n=>n,fun|n=>n⟩
theorem Tryz.cloneHeld:Go.Proofs.SlLaysE0.n41 Tryz.prog Tryz.cloneHeld_ren:={
 mixed:=by kernel_rfl
 f41:=⟨Tryz.f81.name,by decide,Tryz.func81.trans (congrArg some (by kernel_rfl))⟩
 t4:=Tryz.underlying4
 a4:=Tryz.isAgg4
 z4:=Tryz.sizeOf4
 v4:=Tryz.zeroValue4
 t22:=Tryz.underlying91
 a22:=Tryz.isAgg91
 z22:=Tryz.sizeOf91
 v22:=Tryz.zeroValue91}
end Go.Proofs
