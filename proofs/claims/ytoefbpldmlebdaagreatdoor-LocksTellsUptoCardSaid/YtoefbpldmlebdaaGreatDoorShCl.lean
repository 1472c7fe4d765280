import Derived.Shelf.SlGeneric
import Derived.Ground.SlgnProg
import Derived.Shelf.SlicesE.Clone
import Derived.Test.YtoefbpldmlebdaaGreatDoorProg
namespace Go.Proofs
open Go.Shelf
def Tryz.cloneHeld_ren:Go.Shelf.Ren:=⟨fun|41=>47|n=>n,fun|22=>49|23=>77|4=>4|n=>n,fun|n=>n⟩
theorem Tryz.cloneHeld:Go.Proofs.SlLaysE0.n41 Tryz.prog Tryz.cloneHeld_ren:={
 mixed:=by kernel_rfl
 f41:=⟨Tryz.f47.name,by decide,Tryz.func47.trans (congrArg some (by kernel_rfl))⟩
 t4:=Tryz.underlying4
 a4:=Tryz.isAgg4
 z4:=Tryz.sizeOf4
 v4:=Tryz.zeroValue4
 t22:=Tryz.underlying49
 a22:=Tryz.isAgg49
 z22:=Tryz.sizeOf49
 v22:=Tryz.zeroValue49}
end Go.Proofs
