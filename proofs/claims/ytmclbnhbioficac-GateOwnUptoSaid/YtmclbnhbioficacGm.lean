/- Where this dump holds sync.Mutex. -/
import Derived.Test.YtmclbnhbioficacRows
import Derived.Conc.MuLone
import Derived.Conc.MuData
import Derived.KernelRfl
namespace Go.Proofs.Ytmclbnhbioficac
abbrev muLink : Go.Conc.Locks.MuLink := { lock := 14, unlock := 15, ilock := 32, iunlock := 33, lockSlow := 48, unlockSlow := 51, disable := 44, enable := 46, acquire := 47, relMerge := 49, cas32 := 45, add32 := 50, tMutex := 55, tIMutex := 53, tPMutex := 79, tPIMutex := 90, tPI32 := 92, tUP := 94, tNoCopy := 50, tU32 := 51 }
theorem muLib : Go.Conc.Locks.MuLib Try.prog muLink := ⟨Try.func14, Try.func15, Try.func32, Try.func33, Try.func44, Try.func46, Try.func47, Try.func49, Try.func45, Try.func50, Try.underlying53, Try.runUnderlying53, Try.sizeOf53, Try.isAgg53, Try.zeroValue53, Try.underlying55, Try.runUnderlying55, Try.sizeOf55, Try.isAgg55, Try.zeroValue55, Try.underlying79, Try.runUnderlying79, Try.sizeOf79, Try.isAgg79, Try.zeroValue79, Try.underlying90, Try.runUnderlying90, Try.sizeOf90, Try.isAgg90, Try.zeroValue90, Try.underlying92, Try.runUnderlying92, Try.sizeOf92, Try.isAgg92, Try.zeroValue92, Try.underlying94, Try.runUnderlying94, Try.sizeOf94, Try.isAgg94, Try.zeroValue94, Try.underlying50, Try.runUnderlying50, Try.sizeOf50, Try.isAgg50, Try.zeroValue50, Try.underlying21, Try.runUnderlying21, Try.sizeOf21, Try.isAgg21, Try.zeroValue21, (by kernel_rfl)⟩
end Go.Proofs.Ytmclbnhbioficac
