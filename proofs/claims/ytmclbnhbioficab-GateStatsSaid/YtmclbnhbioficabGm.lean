/- Where this dump holds sync.Mutex. -/
import Derived.Test.YtmclbnhbioficabRows
import Derived.Conc.MuLone
import Derived.Conc.MuData
import Derived.KernelRfl
namespace Go.Proofs.Ytmclbnhbioficab
abbrev muLink : Go.Conc.Locks.MuLink := { lock := 29, unlock := 30, ilock := 45, iunlock := 46, lockSlow := 58, unlockSlow := 61, disable := 54, enable := 56, acquire := 57, relMerge := 59, cas32 := 55, add32 := 60, tMutex := 45, tIMutex := 43, tPMutex := 84, tPIMutex := 90, tPI32 := 92, tUP := 94, tNoCopy := 40, tU32 := 41 }
theorem muLib : Go.Conc.Locks.MuLib Try.prog muLink := ⟨Try.func29, Try.func30, Try.func45, Try.func46, Try.func54, Try.func56, Try.func57, Try.func59, Try.func55, Try.func60, Try.underlying43, Try.runUnderlying43, Try.sizeOf43, Try.isAgg43, Try.zeroValue43, Try.underlying45, Try.runUnderlying45, Try.sizeOf45, Try.isAgg45, Try.zeroValue45, Try.underlying84, Try.runUnderlying84, Try.sizeOf84, Try.isAgg84, Try.zeroValue84, Try.underlying90, Try.runUnderlying90, Try.sizeOf90, Try.isAgg90, Try.zeroValue90, Try.underlying92, Try.runUnderlying92, Try.sizeOf92, Try.isAgg92, Try.zeroValue92, Try.underlying94, Try.runUnderlying94, Try.sizeOf94, Try.isAgg94, Try.zeroValue94, Try.underlying40, Try.runUnderlying40, Try.sizeOf40, Try.isAgg40, Try.zeroValue40, Try.underlying21, Try.runUnderlying21, Try.sizeOf21, Try.isAgg21, Try.zeroValue21, (by kernel_rfl)⟩
end Go.Proofs.Ytmclbnhbioficab
