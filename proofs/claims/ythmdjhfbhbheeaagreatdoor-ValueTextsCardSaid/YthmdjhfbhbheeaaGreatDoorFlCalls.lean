/- Calls over floats that are whole numbers. -/
import Derived.Test.YthmdjhfbhbheeaaGreatDoorBase
import Derived.Test.YthmdjhfbhbheeaaGreatDoorFl
namespace Go.Proofs.YthmdjhfbhbheeaaGreatDoor
open Go.RowKit

abbrev fl (n : Int) : Nat := floatOfInt .f64 n
theorem f64bits (b : Nat) (w : World) : (callFunc 167 #[.float .f64 b]).run Tryz.prog w = .ok (.value (.int .u64 b)) w := by kernel_rfl
theorem f64from (n : Int) (w : World) : (callFunc 166 #[.int .u64 n]).run Tryz.prog w = .ok (.value (.float .f64 n.toNat)) w := by kernel_rfl
theorem q_trunc1 : (Tryz.f168.name == "runtime.NumGoroutine") = false := by kernel_rfl
theorem q_trunc2 : Tryz.f168.body.isNone = true := by kernel_rfl
theorem q_trunc3 : Extern.findNext Tryz.f168 = none := by kernel_rfl
theorem q_trunc4 : Extern.find Tryz.f168 = some (Extern.MathFloor.toIntegral "math.archTrunc" .zero) := by kernel_rfl
theorem run_trunc (x : Nat) (w : World) {s : Bool} {m : Nat} {p : Int} (h : Ieee.double.read x = .number s m p) : (callFunc 168 #[.float .f64 x]).run Tryz.prog w = .ok (.value (.float .f64 (Ieee.double.write ((Ieee.double.read x).integral .zero)))) w := by
  rw [run_callFunc_extern Tryz.func168 q_trunc1 q_trunc2 q_trunc3 q_trunc4]
  have e : ∀ D : Ieee.Datum, FloatKind.f64.decode x = D → (∃ s m p, D = .number s m p) → (Extern.MathFloor.toIntegral "math.archTrunc" .zero #[.float .f64 x]).run Tryz.prog w = .ok (.float .f64 (Ieee.double.write (D.integral .zero))) w := by
    intro D hD hN
    obtain ⟨s, m, p, rfl⟩ := hN
    delta Extern.MathFloor.toIntegral
    show Sem.run _ (Extern.MathFloor.toIntegral.match_1 (motive := fun _ => Sem Value) (FloatKind.f64.decode x) _ _) w = _
    rw [hD]
    rfl
  rw [e _ rfl ⟨s, m, p, h⟩]
  rfl
theorem q_floor1 : (Tryz.f193.name == "runtime.NumGoroutine") = false := by kernel_rfl
theorem q_floor2 : Tryz.f193.body.isNone = true := by kernel_rfl
theorem q_floor3 : Extern.findNext Tryz.f193 = none := by kernel_rfl
theorem q_floor4 : Extern.find Tryz.f193 = some (Extern.MathFloor.toIntegral "math.archFloor" .down) := by kernel_rfl
theorem run_floor (x : Nat) (w : World) {s : Bool} {m : Nat} {p : Int} (h : Ieee.double.read x = .number s m p) : (callFunc 193 #[.float .f64 x]).run Tryz.prog w = .ok (.value (.float .f64 (Ieee.double.write ((Ieee.double.read x).integral .down)))) w := by
  rw [run_callFunc_extern Tryz.func193 q_floor1 q_floor2 q_floor3 q_floor4]
  have e : ∀ D : Ieee.Datum, FloatKind.f64.decode x = D → (∃ s m p, D = .number s m p) → (Extern.MathFloor.toIntegral "math.archFloor" .down #[.float .f64 x]).run Tryz.prog w = .ok (.float .f64 (Ieee.double.write (D.integral .down))) w := by
    intro D hD hN
    obtain ⟨s, m, p, rfl⟩ := hN
    delta Extern.MathFloor.toIntegral
    show Sem.run _ (Extern.MathFloor.toIntegral.match_1 (motive := fun _ => Sem Value) (FloatKind.f64.decode x) _ _) w = _
    rw [hD]
    rfl
  rw [e _ rfl ⟨s, m, p, h⟩]
  rfl

set_option maxHeartbeats 400000 in
theorem nan_fl (x : Nat) (a : Int) (h : Fl x a) (w : World) : Calls Tryz.prog 144 #[.float .f64 x] w fun e w' => e = .returned (.bool false) ∧ w' = w := by
  have ho : FloatKind.f64.format.order x x = some .eq := by have := h.order h; simpa [FloatKind.format, compare, compareOfLessAndEq] using this
  clear h
  go_enter Tryz.func144, Tryz.ntmps144
  go_wp2
  go_ret
  exact ⟨by simp, rfl⟩
/-- The bits with the sign struck, behind a name. -/
def strike (x : Nat) : Nat := x % 9223372036854775808
set_option maxRecDepth 100000 in
set_option maxHeartbeats 400000 in
theorem abs_fl (x : Nat) (a : Int) (h : Fl x a) (w : World) : Calls Tryz.prog 145 #[.float .f64 x] w fun e w' => e = .returned (.float .f64 (strike x)) ∧ w' = w := by
  have h1 := f64bits x
  have h2 := f64from (strike x : Int)
  have h3 : bits .andNot .u64 (x : Int) 9223372036854775808 = (strike x : Int) := bits_strike x h.1
  clear h
  rw [Int.toNat_natCast] at h2
  go_enter Tryz.func145, Tryz.ntmps145
  go_wp2
  go_ret
  exact ⟨rfl, rfl⟩
set_option maxHeartbeats 400000 in
theorem trunc_fl (x : Nat) (a : Int) (h : Fl x a) (ha : a.natAbs < 2 ^ 53) (w : World) : Calls Tryz.prog 146 #[.float .f64 x] w fun e w' => (∃ r, e = .returned (.float .f64 r) ∧ Fl r a) ∧ w' = w := by
  obtain ⟨hr, s, m, p, hd⟩ := h.integral ha .zero
  have ht := fun w => run_trunc x w hd
  generalize Ieee.double.write ((Ieee.double.read x).integral .zero) = r at hr ht
  clear hd h ha
  have HR : Hid _ := hr
  clear hr
  go_enter Tryz.func146, Tryz.ntmps146
  go_wp2
  go_ret
  exact ⟨⟨r, rfl, HR.out⟩, rfl⟩
set_option maxHeartbeats 400000 in
theorem floor_fl (x : Nat) (a : Int) (h : Fl x a) (ha : a.natAbs < 2 ^ 53) (w : World) : Calls Tryz.prog 184 #[.float .f64 x] w fun e w' => (∃ r, e = .returned (.float .f64 r) ∧ Fl r a) ∧ w' = w := by
  obtain ⟨hr, s, m, p, hd⟩ := h.integral ha .down
  have ht := fun w => run_floor x w hd
  generalize Ieee.double.write ((Ieee.double.read x).integral .down) = r at hr ht
  clear hd h ha
  have HR : Hid _ := hr
  clear hr
  go_enter Tryz.func184, Tryz.ntmps184
  go_wp2
  go_ret
  exact ⟨⟨r, rfl, HR.out⟩, rfl⟩
end Go.Proofs.YthmdjhfbhbheeaaGreatDoor
