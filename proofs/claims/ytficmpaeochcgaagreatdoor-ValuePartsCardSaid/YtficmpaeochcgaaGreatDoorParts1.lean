/- FromComplex at every two doubles: the program's answer and the document's. -/
import Derived.Test.YtficmpaeochcgaaGreatDoorDbl
import Derived.Test.YtficmpaeochcgaaGreatDoorCpx
namespace Go.Proofs.YtficmpaeochcgaaGreatDoor
open Go.RowKit

abbrev ordD (x y : Nat) : Option Ordering := FloatKind.f64.format.order x y
set_option maxHeartbeats 400000 in
theorem nan_yes (x : Nat) (ho : ordD x x = none) (w : World) : Calls Tryz.prog 147 #[.float .f64 x] w fun e w' => e = .returned (.bool true) ∧ w' = w := by
  go_enter Tryz.func147, Tryz.ntmps147
  go_wp2
  go_ret
  exact ⟨by simp, rfl⟩
set_option maxHeartbeats 400000 in
theorem nan_no (x : Nat) (ho : ordD x x = some .eq) (w : World) : Calls Tryz.prog 147 #[.float .f64 x] w fun e w' => e = .returned (.bool false) ∧ w' = w := by
  go_enter Tryz.func147, Tryz.ntmps147
  go_wp2
  go_ret
  exact ⟨by simp, rfl⟩
set_option maxRecDepth 100000 in
set_option maxHeartbeats 400000 in
theorem abs_any (x : Nat) (h : x < 2 ^ 64) (w : World) : Calls Tryz.prog 148 #[.float .f64 x] w fun e w' => e = .returned (.float .f64 (strike x)) ∧ w' = w := by
  have h1 := f64bits x
  have h2 := f64from (strike x : Int)
  have h3 : bits .andNot .u64 (x : Int) 9223372036854775808 = (strike x : Int) := bits_strike x h
  clear h
  rw [Int.toNat_natCast] at h2
  go_enter Tryz.func148, Tryz.ntmps148
  go_wp2
  go_ret
  exact ⟨rfl, rfl⟩
set_option maxHeartbeats 400000 in
theorem trunc_num (x : Nat) (h : ∃ s m p, Ieee.double.read x = .number s m p) (w : World) : Calls Tryz.prog 149 #[.float .f64 x] w fun e w' => e = .returned (.float .f64 (tr x)) ∧ w' = w := by
  obtain ⟨s, m, p, hd⟩ := h
  have ht : ∀ w, _ := fun w => run_trunc x w hd
  have e : Ieee.double.write ((Ieee.double.read x).integral .zero) = tr x := rfl
  rw [e] at ht
  clear hd e
  go_enter Tryz.func149, Tryz.ntmps149
  go_wp2
  go_ret
  exact ⟨rfl, rfl⟩
set_option maxRecDepth 100000 in
set_option maxHeartbeats 1000000 in
theorem ft_n1 (x y : Nat) (hx : x < 2 ^ 64) (hy : y < 2 ^ 64) (qx : ordD x x = none) (w : World) : Calls Tryz.prog 109 #[.complex .f64 x y] w fun e w' => e = .returned (.tuple #[.nilIface, .int .i64 13]) ∧ w' = w := by
  have QX : Hid _ := qx
  clear qx
  have HX : Hid _ := hx
  have HY : Hid _ := hy
  clear hx hy
  go_enter Tryz.func109, Tryz.ntmps109
  go_wp2_with fail
  refine (nan_yes x QX.out _).mono ?_
  rintro e w1 ⟨rfl, rfl⟩
  go_wp2
  go_ret2
  exact ⟨rfl, rfl⟩
set_option maxRecDepth 100000 in
set_option maxHeartbeats 1000000 in
theorem ft_n2 (x y : Nat) (hx : x < 2 ^ 64) (hy : y < 2 ^ 64) (qx : ordD x x = some .eq) (qy : ordD y y = none) (w : World) : Calls Tryz.prog 109 #[.complex .f64 x y] w fun e w' => e = .returned (.tuple #[.nilIface, .int .i64 13]) ∧ w' = w := by
  have QX : Hid _ := qx
  clear qx
  have QY : Hid _ := qy
  clear qy
  have HX : Hid _ := hx
  have HY : Hid _ := hy
  clear hx hy
  go_enter Tryz.func109, Tryz.ntmps109
  go_wp2_with fail
  refine (nan_no x QX.out _).mono ?_
  rintro e w1 ⟨rfl, rfl⟩
  go_wp2_with fail
  refine (nan_yes y QY.out _).mono ?_
  rintro e w1 ⟨rfl, rfl⟩
  go_wp2
  go_ret2
  exact ⟨rfl, rfl⟩
set_option maxRecDepth 100000 in
set_option maxHeartbeats 1000000 in
theorem ft_b1 (x y : Nat) (hx : x < 2 ^ 64) (hy : y < 2 ^ 64) (qx : ordD x x = some .eq) (qy : ordD y y = some .eq) (bigx : bigB x = true) (w : World) : Calls Tryz.prog 109 #[.complex .f64 x y] w fun e w' => e = .returned (.tuple #[.nilIface, .int .i64 11]) ∧ w' = w := by
  have QX : Hid _ := qx
  clear qx
  have QY : Hid _ := qy
  clear qy
  have HX : Hid _ := hx
  have HY : Hid _ := hy
  clear hx hy
  have obx : (ordD (strike x) 4719772409484279808 == some .gt) = _ := bigx
  clear bigx
  go_enter Tryz.func109, Tryz.ntmps109
  go_wp2_with fail
  refine (nan_no x QX.out _).mono ?_
  rintro e w1 ⟨rfl, rfl⟩
  go_wp2_with fail
  refine (nan_no y QY.out _).mono ?_
  rintro e w1 ⟨rfl, rfl⟩
  go_wp2_with fail
  refine (abs_any x HX.out _).mono ?_
  rintro e w1 ⟨rfl, rfl⟩
  go_wp2
  go_ret2
  exact ⟨rfl, rfl⟩
set_option maxRecDepth 100000 in
set_option maxHeartbeats 1000000 in
theorem ft_b2 (x y : Nat) (hx : x < 2 ^ 64) (hy : y < 2 ^ 64) (qx : ordD x x = some .eq) (qy : ordD y y = some .eq) (bigx : bigB x = false) (bigy : bigB y = true) (w : World) : Calls Tryz.prog 109 #[.complex .f64 x y] w fun e w' => e = .returned (.tuple #[.nilIface, .int .i64 11]) ∧ w' = w := by
  have QX : Hid _ := qx
  clear qx
  have QY : Hid _ := qy
  clear qy
  have HX : Hid _ := hx
  have HY : Hid _ := hy
  clear hx hy
  have obx : (ordD (strike x) 4719772409484279808 == some .gt) = _ := bigx
  clear bigx
  have oby : (ordD (strike y) 4719772409484279808 == some .gt) = _ := bigy
  clear bigy
  go_enter Tryz.func109, Tryz.ntmps109
  go_wp2_with fail
  refine (nan_no x QX.out _).mono ?_
  rintro e w1 ⟨rfl, rfl⟩
  go_wp2_with fail
  refine (nan_no y QY.out _).mono ?_
  rintro e w1 ⟨rfl, rfl⟩
  go_wp2_with fail
  refine (abs_any x HX.out _).mono ?_
  rintro e w1 ⟨rfl, rfl⟩
  go_wp2_with fail
  refine (abs_any y HY.out _).mono ?_
  rintro e w1 ⟨rfl, rfl⟩
  go_wp2
  go_ret2
  exact ⟨rfl, rfl⟩
set_option maxRecDepth 100000 in
set_option maxHeartbeats 1000000 in
theorem ft_f1 (x y : Nat) (hx : x < 2 ^ 64) (hy : y < 2 ^ 64) (qx : ordD x x = some .eq) (qy : ordD y y = some .eq) (bigx : bigB x = false) (bigy : bigB y = false) (rx : ∃ s m p, Ieee.double.read x = .number s m p) (fx : frB x = true) (w : World) : Calls Tryz.prog 109 #[.complex .f64 x y] w fun e w' => e = .returned (.tuple #[.nilIface, .int .i64 13]) ∧ w' = w := by
  have QX : Hid _ := qx
  clear qx
  have QY : Hid _ := qy
  clear qy
  have RX : Hid _ := rx
  clear rx
  have HX : Hid _ := hx
  have HY : Hid _ := hy
  clear hx hy
  have obx : (ordD (strike x) 4719772409484279808 == some .gt) = _ := bigx
  clear bigx
  have oby : (ordD (strike y) 4719772409484279808 == some .gt) = _ := bigy
  clear bigy
  have ofx : (ordD (tr x) x != some .eq) = _ := fx
  clear fx
  go_enter Tryz.func109, Tryz.ntmps109
  go_wp2_with fail
  refine (nan_no x QX.out _).mono ?_
  rintro e w1 ⟨rfl, rfl⟩
  go_wp2_with fail
  refine (nan_no y QY.out _).mono ?_
  rintro e w1 ⟨rfl, rfl⟩
  go_wp2_with fail
  refine (abs_any x HX.out _).mono ?_
  rintro e w1 ⟨rfl, rfl⟩
  go_wp2_with fail
  refine (abs_any y HY.out _).mono ?_
  rintro e w1 ⟨rfl, rfl⟩
  go_wp2_with fail
  refine (trunc_num x RX.out _).mono ?_
  rintro e w1 ⟨rfl, rfl⟩
  go_wp2
  go_ret2
  exact ⟨rfl, rfl⟩
set_option maxRecDepth 100000 in
set_option maxHeartbeats 1000000 in
theorem ft_f2 (x y : Nat) (hx : x < 2 ^ 64) (hy : y < 2 ^ 64) (qx : ordD x x = some .eq) (qy : ordD y y = some .eq) (bigx : bigB x = false) (bigy : bigB y = false) (rx : ∃ s m p, Ieee.double.read x = .number s m p) (fx : frB x = false) (ry : ∃ s m p, Ieee.double.read y = .number s m p) (fy : frB y = true) (w : World) : Calls Tryz.prog 109 #[.complex .f64 x y] w fun e w' => e = .returned (.tuple #[.nilIface, .int .i64 13]) ∧ w' = w := by
  have QX : Hid _ := qx
  clear qx
  have QY : Hid _ := qy
  clear qy
  have RX : Hid _ := rx
  clear rx
  have RY : Hid _ := ry
  clear ry
  have HX : Hid _ := hx
  have HY : Hid _ := hy
  clear hx hy
  have obx : (ordD (strike x) 4719772409484279808 == some .gt) = _ := bigx
  clear bigx
  have oby : (ordD (strike y) 4719772409484279808 == some .gt) = _ := bigy
  clear bigy
  have ofx : (ordD (tr x) x != some .eq) = _ := fx
  clear fx
  have ofy : (ordD (tr y) y != some .eq) = _ := fy
  clear fy
  go_enter Tryz.func109, Tryz.ntmps109
  go_wp2_with fail
  refine (nan_no x QX.out _).mono ?_
  rintro e w1 ⟨rfl, rfl⟩
  go_wp2_with fail
  refine (nan_no y QY.out _).mono ?_
  rintro e w1 ⟨rfl, rfl⟩
  go_wp2_with fail
  refine (abs_any x HX.out _).mono ?_
  rintro e w1 ⟨rfl, rfl⟩
  go_wp2_with fail
  refine (abs_any y HY.out _).mono ?_
  rintro e w1 ⟨rfl, rfl⟩
  go_wp2_with fail
  refine (trunc_num x RX.out _).mono ?_
  rintro e w1 ⟨rfl, rfl⟩
  go_wp2_with fail
  refine (trunc_num y RY.out _).mono ?_
  rintro e w1 ⟨rfl, rfl⟩
  go_wp2
  go_ret2
  exact ⟨rfl, rfl⟩
set_option maxRecDepth 100000 in
set_option maxHeartbeats 1000000 in
theorem ft_ok (x y : Nat) (hx : x < 2 ^ 64) (hy : y < 2 ^ 64) (qx : ordD x x = some .eq) (qy : ordD y y = some .eq) (bigx : bigB x = false) (bigy : bigB y = false) (rx : ∃ s m p, Ieee.double.read x = .number s m p) (fx : frB x = false) (ry : ∃ s m p, Ieee.double.read y = .number s m p) (fy : frB y = false) (w : World) : Calls Tryz.prog 109 #[.complex .f64 x y] w fun e w' => e = .returned (.tuple #[.iface 136 (.complex .f64 x y), .int .i64 0]) ∧ w' = w := by
  have QX : Hid _ := qx
  clear qx
  have QY : Hid _ := qy
  clear qy
  have RX : Hid _ := rx
  clear rx
  have RY : Hid _ := ry
  clear ry
  have HX : Hid _ := hx
  have HY : Hid _ := hy
  clear hx hy
  have obx : (ordD (strike x) 4719772409484279808 == some .gt) = _ := bigx
  clear bigx
  have oby : (ordD (strike y) 4719772409484279808 == some .gt) = _ := bigy
  clear bigy
  have ofx : (ordD (tr x) x != some .eq) = _ := fx
  clear fx
  have ofy : (ordD (tr y) y != some .eq) = _ := fy
  clear fy
  go_enter Tryz.func109, Tryz.ntmps109
  go_wp2_with fail
  refine (nan_no x QX.out _).mono ?_
  rintro e w1 ⟨rfl, rfl⟩
  go_wp2_with fail
  refine (nan_no y QY.out _).mono ?_
  rintro e w1 ⟨rfl, rfl⟩
  go_wp2_with fail
  refine (abs_any x HX.out _).mono ?_
  rintro e w1 ⟨rfl, rfl⟩
  go_wp2_with fail
  refine (abs_any y HY.out _).mono ?_
  rintro e w1 ⟨rfl, rfl⟩
  go_wp2_with fail
  refine (trunc_num x RX.out _).mono ?_
  rintro e w1 ⟨rfl, rfl⟩
  go_wp2_with fail
  refine (trunc_num y RY.out _).mono ?_
  rintro e w1 ⟨rfl, rfl⟩
  go_wp2
  go_ret2
  exact ⟨rfl, rfl⟩
theorem cv_int (t : TypeId) (x : Nat) (a : Int) (h : floatToIntVal .f64 x .i64 = some a) (ht : (Tryz.prog.underlying t).isSome = true) (w : World) : (convert t 2 (.float .f64 x)).run Tryz.prog w = .ok (.int .i64 a) w :=
  run_convert_float_int w t 2 .f64 .i64 x a ht Tryz.underlying2 h
set_option maxRecDepth 100000 in
set_option maxHeartbeats 400000 in
theorem parts_i (x y : Nat) (a b : Int) (hx : floatToIntVal .f64 x .i64 = some a) (hy : floatToIntVal .f64 y .i64 = some b) (w : World) :
    Calls Tryz.prog 153 #[.complex .f64 x y] w fun e w' => e = .returned (.tuple #[.int .i64 a, .int .i64 b]) ∧ w' = w := by
  have c1 := fun w => cv_int 84 x a hx (by kernel_rfl) w
  have c2 := fun w => cv_int 84 y b hy (by kernel_rfl) w
  clear hx hy
  go_enter Tryz.func153, Tryz.ntmps153
  go_wp2
  go_ret2
  exact ⟨rfl, rfl⟩
set_option maxRecDepth 100000 in
set_option maxHeartbeats 400000 in
theorem val_i (x y : Nat) (a b : Int) (hx : floatToIntVal .f64 x .i64 = some a) (hy : floatToIntVal .f64 y .i64 = some b) (w : World) :
    Calls Tryz.prog 258 #[.complex .f64 x y] w fun e w' => e = .returned (V 3 a b E0) ∧ G w w' := by
  go_enter Tryz.func258, Tryz.ntmps258
  go_wp2_with fail
  refine (parts_i x y a b hx hy _).mono ?_
  rintro e w1 ⟨rfl, rfl⟩
  go_wp2
  exact bodyPost_ret (v := V 3 a b E0) (by simp [results, Tryz.results258, go_sem]) rfl ⟨rfl, by repeat (first | exact G.refl _ | assumption | refine G.alloc ?_ _ | refine G.drew ?_ | refine G.setCell ?_ (by simp) _ | refine G.trans ?_ (by assumption))⟩
set_option maxRecDepth 100000 in
set_option maxHeartbeats 400000 in
theorem answer_i (x y : Nat) (a b : Int) (hx : floatToIntVal .f64 x .i64 = some a) (hy : floatToIntVal .f64 y .i64 = some b) (w : World) :
    Calls Tryz.prog 38 #[.iface 136 (.complex .f64 x y), .int .i64 0] w fun e w' => e = .returned (.tuple #[V 3 a b E0, .int .i64 0]) ∧ G w w' := by
  have hm := m_val_cpx x y
  have HV : Hid (∀ w, Calls Tryz.prog 258 #[.complex .f64 x y] w fun e w' => e = .returned (V 3 a b E0) ∧ G w w') := fun w => val_i x y a b hx hy w
  clear hx hy
  go_enter Tryz.func38, Tryz.ntmps38
  go_wp2_with (go_at_call 258; refine (HV.out _).mono ?_; rintro e w2 ⟨rfl, hb2⟩; obtain ⟨hc2, hf2⟩ := hb2.rules; have hz2 : w.heap.size < w2.heap.size := by have := hb2.size; simp at this; omega)
  exact bodyPost_ret (v := .tuple #[V 3 a b E0, .int .i64 0]) (by simp [results, Tryz.results38, go_sem, hc2]) rfl ⟨rfl, by repeat (first | exact G.refl _ | assumption | refine G.alloc ?_ _ | refine G.drew ?_ | refine G.setCell ?_ (by simp) _ | refine G.trans ?_ (by assumption))⟩
set_option maxRecDepth 100000 in
set_option maxHeartbeats 400000 in
theorem answer_er (x : Value) (c : Int) (h : (c != 0) = true) (w : World) : Calls Tryz.prog 38 #[x, .int .i64 c] w fun e w' => e = .returned (.tuple #[V0, .int .i64 c]) ∧ G w w' := by
  go_enter Tryz.func38, Tryz.ntmps38
  go_wp2
  exact bodyPost_ret (v := .tuple #[V0, .int .i64 c]) (by simp [results, Tryz.results38, go_sem]) rfl ⟨rfl, by repeat (first | exact G.refl _ | assumption | refine G.alloc ?_ _ | refine G.drew ?_ | refine G.setCell ?_ (by simp) _ | refine G.trans ?_ (by assumption))⟩
set_option maxRecDepth 100000 in
set_option maxHeartbeats 400000 in
theorem fc_of (x y : Nat) (q : Value) (c : Int) (k a b c' : Int) (h1 : ∀ w, Calls Tryz.prog 109 #[.complex .f64 x y] w fun e w' => e = .returned (.tuple #[q, .int .i64 c]) ∧ w' = w)
    (h2 : ∀ w, Calls Tryz.prog 38 #[q, .int .i64 c] w fun e w' => e = .returned (.tuple #[V k a b E0, .int .i64 c']) ∧ G w w') (w : World) : Calls Tryz.prog 67 #[.complex .f64 x y] w fun e w' => e = .returned (.tuple #[V k a b E0, .int .i64 c']) ∧ G w w' := by
  have H1 : Hid _ := h1
  have H2 : Hid _ := h2
  clear h1 h2
  go_enter Tryz.func67, Tryz.ntmps67
  go_wp2_with fail
  refine (H1.out _).mono ?_
  rintro e w1 ⟨rfl, rfl⟩
  go_wp2_with fail
  refine (H2.out _).mono ?_
  rintro e w2 ⟨rfl, hb2⟩
  obtain ⟨hc2, hf2⟩ := hb2.rules
  have hz2 := hb2.size
  go_wp2
  exact bodyPost_ret (v := .tuple #[V k a b E0, .int .i64 c']) (by simp [results, Tryz.results67, go_sem, hc2]) rfl ⟨rfl, by repeat (first | exact G.refl _ | assumption | refine G.alloc ?_ _ | refine G.drew ?_ | refine G.setCell ?_ (by simp) _ | refine G.trans ?_ (by assumption))⟩
end Go.Proofs.YtficmpaeochcgaaGreatDoor
