/- Complex items: fit, parts, val, number, itemOf, answer. -/
import Derived.Test.YtifioikdhfhljaaGreatDoorItems
import Derived.Test.YtifioikdhfhljaaGreatDoorFlCalls
namespace Go.Proofs.YtifioikdhfhljaaGreatDoor
open Go.RowKit

theorem ord_le {x : Nat} {a : Int} (h : Fl x a) (ha : a.natAbs ≤ 33554432) : (FloatKind.f64.format.order (strike x) 4719772409484279808 == some .gt) = false := by
  have := h.abs.order Fl.most
  have e : FloatKind.f64.format.order (strike x) 4719772409484279808 = some (compare (a.natAbs : Int) 33554432) := this
  rw [e]
  simp only [compare, compareOfLessAndEq]
  by_cases c : (a.natAbs : Int) < 33554432
  · simp [c]
  · have : (a.natAbs : Int) = 33554432 := by omega
    simp [this]
theorem ord_gt {x : Nat} {a : Int} (h : Fl x a) (ha : 33554432 < a.natAbs) : (FloatKind.f64.format.order (strike x) 4719772409484279808 == some .gt) = true := by
  have := h.abs.order Fl.most
  have e : FloatKind.f64.format.order (strike x) 4719772409484279808 = some (compare (a.natAbs : Int) 33554432) := this
  rw [e]
  simp only [compare, compareOfLessAndEq]
  have c1 : ¬ (a.natAbs : Int) < 33554432 := by omega
  have c2 : ¬ (a.natAbs : Int) = 33554432 := by omega
  simp [c1, c2]
theorem ord_same {r x : Nat} {a : Int} (hr : Fl r a) (hx : Fl x a) : (FloatKind.f64.format.order r x != some .eq) = false := by
  have e : FloatKind.f64.format.order r x = some (compare a a) := hr.order hx
  rw [e]
  simp [compare, compareOfLessAndEq]

set_option maxHeartbeats 400000 in
theorem isPart_yes (n : Int) (h1 : -33554432 ≤ n) (h2 : n ≤ 33554432) (w : World) : Calls Tryz.prog 174 #[.int .i64 n] w fun e w' => e = .returned (.bool true) ∧ w' = w := by
  go_enter Tryz.func174, Tryz.ntmps174
  go_wp2
  go_ret
  exact ⟨rfl, rfl⟩
theorem cv_float (t : TypeId) (x : Nat) (a : Int) (h : Fl x a) (ha : a.natAbs < 2 ^ 53) (ht : (Tryz.prog.underlying t).isSome = true) (w : World) : (convert t 2 (.float .f64 x)).run Tryz.prog w = .ok (.int .i64 a) w :=
  run_convert_float_int w t 2 .f64 .i64 x a ht Tryz.underlying2 (h.toInt ha)
set_option maxRecDepth 100000 in
set_option maxHeartbeats 400000 in
theorem parts_fl (x y : Nat) (a b : Int) (hx : Fl x a) (hy : Fl y b) (ha : a.natAbs < 2 ^ 53) (hb : b.natAbs < 2 ^ 53) (w : World) :
    Calls Tryz.prog 217 #[.complex .f64 x y] w fun e w' => e = .returned (.tuple #[.int .i64 a, .int .i64 b]) ∧ w' = w := by
  have c1 := fun w => cv_float 220 x a hx ha (by kernel_rfl) w
  have c2 := fun w => cv_float 220 y b hy hb (by kernel_rfl) w
  clear hx hy ha hb
  go_enter Tryz.func217, Tryz.ntmps217
  go_wp2
  go_ret2
  exact ⟨rfl, rfl⟩
set_option maxRecDepth 100000 in
set_option maxHeartbeats 400000 in
theorem val_cpx (x y : Nat) (a b : Int) (hx : Fl x a) (hy : Fl y b) (ha : a.natAbs < 2 ^ 53) (hb : b.natAbs < 2 ^ 53) (w : World) :
    Calls Tryz.prog 216 #[.complex .f64 x y] w fun e w' => e = .returned (V 3 a b E0) ∧ G w w' := by
  go_enter Tryz.func216, Tryz.ntmps216
  go_wp2_with fail
  refine (parts_fl x y a b hx hy ha hb _).mono ?_
  rintro e w1 ⟨rfl, rfl⟩
  go_wp2
  exact bodyPost_ret (v := V 3 a b E0) (by simp [results, Tryz.results216, go_sem]) rfl ⟨rfl, by repeat (first | exact G.refl _ | assumption | refine G.alloc ?_ _ | refine G.drew ?_ | refine G.setCell ?_ (by simp) _ | refine G.trans ?_ (by assumption))⟩
theorem m_val_cpx (x y : Nat) (w : World) : (method 356 219 (.complex .f64 x y) "trellis/value.val").run Tryz.prog w = .ok (216, .complex .f64 x y) w := by kernel_rfl
set_option maxRecDepth 100000 in
set_option maxHeartbeats 400000 in
theorem kind_cpx (a b : Int) (h1 : -33554432 ≤ a) (h2 : a ≤ 33554432) (h3 : -33554432 ≤ b) (h4 : b ≤ 33554432) (w : World) :
    Calls Tryz.prog 160 #[V 3 a b E0] w fun e w' => e = .returned (.iface 219 (.complex .f64 (fl a) (fl b))) ∧ G w w' := by
  go_enter Tryz.func160, Tryz.ntmps160
  go_wp2_with fail
  refine (isPart_yes a h1 h2 _).mono ?_
  rintro e w1 ⟨rfl, rfl⟩
  go_wp2_with fail
  refine (isPart_yes b h3 h4 _).mono ?_
  rintro e w1 ⟨rfl, rfl⟩
  go_wp2
  go_ret
  exact ⟨rfl, (G.refl _).alloc _⟩
set_option maxRecDepth 100000 in
set_option maxHeartbeats 1000000 in
theorem item_cpx (a b : Int) (h1 : -33554432 ≤ a) (h2 : a ≤ 33554432) (h3 : -33554432 ≤ b) (h4 : b ≤ 33554432) (w : World) :
    Calls Tryz.prog 130 #[V 3 a b E0] w fun e w' => e = .returned (.tuple #[.iface 219 (.complex .f64 (fl a) (fl b)), .bool true]) ∧ G w w' := by
  have f1 := Fl.ofInt a (by omega)
  have f2 := Fl.ofInt b (by omega)
  have hm := m_val_cpx (fl a) (fl b)
  have HV : Hid (∀ w, Calls Tryz.prog 216 #[.complex .f64 (fl a) (fl b)] w fun e w' => e = .returned (V 3 a b E0) ∧ G w w') := fun w => val_cpx _ _ a b f1 f2 (by omega) (by omega) w
  have HK : Hid (∀ w, Calls Tryz.prog 160 #[V 3 a b E0] w fun e w' => e = .returned (.iface 219 (.complex .f64 (fl a) (fl b))) ∧ G w w') := fun w => kind_cpx a b h1 h2 h3 h4 w
  clear f1 f2 h1 h2 h3 h4
  go_enter Tryz.func130, Tryz.ntmps130
  go_wp2_with (go_at_call 160; refine (HK.out _).mono ?_; rintro e w1 ⟨rfl, hb1⟩)
  have hc := G.cells hb1 (b := w.heap.size) (f := fun o => [I 3, I a, I b, Value.string E0][o]?) (by simp) (by simp)
  have hG : G w w1 := ((G.refl w).alloc _).trans hb1
  have hz : w.heap.size < w1.heap.size := by have := hb1.size; simp at this; omega
  clear hb1
  go_region_held3 (fun W => (∀ (o : Nat), W.cell? { block := w.heap.size, off := o } = [I 3, I a, I b, Value.string E0][o]?) ∧ G w W ∧ w.heap.size < W.heap.size) ((first | exact keepD ‹_› ‹_› ‹_› | exact keepG ‹_› ‹_› ‹_› ‹_› | exact keepG (keepD ‹_› ‹_› ‹_›).1 (keepD ‹_› ‹_› ‹_›).2.1 (keepD ‹_› ‹_› ‹_›).2.2 ‹_›)) (first | (go_at_call 216; refine (HV.out _).mono ?_; rintro e w2 ⟨rfl, hb2⟩) | fail)
  rename_i hH
  obtain ⟨-, hG2, -⟩ := hH
  go_wp2
  go_ret2
  exact ⟨rfl, hG2⟩
end Go.Proofs.YtifioikdhfhljaaGreatDoor
