/- The package's items: itemOfKind, itemOf, val, answer, kind by kind. -/
import Derived.Test.YtifioikdhfhljaaGreatDoorBase
namespace Go.Proofs.YtifioikdhfhljaaGreatDoor
open Go.RowKit

theorem m_val_null  (w : World) : (method 356 215 (.agg #[]) "trellis/value.val").run Tryz.prog w = .ok (201, .agg #[]) w := by kernel_rfl
set_option maxHeartbeats 400000 in
theorem kind_null  (w : World) : Calls Tryz.prog 160 #[V 0 0 0 E0] w fun e w' => e = .returned (.iface 215 (.agg #[])) ∧ G w w' := by
  go_enter Tryz.func160, Tryz.ntmps160
  go_wp2
  go_ret
  exact ⟨rfl, (G.refl _).alloc _⟩
set_option maxHeartbeats 400000 in
theorem val_null  (w : World) : Calls Tryz.prog 201 #[.agg #[]] w fun e w' => e = .returned (V 0 0 0 E0) ∧ G w w' := by
  go_enter Tryz.func201, Tryz.ntmps201
  go_wp2
  exact bodyPost_ret (v := V 0 0 0 E0) (by simp [results, Tryz.results201, go_sem]) rfl ⟨rfl, by repeat (first | exact G.refl _ | assumption | refine G.alloc ?_ _ | refine G.drew ?_ | refine G.setCell ?_ (by simp) _ | refine G.trans ?_ (by assumption))⟩
set_option maxRecDepth 100000 in
set_option maxHeartbeats 400000 in
theorem item_null  (w : World) : Calls Tryz.prog 130 #[V 0 0 0 E0] w fun e w' => e = .returned (.tuple #[.iface 215 (.agg #[]), .bool true]) ∧ G w w' := by
  have hm := m_val_null
  go_enter Tryz.func130, Tryz.ntmps130
  go_wp2_with (go_at_call 160; refine (kind_null _).mono ?_; rintro e w1 ⟨rfl, hb1⟩)
  have hc := G.cells hb1 (b := w.heap.size) (f := fun o => [I 0, I 0, I 0, Value.string E0][o]?) (by simp) (by simp)
  have hG : G w w1 := ((G.refl w).alloc _).trans hb1
  have hz : w.heap.size < w1.heap.size := by have := hb1.size; simp at this; omega
  clear hb1
  go_region_held3 (fun W => (∀ (o : Nat), W.cell? { block := w.heap.size, off := o } = [I 0, I 0, I 0, Value.string E0][o]?) ∧ G w W ∧ w.heap.size < W.heap.size) ((first | exact keepD ‹_› ‹_› ‹_› | exact keepG ‹_› ‹_› ‹_› ‹_› | exact keepG (keepD ‹_› ‹_› ‹_›).1 (keepD ‹_› ‹_› ‹_›).2.1 (keepD ‹_› ‹_› ‹_›).2.2 ‹_›)) (first | (go_at_call 201; refine (val_null _).mono ?_; rintro e w2 ⟨rfl, hb2⟩) | fail)
  rename_i hH
  obtain ⟨-, hG2, -⟩ := hH
  go_wp2
  go_ret2
  exact ⟨rfl, hG2⟩
theorem m_val_ff  (w : World) : (method 356 216 (.bool false) "trellis/value.val").run Tryz.prog w = .ok (206, .bool false) w := by kernel_rfl
set_option maxHeartbeats 400000 in
theorem kind_ff  (w : World) : Calls Tryz.prog 160 #[V 1 0 0 E0] w fun e w' => e = .returned (.iface 216 (.bool false)) ∧ G w w' := by
  go_enter Tryz.func160, Tryz.ntmps160
  go_wp2
  go_ret
  exact ⟨rfl, (G.refl _).alloc _⟩
set_option maxHeartbeats 400000 in
theorem val_ff  (w : World) : Calls Tryz.prog 206 #[.bool false] w fun e w' => e = .returned (V 1 0 0 E0) ∧ G w w' := by
  go_enter Tryz.func206, Tryz.ntmps206
  go_wp2
  exact bodyPost_ret (v := V 1 0 0 E0) (by simp [results, Tryz.results206, go_sem]) rfl ⟨rfl, by repeat (first | exact G.refl _ | assumption | refine G.alloc ?_ _ | refine G.drew ?_ | refine G.setCell ?_ (by simp) _ | refine G.trans ?_ (by assumption))⟩
set_option maxRecDepth 100000 in
set_option maxHeartbeats 400000 in
theorem item_ff  (w : World) : Calls Tryz.prog 130 #[V 1 0 0 E0] w fun e w' => e = .returned (.tuple #[.iface 216 (.bool false), .bool true]) ∧ G w w' := by
  have hm := m_val_ff
  go_enter Tryz.func130, Tryz.ntmps130
  go_wp2_with (go_at_call 160; refine (kind_ff _).mono ?_; rintro e w1 ⟨rfl, hb1⟩)
  have hc := G.cells hb1 (b := w.heap.size) (f := fun o => [I 1, I 0, I 0, Value.string E0][o]?) (by simp) (by simp)
  have hG : G w w1 := ((G.refl w).alloc _).trans hb1
  have hz : w.heap.size < w1.heap.size := by have := hb1.size; simp at this; omega
  clear hb1
  go_region_held3 (fun W => (∀ (o : Nat), W.cell? { block := w.heap.size, off := o } = [I 1, I 0, I 0, Value.string E0][o]?) ∧ G w W ∧ w.heap.size < W.heap.size) ((first | exact keepD ‹_› ‹_› ‹_› | exact keepG ‹_› ‹_› ‹_› ‹_› | exact keepG (keepD ‹_› ‹_› ‹_›).1 (keepD ‹_› ‹_› ‹_›).2.1 (keepD ‹_› ‹_› ‹_›).2.2 ‹_›)) (first | (go_at_call 206; refine (val_ff _).mono ?_; rintro e w2 ⟨rfl, hb2⟩) | fail)
  rename_i hH
  obtain ⟨-, hG2, -⟩ := hH
  go_wp2
  go_ret2
  exact ⟨rfl, hG2⟩
theorem m_val_tt  (w : World) : (method 356 216 (.bool true) "trellis/value.val").run Tryz.prog w = .ok (206, .bool true) w := by kernel_rfl
set_option maxHeartbeats 400000 in
theorem kind_tt  (w : World) : Calls Tryz.prog 160 #[V 1 1 0 E0] w fun e w' => e = .returned (.iface 216 (.bool true)) ∧ G w w' := by
  go_enter Tryz.func160, Tryz.ntmps160
  go_wp2
  go_ret
  exact ⟨rfl, (G.refl _).alloc _⟩
set_option maxHeartbeats 400000 in
theorem val_tt  (w : World) : Calls Tryz.prog 206 #[.bool true] w fun e w' => e = .returned (V 1 1 0 E0) ∧ G w w' := by
  go_enter Tryz.func206, Tryz.ntmps206
  go_wp2
  exact bodyPost_ret (v := V 1 1 0 E0) (by simp [results, Tryz.results206, go_sem]) rfl ⟨rfl, by repeat (first | exact G.refl _ | assumption | refine G.alloc ?_ _ | refine G.drew ?_ | refine G.setCell ?_ (by simp) _ | refine G.trans ?_ (by assumption))⟩
set_option maxRecDepth 100000 in
set_option maxHeartbeats 400000 in
theorem item_tt  (w : World) : Calls Tryz.prog 130 #[V 1 1 0 E0] w fun e w' => e = .returned (.tuple #[.iface 216 (.bool true), .bool true]) ∧ G w w' := by
  have hm := m_val_tt
  go_enter Tryz.func130, Tryz.ntmps130
  go_wp2_with (go_at_call 160; refine (kind_tt _).mono ?_; rintro e w1 ⟨rfl, hb1⟩)
  have hc := G.cells hb1 (b := w.heap.size) (f := fun o => [I 1, I 1, I 0, Value.string E0][o]?) (by simp) (by simp)
  have hG : G w w1 := ((G.refl w).alloc _).trans hb1
  have hz : w.heap.size < w1.heap.size := by have := hb1.size; simp at this; omega
  clear hb1
  go_region_held3 (fun W => (∀ (o : Nat), W.cell? { block := w.heap.size, off := o } = [I 1, I 1, I 0, Value.string E0][o]?) ∧ G w W ∧ w.heap.size < W.heap.size) ((first | exact keepD ‹_› ‹_› ‹_› | exact keepG ‹_› ‹_› ‹_› ‹_› | exact keepG (keepD ‹_› ‹_› ‹_›).1 (keepD ‹_› ‹_› ‹_›).2.1 (keepD ‹_› ‹_› ‹_›).2.2 ‹_›)) (first | (go_at_call 206; refine (val_tt _).mono ?_; rintro e w2 ⟨rfl, hb2⟩) | fail)
  rename_i hH
  obtain ⟨-, hG2, -⟩ := hH
  go_wp2
  go_ret2
  exact ⟨rfl, hG2⟩
theorem m_val_whole (n : Int) (w : World) : (method 356 217 (.int .i64 n) "trellis/value.val").run Tryz.prog w = .ok (211, .int .i64 n) w := by kernel_rfl
set_option maxHeartbeats 400000 in
theorem kind_whole (n : Int) (w : World) : Calls Tryz.prog 160 #[V 2 n 0 E0] w fun e w' => e = .returned (.iface 217 (.int .i64 n)) ∧ G w w' := by
  go_enter Tryz.func160, Tryz.ntmps160
  go_wp2
  go_ret
  exact ⟨rfl, (G.refl _).alloc _⟩
set_option maxHeartbeats 400000 in
theorem val_whole (n : Int) (w : World) : Calls Tryz.prog 211 #[.int .i64 n] w fun e w' => e = .returned (V 2 n 0 E0) ∧ G w w' := by
  go_enter Tryz.func211, Tryz.ntmps211
  go_wp2
  exact bodyPost_ret (v := V 2 n 0 E0) (by simp [results, Tryz.results211, go_sem]) rfl ⟨rfl, by repeat (first | exact G.refl _ | assumption | refine G.alloc ?_ _ | refine G.drew ?_ | refine G.setCell ?_ (by simp) _ | refine G.trans ?_ (by assumption))⟩
set_option maxRecDepth 100000 in
set_option maxHeartbeats 400000 in
theorem item_whole (n : Int) (w : World) : Calls Tryz.prog 130 #[V 2 n 0 E0] w fun e w' => e = .returned (.tuple #[.iface 217 (.int .i64 n), .bool true]) ∧ G w w' := by
  have hm := m_val_whole
  go_enter Tryz.func130, Tryz.ntmps130
  go_wp2_with (go_at_call 160; refine (kind_whole _ _).mono ?_; rintro e w1 ⟨rfl, hb1⟩)
  have hc := G.cells hb1 (b := w.heap.size) (f := fun o => [I 2, I n, I 0, Value.string E0][o]?) (by simp) (by simp)
  have hG : G w w1 := ((G.refl w).alloc _).trans hb1
  have hz : w.heap.size < w1.heap.size := by have := hb1.size; simp at this; omega
  clear hb1
  go_region_held3 (fun W => (∀ (o : Nat), W.cell? { block := w.heap.size, off := o } = [I 2, I n, I 0, Value.string E0][o]?) ∧ G w W ∧ w.heap.size < W.heap.size) ((first | exact keepD ‹_› ‹_› ‹_› | exact keepG ‹_› ‹_› ‹_› ‹_› | exact keepG (keepD ‹_› ‹_› ‹_›).1 (keepD ‹_› ‹_› ‹_›).2.1 (keepD ‹_› ‹_› ‹_›).2.2 ‹_›)) (first | (go_at_call 211; refine (val_whole _ _).mono ?_; rintro e w2 ⟨rfl, hb2⟩) | fail)
  rename_i hH
  obtain ⟨-, hG2, -⟩ := hH
  go_wp2
  go_ret2
  exact ⟨rfl, hG2⟩
end Go.Proofs.YtifioikdhfhljaaGreatDoor
