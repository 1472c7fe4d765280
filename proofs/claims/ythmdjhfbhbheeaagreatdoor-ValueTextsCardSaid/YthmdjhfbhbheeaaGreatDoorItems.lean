/- The package's items: itemOfKind, itemOf, val, answer, kind by kind. -/
import Derived.Test.YthmdjhfbhbheeaaGreatDoorBase
namespace Go.Proofs.YthmdjhfbhbheeaaGreatDoor
open Go.RowKit

theorem m_val_null  (w : World) : (method 351 110 (.agg #[]) "trellis/value.val").run Tryz.prog w = .ok (235, .agg #[]) w := by kernel_rfl
set_option maxHeartbeats 400000 in
theorem kind_null  (w : World) : Calls Tryz.prog 72 #[V 0 0 0 E0] w fun e w' => e = .returned (.iface 110 (.agg #[])) ∧ G w w' := by
  go_enter Tryz.func72, Tryz.ntmps72
  go_wp2
  go_ret
  exact ⟨rfl, (G.refl _).alloc _⟩
set_option maxHeartbeats 400000 in
theorem val_null  (w : World) : Calls Tryz.prog 235 #[.agg #[]] w fun e w' => e = .returned (V 0 0 0 E0) ∧ G w w' := by
  go_enter Tryz.func235, Tryz.ntmps235
  go_wp2
  exact bodyPost_ret (v := V 0 0 0 E0) (by simp [results, Tryz.results235, go_sem]) rfl ⟨rfl, by repeat (first | exact G.refl _ | assumption | refine G.alloc ?_ _ | refine G.drew ?_ | refine G.setCell ?_ (by simp) _ | refine G.trans ?_ (by assumption))⟩
set_option maxRecDepth 100000 in
set_option maxHeartbeats 400000 in
theorem item_null  (w : World) : Calls Tryz.prog 25 #[V 0 0 0 E0] w fun e w' => e = .returned (.tuple #[.iface 110 (.agg #[]), .bool true]) ∧ G w w' := by
  have hm := m_val_null
  go_enter Tryz.func25, Tryz.ntmps25
  go_wp2_with (go_at_call 72; refine (kind_null _).mono ?_; rintro e w1 ⟨rfl, hb1⟩)
  have hc := G.cells hb1 (b := w.heap.size) (f := fun o => [I 0, I 0, I 0, Value.string E0][o]?) (by simp) (by simp)
  have hG : G w w1 := ((G.refl w).alloc _).trans hb1
  have hz : w.heap.size < w1.heap.size := by have := hb1.size; simp at this; omega
  clear hb1
  go_region_held3 (fun W => (∀ (o : Nat), W.cell? { block := w.heap.size, off := o } = [I 0, I 0, I 0, Value.string E0][o]?) ∧ G w W ∧ w.heap.size < W.heap.size) ((first | exact keepD ‹_› ‹_› ‹_› | exact keepG ‹_› ‹_› ‹_› ‹_› | exact keepG (keepD ‹_› ‹_› ‹_›).1 (keepD ‹_› ‹_› ‹_›).2.1 (keepD ‹_› ‹_› ‹_›).2.2 ‹_›)) (first | (go_at_call 235; refine (val_null _).mono ?_; rintro e w2 ⟨rfl, hb2⟩) | fail)
  rename_i hH
  obtain ⟨-, hG2, -⟩ := hH
  go_wp2
  go_ret2
  exact ⟨rfl, hG2⟩
set_option maxHeartbeats 400000 in
theorem answer_null  (w : World) : Calls Tryz.prog 35 #[.iface 110 (.agg #[]), .int .i64 0] w fun e w' => e = .returned (.tuple #[V 0 0 0 E0, .int .i64 0]) ∧ G w w' := by
  have hm := m_val_null
  go_enter Tryz.func35, Tryz.ntmps35
  go_wp2_with (go_at_call 235; refine (val_null _).mono ?_; rintro e w2 ⟨rfl, hb2⟩; obtain ⟨hc2, hf2⟩ := hb2.rules; have hz2 : w.heap.size < w2.heap.size := by have := hb2.size; simp at this; omega)
  exact bodyPost_ret (v := .tuple #[V 0 0 0 E0, .int .i64 0]) (by simp [results, Tryz.results35, go_sem, hc2]) rfl ⟨rfl, by repeat (first | exact G.refl _ | assumption | refine G.alloc ?_ _ | refine G.drew ?_ | refine G.setCell ?_ (by simp) _ | refine G.trans ?_ (by assumption))⟩
theorem m_val_ff  (w : World) : (method 351 111 (.bool false) "trellis/value.val").run Tryz.prog w = .ok (240, .bool false) w := by kernel_rfl
set_option maxHeartbeats 400000 in
theorem kind_ff  (w : World) : Calls Tryz.prog 72 #[V 1 0 0 E0] w fun e w' => e = .returned (.iface 111 (.bool false)) ∧ G w w' := by
  go_enter Tryz.func72, Tryz.ntmps72
  go_wp2
  go_ret
  exact ⟨rfl, (G.refl _).alloc _⟩
set_option maxHeartbeats 400000 in
theorem val_ff  (w : World) : Calls Tryz.prog 240 #[.bool false] w fun e w' => e = .returned (V 1 0 0 E0) ∧ G w w' := by
  go_enter Tryz.func240, Tryz.ntmps240
  go_wp2
  exact bodyPost_ret (v := V 1 0 0 E0) (by simp [results, Tryz.results240, go_sem]) rfl ⟨rfl, by repeat (first | exact G.refl _ | assumption | refine G.alloc ?_ _ | refine G.drew ?_ | refine G.setCell ?_ (by simp) _ | refine G.trans ?_ (by assumption))⟩
set_option maxRecDepth 100000 in
set_option maxHeartbeats 400000 in
theorem item_ff  (w : World) : Calls Tryz.prog 25 #[V 1 0 0 E0] w fun e w' => e = .returned (.tuple #[.iface 111 (.bool false), .bool true]) ∧ G w w' := by
  have hm := m_val_ff
  go_enter Tryz.func25, Tryz.ntmps25
  go_wp2_with (go_at_call 72; refine (kind_ff _).mono ?_; rintro e w1 ⟨rfl, hb1⟩)
  have hc := G.cells hb1 (b := w.heap.size) (f := fun o => [I 1, I 0, I 0, Value.string E0][o]?) (by simp) (by simp)
  have hG : G w w1 := ((G.refl w).alloc _).trans hb1
  have hz : w.heap.size < w1.heap.size := by have := hb1.size; simp at this; omega
  clear hb1
  go_region_held3 (fun W => (∀ (o : Nat), W.cell? { block := w.heap.size, off := o } = [I 1, I 0, I 0, Value.string E0][o]?) ∧ G w W ∧ w.heap.size < W.heap.size) ((first | exact keepD ‹_› ‹_› ‹_› | exact keepG ‹_› ‹_› ‹_› ‹_› | exact keepG (keepD ‹_› ‹_› ‹_›).1 (keepD ‹_› ‹_› ‹_›).2.1 (keepD ‹_› ‹_› ‹_›).2.2 ‹_›)) (first | (go_at_call 240; refine (val_ff _).mono ?_; rintro e w2 ⟨rfl, hb2⟩) | fail)
  rename_i hH
  obtain ⟨-, hG2, -⟩ := hH
  go_wp2
  go_ret2
  exact ⟨rfl, hG2⟩
set_option maxHeartbeats 400000 in
theorem answer_ff  (w : World) : Calls Tryz.prog 35 #[.iface 111 (.bool false), .int .i64 0] w fun e w' => e = .returned (.tuple #[V 1 0 0 E0, .int .i64 0]) ∧ G w w' := by
  have hm := m_val_ff
  go_enter Tryz.func35, Tryz.ntmps35
  go_wp2_with (go_at_call 240; refine (val_ff _).mono ?_; rintro e w2 ⟨rfl, hb2⟩; obtain ⟨hc2, hf2⟩ := hb2.rules; have hz2 : w.heap.size < w2.heap.size := by have := hb2.size; simp at this; omega)
  exact bodyPost_ret (v := .tuple #[V 1 0 0 E0, .int .i64 0]) (by simp [results, Tryz.results35, go_sem, hc2]) rfl ⟨rfl, by repeat (first | exact G.refl _ | assumption | refine G.alloc ?_ _ | refine G.drew ?_ | refine G.setCell ?_ (by simp) _ | refine G.trans ?_ (by assumption))⟩
theorem m_val_tt  (w : World) : (method 351 111 (.bool true) "trellis/value.val").run Tryz.prog w = .ok (240, .bool true) w := by kernel_rfl
set_option maxHeartbeats 400000 in
theorem kind_tt  (w : World) : Calls Tryz.prog 72 #[V 1 1 0 E0] w fun e w' => e = .returned (.iface 111 (.bool true)) ∧ G w w' := by
  go_enter Tryz.func72, Tryz.ntmps72
  go_wp2
  go_ret
  exact ⟨rfl, (G.refl _).alloc _⟩
set_option maxHeartbeats 400000 in
theorem val_tt  (w : World) : Calls Tryz.prog 240 #[.bool true] w fun e w' => e = .returned (V 1 1 0 E0) ∧ G w w' := by
  go_enter Tryz.func240, Tryz.ntmps240
  go_wp2
  exact bodyPost_ret (v := V 1 1 0 E0) (by simp [results, Tryz.results240, go_sem]) rfl ⟨rfl, by repeat (first | exact G.refl _ | assumption | refine G.alloc ?_ _ | refine G.drew ?_ | refine G.setCell ?_ (by simp) _ | refine G.trans ?_ (by assumption))⟩
set_option maxRecDepth 100000 in
set_option maxHeartbeats 400000 in
theorem item_tt  (w : World) : Calls Tryz.prog 25 #[V 1 1 0 E0] w fun e w' => e = .returned (.tuple #[.iface 111 (.bool true), .bool true]) ∧ G w w' := by
  have hm := m_val_tt
  go_enter Tryz.func25, Tryz.ntmps25
  go_wp2_with (go_at_call 72; refine (kind_tt _).mono ?_; rintro e w1 ⟨rfl, hb1⟩)
  have hc := G.cells hb1 (b := w.heap.size) (f := fun o => [I 1, I 1, I 0, Value.string E0][o]?) (by simp) (by simp)
  have hG : G w w1 := ((G.refl w).alloc _).trans hb1
  have hz : w.heap.size < w1.heap.size := by have := hb1.size; simp at this; omega
  clear hb1
  go_region_held3 (fun W => (∀ (o : Nat), W.cell? { block := w.heap.size, off := o } = [I 1, I 1, I 0, Value.string E0][o]?) ∧ G w W ∧ w.heap.size < W.heap.size) ((first | exact keepD ‹_› ‹_› ‹_› | exact keepG ‹_› ‹_› ‹_› ‹_› | exact keepG (keepD ‹_› ‹_› ‹_›).1 (keepD ‹_› ‹_› ‹_›).2.1 (keepD ‹_› ‹_› ‹_›).2.2 ‹_›)) (first | (go_at_call 240; refine (val_tt _).mono ?_; rintro e w2 ⟨rfl, hb2⟩) | fail)
  rename_i hH
  obtain ⟨-, hG2, -⟩ := hH
  go_wp2
  go_ret2
  exact ⟨rfl, hG2⟩
set_option maxHeartbeats 400000 in
theorem answer_tt  (w : World) : Calls Tryz.prog 35 #[.iface 111 (.bool true), .int .i64 0] w fun e w' => e = .returned (.tuple #[V 1 1 0 E0, .int .i64 0]) ∧ G w w' := by
  have hm := m_val_tt
  go_enter Tryz.func35, Tryz.ntmps35
  go_wp2_with (go_at_call 240; refine (val_tt _).mono ?_; rintro e w2 ⟨rfl, hb2⟩; obtain ⟨hc2, hf2⟩ := hb2.rules; have hz2 : w.heap.size < w2.heap.size := by have := hb2.size; simp at this; omega)
  exact bodyPost_ret (v := .tuple #[V 1 1 0 E0, .int .i64 0]) (by simp [results, Tryz.results35, go_sem, hc2]) rfl ⟨rfl, by repeat (first | exact G.refl _ | assumption | refine G.alloc ?_ _ | refine G.drew ?_ | refine G.setCell ?_ (by simp) _ | refine G.trans ?_ (by assumption))⟩
theorem m_val_whole (n : Int) (w : World) : (method 351 135 (.int .i64 n) "trellis/value.val").run Tryz.prog w = .ok (247, .int .i64 n) w := by kernel_rfl
set_option maxHeartbeats 400000 in
theorem kind_whole (n : Int) (w : World) : Calls Tryz.prog 72 #[V 2 n 0 E0] w fun e w' => e = .returned (.iface 135 (.int .i64 n)) ∧ G w w' := by
  go_enter Tryz.func72, Tryz.ntmps72
  go_wp2
  go_ret
  exact ⟨rfl, (G.refl _).alloc _⟩
set_option maxHeartbeats 400000 in
theorem val_whole (n : Int) (w : World) : Calls Tryz.prog 247 #[.int .i64 n] w fun e w' => e = .returned (V 2 n 0 E0) ∧ G w w' := by
  go_enter Tryz.func247, Tryz.ntmps247
  go_wp2
  exact bodyPost_ret (v := V 2 n 0 E0) (by simp [results, Tryz.results247, go_sem]) rfl ⟨rfl, by repeat (first | exact G.refl _ | assumption | refine G.alloc ?_ _ | refine G.drew ?_ | refine G.setCell ?_ (by simp) _ | refine G.trans ?_ (by assumption))⟩
set_option maxRecDepth 100000 in
set_option maxHeartbeats 400000 in
theorem item_whole (n : Int) (w : World) : Calls Tryz.prog 25 #[V 2 n 0 E0] w fun e w' => e = .returned (.tuple #[.iface 135 (.int .i64 n), .bool true]) ∧ G w w' := by
  have hm := m_val_whole
  go_enter Tryz.func25, Tryz.ntmps25
  go_wp2_with (go_at_call 72; refine (kind_whole _ _).mono ?_; rintro e w1 ⟨rfl, hb1⟩)
  have hc := G.cells hb1 (b := w.heap.size) (f := fun o => [I 2, I n, I 0, Value.string E0][o]?) (by simp) (by simp)
  have hG : G w w1 := ((G.refl w).alloc _).trans hb1
  have hz : w.heap.size < w1.heap.size := by have := hb1.size; simp at this; omega
  clear hb1
  go_region_held3 (fun W => (∀ (o : Nat), W.cell? { block := w.heap.size, off := o } = [I 2, I n, I 0, Value.string E0][o]?) ∧ G w W ∧ w.heap.size < W.heap.size) ((first | exact keepD ‹_› ‹_› ‹_› | exact keepG ‹_› ‹_› ‹_› ‹_› | exact keepG (keepD ‹_› ‹_› ‹_›).1 (keepD ‹_› ‹_› ‹_›).2.1 (keepD ‹_› ‹_› ‹_›).2.2 ‹_›)) (first | (go_at_call 247; refine (val_whole _ _).mono ?_; rintro e w2 ⟨rfl, hb2⟩) | fail)
  rename_i hH
  obtain ⟨-, hG2, -⟩ := hH
  go_wp2
  go_ret2
  exact ⟨rfl, hG2⟩
set_option maxHeartbeats 400000 in
theorem answer_whole (n : Int) (w : World) : Calls Tryz.prog 35 #[.iface 135 (.int .i64 n), .int .i64 0] w fun e w' => e = .returned (.tuple #[V 2 n 0 E0, .int .i64 0]) ∧ G w w' := by
  have hm := m_val_whole
  go_enter Tryz.func35, Tryz.ntmps35
  go_wp2_with (go_at_call 247; refine (val_whole _ _).mono ?_; rintro e w2 ⟨rfl, hb2⟩; obtain ⟨hc2, hf2⟩ := hb2.rules; have hz2 : w.heap.size < w2.heap.size := by have := hb2.size; simp at this; omega)
  exact bodyPost_ret (v := .tuple #[V 2 n 0 E0, .int .i64 0]) (by simp [results, Tryz.results35, go_sem, hc2]) rfl ⟨rfl, by repeat (first | exact G.refl _ | assumption | refine G.alloc ?_ _ | refine G.drew ?_ | refine G.setCell ?_ (by simp) _ | refine G.trans ?_ (by assumption))⟩
set_option maxHeartbeats 400000 in
theorem answer_err (x : Value) (c : Int) (hc : (c != 0) = true) (w : World) : Calls Tryz.prog 35 #[x, .int .i64 c] w fun e w' => e = .returned (.tuple #[V 0 0 0 E0, .int .i64 c]) ∧ G w w' := by
  go_enter Tryz.func35, Tryz.ntmps35
  go_wp2
  exact bodyPost_ret (v := .tuple #[V 0 0 0 E0, .int .i64 c]) (by simp [results, Tryz.results35, go_sem]) rfl ⟨rfl, by repeat (first | exact G.refl _ | assumption | refine G.alloc ?_ _ | refine G.drew ?_ | refine G.setCell ?_ (by simp) _ | refine G.trans ?_ (by assumption))⟩
end Go.Proofs.YthmdjhfbhbheeaaGreatDoor
