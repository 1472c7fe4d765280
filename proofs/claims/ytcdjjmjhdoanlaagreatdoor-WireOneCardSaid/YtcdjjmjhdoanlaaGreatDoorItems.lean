/- The package's items: itemOfKind, itemOf, val, answer, kind by kind. -/
import Derived.Test.YtcdjjmjhdoanlaaGreatDoorBase
namespace Go.Proofs.YtcdjjmjhdoanlaaGreatDoor
open Go.RowKit

theorem m_val_null  (w : World) : (method 319 184 (.agg #[]) "trellis/value.val").run Tryz.prog w = .ok (125, .agg #[]) w := by kernel_rfl
set_option maxHeartbeats 400000 in
theorem kind_null  (w : World) : Calls Tryz.prog 101 #[V 0 0 0 E0] w fun e w' => e = .returned (.iface 184 (.agg #[])) ∧ G w w' := by
  go_enter Tryz.func101, Tryz.ntmps101
  go_wp2
  go_ret
  exact ⟨rfl, (G.refl _).alloc _⟩
set_option maxHeartbeats 400000 in
theorem val_null  (w : World) : Calls Tryz.prog 125 #[.agg #[]] w fun e w' => e = .returned (V 0 0 0 E0) ∧ G w w' := by
  go_enter Tryz.func125, Tryz.ntmps125
  go_wp2
  exact bodyPost_ret (v := V 0 0 0 E0) (by simp [results, Tryz.results125, go_sem]) rfl ⟨rfl, by repeat (first | exact G.refl _ | assumption | refine G.alloc ?_ _ | refine G.drew ?_ | refine G.setCell ?_ (by simp) _ | refine G.trans ?_ (by assumption))⟩
set_option maxRecDepth 100000 in
set_option maxHeartbeats 400000 in
theorem item_null  (w : World) : Calls Tryz.prog 100 #[V 0 0 0 E0] w fun e w' => e = .returned (.tuple #[.iface 184 (.agg #[]), .bool true]) ∧ G w w' := by
  have hm := m_val_null
  go_enter Tryz.func100, Tryz.ntmps100
  go_wp2_with (go_at_call 101; refine (kind_null _).mono ?_; rintro e w1 ⟨rfl, hb1⟩)
  have hc := G.cells hb1 (b := w.heap.size) (f := fun o => [I 0, I 0, I 0, Value.string E0][o]?) (by simp) (by simp)
  have hG : G w w1 := ((G.refl w).alloc _).trans hb1
  have hz : w.heap.size < w1.heap.size := by have := hb1.size; simp at this; omega
  clear hb1
  go_region_held3 (fun W => (∀ (o : Nat), W.cell? { block := w.heap.size, off := o } = [I 0, I 0, I 0, Value.string E0][o]?) ∧ G w W ∧ w.heap.size < W.heap.size) ((first | exact keepD ‹_› ‹_› ‹_› | exact keepG ‹_› ‹_› ‹_› ‹_› | exact keepG (keepD ‹_› ‹_› ‹_›).1 (keepD ‹_› ‹_› ‹_›).2.1 (keepD ‹_› ‹_› ‹_›).2.2 ‹_›)) (first | (go_at_call 125; refine (val_null _).mono ?_; rintro e w2 ⟨rfl, hb2⟩) | fail)
  rename_i hH
  obtain ⟨-, hG2, -⟩ := hH
  go_wp2
  go_ret2
  exact ⟨rfl, hG2⟩
theorem m_val_ff  (w : World) : (method 319 185 (.bool false) "trellis/value.val").run Tryz.prog w = .ok (130, .bool false) w := by kernel_rfl
set_option maxHeartbeats 400000 in
theorem kind_ff  (w : World) : Calls Tryz.prog 101 #[V 1 0 0 E0] w fun e w' => e = .returned (.iface 185 (.bool false)) ∧ G w w' := by
  go_enter Tryz.func101, Tryz.ntmps101
  go_wp2
  go_ret
  exact ⟨rfl, (G.refl _).alloc _⟩
set_option maxHeartbeats 400000 in
theorem val_ff  (w : World) : Calls Tryz.prog 130 #[.bool false] w fun e w' => e = .returned (V 1 0 0 E0) ∧ G w w' := by
  go_enter Tryz.func130, Tryz.ntmps130
  go_wp2
  exact bodyPost_ret (v := V 1 0 0 E0) (by simp [results, Tryz.results130, go_sem]) rfl ⟨rfl, by repeat (first | exact G.refl _ | assumption | refine G.alloc ?_ _ | refine G.drew ?_ | refine G.setCell ?_ (by simp) _ | refine G.trans ?_ (by assumption))⟩
set_option maxRecDepth 100000 in
set_option maxHeartbeats 400000 in
theorem item_ff  (w : World) : Calls Tryz.prog 100 #[V 1 0 0 E0] w fun e w' => e = .returned (.tuple #[.iface 185 (.bool false), .bool true]) ∧ G w w' := by
  have hm := m_val_ff
  go_enter Tryz.func100, Tryz.ntmps100
  go_wp2_with (go_at_call 101; refine (kind_ff _).mono ?_; rintro e w1 ⟨rfl, hb1⟩)
  have hc := G.cells hb1 (b := w.heap.size) (f := fun o => [I 1, I 0, I 0, Value.string E0][o]?) (by simp) (by simp)
  have hG : G w w1 := ((G.refl w).alloc _).trans hb1
  have hz : w.heap.size < w1.heap.size := by have := hb1.size; simp at this; omega
  clear hb1
  go_region_held3 (fun W => (∀ (o : Nat), W.cell? { block := w.heap.size, off := o } = [I 1, I 0, I 0, Value.string E0][o]?) ∧ G w W ∧ w.heap.size < W.heap.size) ((first | exact keepD ‹_› ‹_› ‹_› | exact keepG ‹_› ‹_› ‹_› ‹_› | exact keepG (keepD ‹_› ‹_› ‹_›).1 (keepD ‹_› ‹_› ‹_›).2.1 (keepD ‹_› ‹_› ‹_›).2.2 ‹_›)) (first | (go_at_call 130; refine (val_ff _).mono ?_; rintro e w2 ⟨rfl, hb2⟩) | fail)
  rename_i hH
  obtain ⟨-, hG2, -⟩ := hH
  go_wp2
  go_ret2
  exact ⟨rfl, hG2⟩
theorem m_val_tt  (w : World) : (method 319 185 (.bool true) "trellis/value.val").run Tryz.prog w = .ok (130, .bool true) w := by kernel_rfl
set_option maxHeartbeats 400000 in
theorem kind_tt  (w : World) : Calls Tryz.prog 101 #[V 1 1 0 E0] w fun e w' => e = .returned (.iface 185 (.bool true)) ∧ G w w' := by
  go_enter Tryz.func101, Tryz.ntmps101
  go_wp2
  go_ret
  exact ⟨rfl, (G.refl _).alloc _⟩
set_option maxHeartbeats 400000 in
theorem val_tt  (w : World) : Calls Tryz.prog 130 #[.bool true] w fun e w' => e = .returned (V 1 1 0 E0) ∧ G w w' := by
  go_enter Tryz.func130, Tryz.ntmps130
  go_wp2
  exact bodyPost_ret (v := V 1 1 0 E0) (by simp [results, Tryz.results130, go_sem]) rfl ⟨rfl, by repeat (first | exact G.refl _ | assumption | refine G.alloc ?_ _ | refine G.drew ?_ | refine G.setCell ?_ (by simp) _ | refine G.trans ?_ (by assumption))⟩
set_option maxRecDepth 100000 in
set_option maxHeartbeats 400000 in
theorem item_tt  (w : World) : Calls Tryz.prog 100 #[V 1 1 0 E0] w fun e w' => e = .returned (.tuple #[.iface 185 (.bool true), .bool true]) ∧ G w w' := by
  have hm := m_val_tt
  go_enter Tryz.func100, Tryz.ntmps100
  go_wp2_with (go_at_call 101; refine (kind_tt _).mono ?_; rintro e w1 ⟨rfl, hb1⟩)
  have hc := G.cells hb1 (b := w.heap.size) (f := fun o => [I 1, I 1, I 0, Value.string E0][o]?) (by simp) (by simp)
  have hG : G w w1 := ((G.refl w).alloc _).trans hb1
  have hz : w.heap.size < w1.heap.size := by have := hb1.size; simp at this; omega
  clear hb1
  go_region_held3 (fun W => (∀ (o : Nat), W.cell? { block := w.heap.size, off := o } = [I 1, I 1, I 0, Value.string E0][o]?) ∧ G w W ∧ w.heap.size < W.heap.size) ((first | exact keepD ‹_› ‹_› ‹_› | exact keepG ‹_› ‹_› ‹_› ‹_› | exact keepG (keepD ‹_› ‹_› ‹_›).1 (keepD ‹_› ‹_› ‹_›).2.1 (keepD ‹_› ‹_› ‹_›).2.2 ‹_›)) (first | (go_at_call 130; refine (val_tt _).mono ?_; rintro e w2 ⟨rfl, hb2⟩) | fail)
  rename_i hH
  obtain ⟨-, hG2, -⟩ := hH
  go_wp2
  go_ret2
  exact ⟨rfl, hG2⟩
theorem m_val_whole (n : Int) (w : World) : (method 319 186 (.int .i64 n) "trellis/value.val").run Tryz.prog w = .ok (135, .int .i64 n) w := by kernel_rfl
set_option maxHeartbeats 400000 in
theorem kind_whole (n : Int) (w : World) : Calls Tryz.prog 101 #[V 2 n 0 E0] w fun e w' => e = .returned (.iface 186 (.int .i64 n)) ∧ G w w' := by
  go_enter Tryz.func101, Tryz.ntmps101
  go_wp2
  go_ret
  exact ⟨rfl, (G.refl _).alloc _⟩
set_option maxHeartbeats 400000 in
theorem val_whole (n : Int) (w : World) : Calls Tryz.prog 135 #[.int .i64 n] w fun e w' => e = .returned (V 2 n 0 E0) ∧ G w w' := by
  go_enter Tryz.func135, Tryz.ntmps135
  go_wp2
  exact bodyPost_ret (v := V 2 n 0 E0) (by simp [results, Tryz.results135, go_sem]) rfl ⟨rfl, by repeat (first | exact G.refl _ | assumption | refine G.alloc ?_ _ | refine G.drew ?_ | refine G.setCell ?_ (by simp) _ | refine G.trans ?_ (by assumption))⟩
set_option maxRecDepth 100000 in
set_option maxHeartbeats 400000 in
theorem item_whole (n : Int) (w : World) : Calls Tryz.prog 100 #[V 2 n 0 E0] w fun e w' => e = .returned (.tuple #[.iface 186 (.int .i64 n), .bool true]) ∧ G w w' := by
  have hm := m_val_whole
  go_enter Tryz.func100, Tryz.ntmps100
  go_wp2_with (go_at_call 101; refine (kind_whole _ _).mono ?_; rintro e w1 ⟨rfl, hb1⟩)
  have hc := G.cells hb1 (b := w.heap.size) (f := fun o => [I 2, I n, I 0, Value.string E0][o]?) (by simp) (by simp)
  have hG : G w w1 := ((G.refl w).alloc _).trans hb1
  have hz : w.heap.size < w1.heap.size := by have := hb1.size; simp at this; omega
  clear hb1
  go_region_held3 (fun W => (∀ (o : Nat), W.cell? { block := w.heap.size, off := o } = [I 2, I n, I 0, Value.string E0][o]?) ∧ G w W ∧ w.heap.size < W.heap.size) ((first | exact keepD ‹_› ‹_› ‹_› | exact keepG ‹_› ‹_› ‹_› ‹_› | exact keepG (keepD ‹_› ‹_› ‹_›).1 (keepD ‹_› ‹_› ‹_›).2.1 (keepD ‹_› ‹_› ‹_›).2.2 ‹_›)) (first | (go_at_call 135; refine (val_whole _ _).mono ?_; rintro e w2 ⟨rfl, hb2⟩) | fail)
  rename_i hH
  obtain ⟨-, hG2, -⟩ := hH
  go_wp2
  go_ret2
  exact ⟨rfl, hG2⟩
end Go.Proofs.YtcdjjmjhdoanlaaGreatDoor
