/- itemOf at whatever fields: the item where it shows the same fields, else none. -/
import Derived.Test.YtifioikdhfhljaaGreatDoorCpx
import Derived.Test.YtifioikdhfhljaaGreatDoorRefValid
import Derived.Test.YtifioikdhfhljaaGreatDoorShelf
import Derived.Deep.QuietTactic
import Derived.BigQuiet
namespace Go.Proofs.YtifioikdhfhljaaGreatDoor
open Go.RowKit Go.Lib Go.Shelf

/-- The two tables of unicode/utf8. -/
def Tabs (w : World) : Prop := Lib.Utf8Tabs (Tryz.laysValid_ren.g 3) (Tryz.laysValid_ren.g 4) w
theorem Tabs.G {w w' : World} (h : Tabs w) (g : G w w') : Tabs w' := Utf8Tabs_below h g
theorem valid_str (s : ByteArray) (hs : s.size ≤ 4611686018427387904) (w : World) (hT : Tabs w) : Calls Tryz.prog 175 #[.string s] w fun e w' => e = .returned (.bool (validD s.data.toList)) ∧ G w w' :=
  Any.utf8_ValidString Tryz.laysValid s w (by omega) hT
theorem G.drewM {a w : World} (h : G a w) (n : Nat) : G a (w.drewN n) := ⟨h.os, h.tape, h.output, h.size, h.block⟩
set_option maxRecDepth 100000 in
set_option maxHeartbeats 400000 in
theorem it_nil (k a b : Int) (s : ByteArray) (hk : ∀ w, Tabs w → Calls Tryz.prog 160 #[V k a b s] w fun e w' => e = .returned .nilIface ∧ G w w') (w : World) (hT : Tabs w) :
    Calls Tryz.prog 130 #[V k a b s] w fun e w' => e = .returned (.tuple #[.nilIface, .bool false]) ∧ G w w' := by
  have HK : Hid _ := hk
  clear hk
  go_enter Tryz.func130, Tryz.ntmps130
  go_wp2_with fail
  refine (HK.out _ (by exact hT.G ((G.refl w).alloc _))).mono ?_
  rintro e w1 ⟨rfl, hb1⟩
  go_wp2
  go_quiet (fail)
  go_wp2
  go_ret2
  exact ⟨rfl, G.drewM (((G.refl w).alloc _).trans hb1) _⟩
set_option maxRecDepth 100000 in
set_option maxHeartbeats 1000000 in
theorem it_null_yes  (k a b : Int) (s : ByteArray) (hq : (((0 : Int) == k) && ((0 : Int) == a) && ((0 : Int) == b) && (E0.toList == s.toList)) = true) (hk : ∀ w, Tabs w → Calls Tryz.prog 160 #[V k a b s] w fun e w' => e = .returned (.iface 215 (.agg #[])) ∧ G w w') (w : World) (hT : Tabs w) :
    Calls Tryz.prog 130 #[V k a b s] w fun e w' => e = .returned (.tuple #[.iface 215 (.agg #[]), .bool true]) ∧ G w w' := by
  have HK : Hid _ := hk
  have HV : Hid (∀ w, Calls Tryz.prog 201 #[.agg #[]] w fun e w' => e = .returned (V 0 0 0 E0) ∧ G w w') := val_null
  have hm := m_val_null
  have he : ∀ w, (binOp .neq 41 (V 0 0 0 E0) (V k a b s)).run Tryz.prog w = .ok (.bool false) w := fun w => by rw [neqV, hq]; rfl
  clear hk hq
  go_enter Tryz.func130, Tryz.ntmps130
  go_wp2_with fail
  refine (HK.out _ (by exact hT.G ((G.refl w).alloc _))).mono ?_
  rintro e w1 ⟨rfl, hb1⟩
  have hc' := G.cells hb1 (b := w.heap.size) (f := fun o => [Value.int IntKind.i64 k, Value.int IntKind.i64 a, Value.int IntKind.i64 b, Value.string s][o]?) (by simp) (by simp)
  have hG : G w w1 := ((G.refl w).alloc _).trans hb1
  have hz : w.heap.size < w1.heap.size := by have := hb1.size; simp at this; omega
  clear hb1
  go_wp2
  go_region_held3 (fun W => (∀ (o : Nat), W.cell? { block := w.heap.size, off := o } = [Value.int IntKind.i64 k, Value.int IntKind.i64 a, Value.int IntKind.i64 b, Value.string s][o]?) ∧ G w W ∧ w.heap.size < W.heap.size) ((first | exact keepD ‹_› ‹_› ‹_› | exact keepG ‹_› ‹_› ‹_› ‹_› | exact keepG (keepD ‹_› ‹_› ‹_›).1 (keepD ‹_› ‹_› ‹_›).2.1 (keepD ‹_› ‹_› ‹_›).2.2 ‹_›)) (first | (go_at_call 201; refine (HV.out _).mono ?_; rintro e w2 ⟨rfl, hb2⟩) | fail)
  rename_i hH
  obtain ⟨-, hG2, -⟩ := hH
  go_wp2
  go_ret2
  exact ⟨rfl, hG2⟩
set_option maxRecDepth 100000 in
set_option maxHeartbeats 1000000 in
theorem it_null_no  (k a b : Int) (s : ByteArray) (hq : (((0 : Int) == k) && ((0 : Int) == a) && ((0 : Int) == b) && (E0.toList == s.toList)) = false) (hk : ∀ w, Tabs w → Calls Tryz.prog 160 #[V k a b s] w fun e w' => e = .returned (.iface 215 (.agg #[])) ∧ G w w') (w : World) (hT : Tabs w) :
    Calls Tryz.prog 130 #[V k a b s] w fun e w' => e = .returned (.tuple #[.nilIface, .bool false]) ∧ G w w' := by
  have HK : Hid _ := hk
  have HV : Hid (∀ w, Calls Tryz.prog 201 #[.agg #[]] w fun e w' => e = .returned (V 0 0 0 E0) ∧ G w w') := val_null
  have hm := m_val_null
  have he : ∀ w, (binOp .neq 41 (V 0 0 0 E0) (V k a b s)).run Tryz.prog w = .ok (.bool true) w := fun w => by rw [neqV, hq]; rfl
  clear hk hq
  go_enter Tryz.func130, Tryz.ntmps130
  go_wp2_with fail
  refine (HK.out _ (by exact hT.G ((G.refl w).alloc _))).mono ?_
  rintro e w1 ⟨rfl, hb1⟩
  have hc' := G.cells hb1 (b := w.heap.size) (f := fun o => [Value.int IntKind.i64 k, Value.int IntKind.i64 a, Value.int IntKind.i64 b, Value.string s][o]?) (by simp) (by simp)
  have hG : G w w1 := ((G.refl w).alloc _).trans hb1
  have hz : w.heap.size < w1.heap.size := by have := hb1.size; simp at this; omega
  clear hb1
  go_wp2
  go_region_held3 (fun W => (∀ (o : Nat), W.cell? { block := w.heap.size, off := o } = [Value.int IntKind.i64 k, Value.int IntKind.i64 a, Value.int IntKind.i64 b, Value.string s][o]?) ∧ G w W ∧ w.heap.size < W.heap.size) ((first | exact keepD ‹_› ‹_› ‹_› | exact keepG ‹_› ‹_› ‹_› ‹_› | exact keepG (keepD ‹_› ‹_› ‹_›).1 (keepD ‹_› ‹_› ‹_›).2.1 (keepD ‹_› ‹_› ‹_›).2.2 ‹_›)) (first | (go_at_call 201; refine (HV.out _).mono ?_; rintro e w2 ⟨rfl, hb2⟩) | fail)
  rename_i hH
  obtain ⟨-, hG2, -⟩ := hH
  go_wp2
  go_ret2
  exact ⟨rfl, hG2⟩
set_option maxRecDepth 100000 in
set_option maxHeartbeats 1000000 in
theorem it_ff_yes  (k a b : Int) (s : ByteArray) (hq : (((1 : Int) == k) && ((0 : Int) == a) && ((0 : Int) == b) && (E0.toList == s.toList)) = true) (hk : ∀ w, Tabs w → Calls Tryz.prog 160 #[V k a b s] w fun e w' => e = .returned (.iface 216 (.bool false)) ∧ G w w') (w : World) (hT : Tabs w) :
    Calls Tryz.prog 130 #[V k a b s] w fun e w' => e = .returned (.tuple #[.iface 216 (.bool false), .bool true]) ∧ G w w' := by
  have HK : Hid _ := hk
  have HV : Hid (∀ w, Calls Tryz.prog 206 #[.bool false] w fun e w' => e = .returned (V 1 0 0 E0) ∧ G w w') := val_ff
  have hm := m_val_ff
  have he : ∀ w, (binOp .neq 41 (V 1 0 0 E0) (V k a b s)).run Tryz.prog w = .ok (.bool false) w := fun w => by rw [neqV, hq]; rfl
  clear hk hq
  go_enter Tryz.func130, Tryz.ntmps130
  go_wp2_with fail
  refine (HK.out _ (by exact hT.G ((G.refl w).alloc _))).mono ?_
  rintro e w1 ⟨rfl, hb1⟩
  have hc' := G.cells hb1 (b := w.heap.size) (f := fun o => [Value.int IntKind.i64 k, Value.int IntKind.i64 a, Value.int IntKind.i64 b, Value.string s][o]?) (by simp) (by simp)
  have hG : G w w1 := ((G.refl w).alloc _).trans hb1
  have hz : w.heap.size < w1.heap.size := by have := hb1.size; simp at this; omega
  clear hb1
  go_wp2
  go_region_held3 (fun W => (∀ (o : Nat), W.cell? { block := w.heap.size, off := o } = [Value.int IntKind.i64 k, Value.int IntKind.i64 a, Value.int IntKind.i64 b, Value.string s][o]?) ∧ G w W ∧ w.heap.size < W.heap.size) ((first | exact keepD ‹_› ‹_› ‹_› | exact keepG ‹_› ‹_› ‹_› ‹_› | exact keepG (keepD ‹_› ‹_› ‹_›).1 (keepD ‹_› ‹_› ‹_›).2.1 (keepD ‹_› ‹_› ‹_›).2.2 ‹_›)) (first | (go_at_call 206; refine (HV.out _).mono ?_; rintro e w2 ⟨rfl, hb2⟩) | fail)
  rename_i hH
  obtain ⟨-, hG2, -⟩ := hH
  go_wp2
  go_ret2
  exact ⟨rfl, hG2⟩
set_option maxRecDepth 100000 in
set_option maxHeartbeats 1000000 in
theorem it_ff_no  (k a b : Int) (s : ByteArray) (hq : (((1 : Int) == k) && ((0 : Int) == a) && ((0 : Int) == b) && (E0.toList == s.toList)) = false) (hk : ∀ w, Tabs w → Calls Tryz.prog 160 #[V k a b s] w fun e w' => e = .returned (.iface 216 (.bool false)) ∧ G w w') (w : World) (hT : Tabs w) :
    Calls Tryz.prog 130 #[V k a b s] w fun e w' => e = .returned (.tuple #[.nilIface, .bool false]) ∧ G w w' := by
  have HK : Hid _ := hk
  have HV : Hid (∀ w, Calls Tryz.prog 206 #[.bool false] w fun e w' => e = .returned (V 1 0 0 E0) ∧ G w w') := val_ff
  have hm := m_val_ff
  have he : ∀ w, (binOp .neq 41 (V 1 0 0 E0) (V k a b s)).run Tryz.prog w = .ok (.bool true) w := fun w => by rw [neqV, hq]; rfl
  clear hk hq
  go_enter Tryz.func130, Tryz.ntmps130
  go_wp2_with fail
  refine (HK.out _ (by exact hT.G ((G.refl w).alloc _))).mono ?_
  rintro e w1 ⟨rfl, hb1⟩
  have hc' := G.cells hb1 (b := w.heap.size) (f := fun o => [Value.int IntKind.i64 k, Value.int IntKind.i64 a, Value.int IntKind.i64 b, Value.string s][o]?) (by simp) (by simp)
  have hG : G w w1 := ((G.refl w).alloc _).trans hb1
  have hz : w.heap.size < w1.heap.size := by have := hb1.size; simp at this; omega
  clear hb1
  go_wp2
  go_region_held3 (fun W => (∀ (o : Nat), W.cell? { block := w.heap.size, off := o } = [Value.int IntKind.i64 k, Value.int IntKind.i64 a, Value.int IntKind.i64 b, Value.string s][o]?) ∧ G w W ∧ w.heap.size < W.heap.size) ((first | exact keepD ‹_› ‹_› ‹_› | exact keepG ‹_› ‹_› ‹_› ‹_› | exact keepG (keepD ‹_› ‹_› ‹_›).1 (keepD ‹_› ‹_› ‹_›).2.1 (keepD ‹_› ‹_› ‹_›).2.2 ‹_›)) (first | (go_at_call 206; refine (HV.out _).mono ?_; rintro e w2 ⟨rfl, hb2⟩) | fail)
  rename_i hH
  obtain ⟨-, hG2, -⟩ := hH
  go_wp2
  go_ret2
  exact ⟨rfl, hG2⟩
set_option maxRecDepth 100000 in
set_option maxHeartbeats 1000000 in
theorem it_tt_yes  (k a b : Int) (s : ByteArray) (hq : (((1 : Int) == k) && ((1 : Int) == a) && ((0 : Int) == b) && (E0.toList == s.toList)) = true) (hk : ∀ w, Tabs w → Calls Tryz.prog 160 #[V k a b s] w fun e w' => e = .returned (.iface 216 (.bool true)) ∧ G w w') (w : World) (hT : Tabs w) :
    Calls Tryz.prog 130 #[V k a b s] w fun e w' => e = .returned (.tuple #[.iface 216 (.bool true), .bool true]) ∧ G w w' := by
  have HK : Hid _ := hk
  have HV : Hid (∀ w, Calls Tryz.prog 206 #[.bool true] w fun e w' => e = .returned (V 1 1 0 E0) ∧ G w w') := val_tt
  have hm := m_val_tt
  have he : ∀ w, (binOp .neq 41 (V 1 1 0 E0) (V k a b s)).run Tryz.prog w = .ok (.bool false) w := fun w => by rw [neqV, hq]; rfl
  clear hk hq
  go_enter Tryz.func130, Tryz.ntmps130
  go_wp2_with fail
  refine (HK.out _ (by exact hT.G ((G.refl w).alloc _))).mono ?_
  rintro e w1 ⟨rfl, hb1⟩
  have hc' := G.cells hb1 (b := w.heap.size) (f := fun o => [Value.int IntKind.i64 k, Value.int IntKind.i64 a, Value.int IntKind.i64 b, Value.string s][o]?) (by simp) (by simp)
  have hG : G w w1 := ((G.refl w).alloc _).trans hb1
  have hz : w.heap.size < w1.heap.size := by have := hb1.size; simp at this; omega
  clear hb1
  go_wp2
  go_region_held3 (fun W => (∀ (o : Nat), W.cell? { block := w.heap.size, off := o } = [Value.int IntKind.i64 k, Value.int IntKind.i64 a, Value.int IntKind.i64 b, Value.string s][o]?) ∧ G w W ∧ w.heap.size < W.heap.size) ((first | exact keepD ‹_› ‹_› ‹_› | exact keepG ‹_› ‹_› ‹_› ‹_› | exact keepG (keepD ‹_› ‹_› ‹_›).1 (keepD ‹_› ‹_› ‹_›).2.1 (keepD ‹_› ‹_› ‹_›).2.2 ‹_›)) (first | (go_at_call 206; refine (HV.out _).mono ?_; rintro e w2 ⟨rfl, hb2⟩) | fail)
  rename_i hH
  obtain ⟨-, hG2, -⟩ := hH
  go_wp2
  go_ret2
  exact ⟨rfl, hG2⟩
set_option maxRecDepth 100000 in
set_option maxHeartbeats 1000000 in
theorem it_tt_no  (k a b : Int) (s : ByteArray) (hq : (((1 : Int) == k) && ((1 : Int) == a) && ((0 : Int) == b) && (E0.toList == s.toList)) = false) (hk : ∀ w, Tabs w → Calls Tryz.prog 160 #[V k a b s] w fun e w' => e = .returned (.iface 216 (.bool true)) ∧ G w w') (w : World) (hT : Tabs w) :
    Calls Tryz.prog 130 #[V k a b s] w fun e w' => e = .returned (.tuple #[.nilIface, .bool false]) ∧ G w w' := by
  have HK : Hid _ := hk
  have HV : Hid (∀ w, Calls Tryz.prog 206 #[.bool true] w fun e w' => e = .returned (V 1 1 0 E0) ∧ G w w') := val_tt
  have hm := m_val_tt
  have he : ∀ w, (binOp .neq 41 (V 1 1 0 E0) (V k a b s)).run Tryz.prog w = .ok (.bool true) w := fun w => by rw [neqV, hq]; rfl
  clear hk hq
  go_enter Tryz.func130, Tryz.ntmps130
  go_wp2_with fail
  refine (HK.out _ (by exact hT.G ((G.refl w).alloc _))).mono ?_
  rintro e w1 ⟨rfl, hb1⟩
  have hc' := G.cells hb1 (b := w.heap.size) (f := fun o => [Value.int IntKind.i64 k, Value.int IntKind.i64 a, Value.int IntKind.i64 b, Value.string s][o]?) (by simp) (by simp)
  have hG : G w w1 := ((G.refl w).alloc _).trans hb1
  have hz : w.heap.size < w1.heap.size := by have := hb1.size; simp at this; omega
  clear hb1
  go_wp2
  go_region_held3 (fun W => (∀ (o : Nat), W.cell? { block := w.heap.size, off := o } = [Value.int IntKind.i64 k, Value.int IntKind.i64 a, Value.int IntKind.i64 b, Value.string s][o]?) ∧ G w W ∧ w.heap.size < W.heap.size) ((first | exact keepD ‹_› ‹_› ‹_› | exact keepG ‹_› ‹_› ‹_› ‹_› | exact keepG (keepD ‹_› ‹_› ‹_›).1 (keepD ‹_› ‹_› ‹_›).2.1 (keepD ‹_› ‹_› ‹_›).2.2 ‹_›)) (first | (go_at_call 206; refine (HV.out _).mono ?_; rintro e w2 ⟨rfl, hb2⟩) | fail)
  rename_i hH
  obtain ⟨-, hG2, -⟩ := hH
  go_wp2
  go_ret2
  exact ⟨rfl, hG2⟩
set_option maxRecDepth 100000 in
set_option maxHeartbeats 1000000 in
theorem it_whole_yes (n : Int) (k a b : Int) (s : ByteArray) (hq : (((2 : Int) == k) && ((n : Int) == a) && ((0 : Int) == b) && (E0.toList == s.toList)) = true) (hk : ∀ w, Tabs w → Calls Tryz.prog 160 #[V k a b s] w fun e w' => e = .returned (.iface 217 (.int .i64 n)) ∧ G w w') (w : World) (hT : Tabs w) :
    Calls Tryz.prog 130 #[V k a b s] w fun e w' => e = .returned (.tuple #[.iface 217 (.int .i64 n), .bool true]) ∧ G w w' := by
  have HK : Hid _ := hk
  have HV : Hid (∀ w, Calls Tryz.prog 211 #[.int .i64 n] w fun e w' => e = .returned (V 2 n 0 E0) ∧ G w w') := val_whole n
  have hm := m_val_whole n
  have he : ∀ w, (binOp .neq 41 (V 2 n 0 E0) (V k a b s)).run Tryz.prog w = .ok (.bool false) w := fun w => by rw [neqV, hq]; rfl
  clear hk hq
  go_enter Tryz.func130, Tryz.ntmps130
  go_wp2_with fail
  refine (HK.out _ (by exact hT.G ((G.refl w).alloc _))).mono ?_
  rintro e w1 ⟨rfl, hb1⟩
  have hc' := G.cells hb1 (b := w.heap.size) (f := fun o => [Value.int IntKind.i64 k, Value.int IntKind.i64 a, Value.int IntKind.i64 b, Value.string s][o]?) (by simp) (by simp)
  have hG : G w w1 := ((G.refl w).alloc _).trans hb1
  have hz : w.heap.size < w1.heap.size := by have := hb1.size; simp at this; omega
  clear hb1
  go_wp2
  go_region_held3 (fun W => (∀ (o : Nat), W.cell? { block := w.heap.size, off := o } = [Value.int IntKind.i64 k, Value.int IntKind.i64 a, Value.int IntKind.i64 b, Value.string s][o]?) ∧ G w W ∧ w.heap.size < W.heap.size) ((first | exact keepD ‹_› ‹_› ‹_› | exact keepG ‹_› ‹_› ‹_› ‹_› | exact keepG (keepD ‹_› ‹_› ‹_›).1 (keepD ‹_› ‹_› ‹_›).2.1 (keepD ‹_› ‹_› ‹_›).2.2 ‹_›)) (first | (go_at_call 211; refine (HV.out _).mono ?_; rintro e w2 ⟨rfl, hb2⟩) | fail)
  rename_i hH
  obtain ⟨-, hG2, -⟩ := hH
  go_wp2
  go_ret2
  exact ⟨rfl, hG2⟩
set_option maxRecDepth 100000 in
set_option maxHeartbeats 1000000 in
theorem it_whole_no (n : Int) (k a b : Int) (s : ByteArray) (hq : (((2 : Int) == k) && ((n : Int) == a) && ((0 : Int) == b) && (E0.toList == s.toList)) = false) (hk : ∀ w, Tabs w → Calls Tryz.prog 160 #[V k a b s] w fun e w' => e = .returned (.iface 217 (.int .i64 n)) ∧ G w w') (w : World) (hT : Tabs w) :
    Calls Tryz.prog 130 #[V k a b s] w fun e w' => e = .returned (.tuple #[.nilIface, .bool false]) ∧ G w w' := by
  have HK : Hid _ := hk
  have HV : Hid (∀ w, Calls Tryz.prog 211 #[.int .i64 n] w fun e w' => e = .returned (V 2 n 0 E0) ∧ G w w') := val_whole n
  have hm := m_val_whole n
  have he : ∀ w, (binOp .neq 41 (V 2 n 0 E0) (V k a b s)).run Tryz.prog w = .ok (.bool true) w := fun w => by rw [neqV, hq]; rfl
  clear hk hq
  go_enter Tryz.func130, Tryz.ntmps130
  go_wp2_with fail
  refine (HK.out _ (by exact hT.G ((G.refl w).alloc _))).mono ?_
  rintro e w1 ⟨rfl, hb1⟩
  have hc' := G.cells hb1 (b := w.heap.size) (f := fun o => [Value.int IntKind.i64 k, Value.int IntKind.i64 a, Value.int IntKind.i64 b, Value.string s][o]?) (by simp) (by simp)
  have hG : G w w1 := ((G.refl w).alloc _).trans hb1
  have hz : w.heap.size < w1.heap.size := by have := hb1.size; simp at this; omega
  clear hb1
  go_wp2
  go_region_held3 (fun W => (∀ (o : Nat), W.cell? { block := w.heap.size, off := o } = [Value.int IntKind.i64 k, Value.int IntKind.i64 a, Value.int IntKind.i64 b, Value.string s][o]?) ∧ G w W ∧ w.heap.size < W.heap.size) ((first | exact keepD ‹_› ‹_› ‹_› | exact keepG ‹_› ‹_› ‹_› ‹_› | exact keepG (keepD ‹_› ‹_› ‹_›).1 (keepD ‹_› ‹_› ‹_›).2.1 (keepD ‹_› ‹_› ‹_›).2.2 ‹_›)) (first | (go_at_call 211; refine (HV.out _).mono ?_; rintro e w2 ⟨rfl, hb2⟩) | fail)
  rename_i hH
  obtain ⟨-, hG2, -⟩ := hH
  go_wp2
  go_ret2
  exact ⟨rfl, hG2⟩
set_option maxRecDepth 100000 in
set_option maxHeartbeats 1000000 in
theorem it_cpx_yes (x y : Nat) (c d : Int) (hx : Fl x c) (hy : Fl y d) (hc : c.natAbs < 2 ^ 53) (hd : d.natAbs < 2 ^ 53) (k a b : Int) (s : ByteArray) (hq : (((3 : Int) == k) && ((c : Int) == a) && ((d : Int) == b) && (E0.toList == s.toList)) = true) (hk : ∀ w, Tabs w → Calls Tryz.prog 160 #[V k a b s] w fun e w' => e = .returned (.iface 219 (.complex .f64 x y)) ∧ G w w') (w : World) (hT : Tabs w) :
    Calls Tryz.prog 130 #[V k a b s] w fun e w' => e = .returned (.tuple #[.iface 219 (.complex .f64 x y), .bool true]) ∧ G w w' := by
  have HK : Hid _ := hk
  have HV : Hid (∀ w, Calls Tryz.prog 216 #[.complex .f64 x y] w fun e w' => e = .returned (V 3 c d E0) ∧ G w w') := val_cpx x y c d hx hy hc hd
  have hm := m_val_cpx x y
  have he : ∀ w, (binOp .neq 41 (V 3 c d E0) (V k a b s)).run Tryz.prog w = .ok (.bool false) w := fun w => by rw [neqV, hq]; rfl
  clear hk hq hx hy hc hd
  go_enter Tryz.func130, Tryz.ntmps130
  go_wp2_with fail
  refine (HK.out _ (by exact hT.G ((G.refl w).alloc _))).mono ?_
  rintro e w1 ⟨rfl, hb1⟩
  have hc' := G.cells hb1 (b := w.heap.size) (f := fun o => [Value.int IntKind.i64 k, Value.int IntKind.i64 a, Value.int IntKind.i64 b, Value.string s][o]?) (by simp) (by simp)
  have hG : G w w1 := ((G.refl w).alloc _).trans hb1
  have hz : w.heap.size < w1.heap.size := by have := hb1.size; simp at this; omega
  clear hb1
  go_wp2
  go_region_held3 (fun W => (∀ (o : Nat), W.cell? { block := w.heap.size, off := o } = [Value.int IntKind.i64 k, Value.int IntKind.i64 a, Value.int IntKind.i64 b, Value.string s][o]?) ∧ G w W ∧ w.heap.size < W.heap.size) ((first | exact keepD ‹_› ‹_› ‹_› | exact keepG ‹_› ‹_› ‹_› ‹_› | exact keepG (keepD ‹_› ‹_› ‹_›).1 (keepD ‹_› ‹_› ‹_›).2.1 (keepD ‹_› ‹_› ‹_›).2.2 ‹_›)) (first | (go_at_call 216; refine (HV.out _).mono ?_; rintro e w2 ⟨rfl, hb2⟩) | fail)
  rename_i hH
  obtain ⟨-, hG2, -⟩ := hH
  go_wp2
  go_ret2
  exact ⟨rfl, hG2⟩
set_option maxRecDepth 100000 in
set_option maxHeartbeats 1000000 in
theorem it_cpx_no (x y : Nat) (c d : Int) (hx : Fl x c) (hy : Fl y d) (hc : c.natAbs < 2 ^ 53) (hd : d.natAbs < 2 ^ 53) (k a b : Int) (s : ByteArray) (hq : (((3 : Int) == k) && ((c : Int) == a) && ((d : Int) == b) && (E0.toList == s.toList)) = false) (hk : ∀ w, Tabs w → Calls Tryz.prog 160 #[V k a b s] w fun e w' => e = .returned (.iface 219 (.complex .f64 x y)) ∧ G w w') (w : World) (hT : Tabs w) :
    Calls Tryz.prog 130 #[V k a b s] w fun e w' => e = .returned (.tuple #[.nilIface, .bool false]) ∧ G w w' := by
  have HK : Hid _ := hk
  have HV : Hid (∀ w, Calls Tryz.prog 216 #[.complex .f64 x y] w fun e w' => e = .returned (V 3 c d E0) ∧ G w w') := val_cpx x y c d hx hy hc hd
  have hm := m_val_cpx x y
  have he : ∀ w, (binOp .neq 41 (V 3 c d E0) (V k a b s)).run Tryz.prog w = .ok (.bool true) w := fun w => by rw [neqV, hq]; rfl
  clear hk hq hx hy hc hd
  go_enter Tryz.func130, Tryz.ntmps130
  go_wp2_with fail
  refine (HK.out _ (by exact hT.G ((G.refl w).alloc _))).mono ?_
  rintro e w1 ⟨rfl, hb1⟩
  have hc' := G.cells hb1 (b := w.heap.size) (f := fun o => [Value.int IntKind.i64 k, Value.int IntKind.i64 a, Value.int IntKind.i64 b, Value.string s][o]?) (by simp) (by simp)
  have hG : G w w1 := ((G.refl w).alloc _).trans hb1
  have hz : w.heap.size < w1.heap.size := by have := hb1.size; simp at this; omega
  clear hb1
  go_wp2
  go_region_held3 (fun W => (∀ (o : Nat), W.cell? { block := w.heap.size, off := o } = [Value.int IntKind.i64 k, Value.int IntKind.i64 a, Value.int IntKind.i64 b, Value.string s][o]?) ∧ G w W ∧ w.heap.size < W.heap.size) ((first | exact keepD ‹_› ‹_› ‹_› | exact keepG ‹_› ‹_› ‹_› ‹_› | exact keepG (keepD ‹_› ‹_› ‹_›).1 (keepD ‹_› ‹_› ‹_›).2.1 (keepD ‹_› ‹_› ‹_›).2.2 ‹_›)) (first | (go_at_call 216; refine (HV.out _).mono ?_; rintro e w2 ⟨rfl, hb2⟩) | fail)
  rename_i hH
  obtain ⟨-, hG2, -⟩ := hH
  go_wp2
  go_ret2
  exact ⟨rfl, hG2⟩
theorem m_val_str (t : ByteArray) (w : World) : (method 356 221 (.string t) "trellis/value.val").run Tryz.prog w = .ok (222, .string t) w := by kernel_rfl
set_option maxHeartbeats 400000 in
theorem val_str (t : ByteArray) (w : World) : Calls Tryz.prog 222 #[.string t] w fun e w' => e = .returned (V 4 0 0 t) ∧ G w w' := by
  go_enter Tryz.func222, Tryz.ntmps222
  go_wp2
  exact bodyPost_ret (v := V 4 0 0 t) (by simp [results, Tryz.results222, go_sem]) rfl ⟨rfl, by repeat (first | exact G.refl _ | assumption | refine G.alloc ?_ _ | refine G.drew ?_ | refine G.setCell ?_ (by simp) _ | refine G.trans ?_ (by assumption))⟩
set_option maxRecDepth 100000 in
set_option maxHeartbeats 1000000 in
theorem it_str_yes (t : ByteArray) (k a b : Int) (s : ByteArray) (hq : (((4 : Int) == k) && ((0 : Int) == a) && ((0 : Int) == b) && (t.toList == s.toList)) = true) (hk : ∀ w, Tabs w → Calls Tryz.prog 160 #[V k a b s] w fun e w' => e = .returned (.iface 221 (.string t)) ∧ G w w') (w : World) (hT : Tabs w) :
    Calls Tryz.prog 130 #[V k a b s] w fun e w' => e = .returned (.tuple #[.iface 221 (.string t), .bool true]) ∧ G w w' := by
  have HK : Hid _ := hk
  have HV : Hid (∀ w, Calls Tryz.prog 222 #[.string t] w fun e w' => e = .returned (V 4 0 0 t) ∧ G w w') := val_str t
  have hm := m_val_str t
  have he : ∀ w, (binOp .neq 41 (V 4 0 0 t) (V k a b s)).run Tryz.prog w = .ok (.bool false) w := fun w => by rw [neqV, hq]; rfl
  clear hk hq
  go_enter Tryz.func130, Tryz.ntmps130
  go_wp2_with fail
  refine (HK.out _ (by exact hT.G ((G.refl w).alloc _))).mono ?_
  rintro e w1 ⟨rfl, hb1⟩
  have hc' := G.cells hb1 (b := w.heap.size) (f := fun o => [Value.int IntKind.i64 k, Value.int IntKind.i64 a, Value.int IntKind.i64 b, Value.string s][o]?) (by simp) (by simp)
  have hG : G w w1 := ((G.refl w).alloc _).trans hb1
  have hz : w.heap.size < w1.heap.size := by have := hb1.size; simp at this; omega
  clear hb1
  go_wp2
  go_region_held3 (fun W => (∀ (o : Nat), W.cell? { block := w.heap.size, off := o } = [Value.int IntKind.i64 k, Value.int IntKind.i64 a, Value.int IntKind.i64 b, Value.string s][o]?) ∧ G w W ∧ w.heap.size < W.heap.size) ((first | exact keepD ‹_› ‹_› ‹_› | exact keepG ‹_› ‹_› ‹_› ‹_› | exact keepG (keepD ‹_› ‹_› ‹_›).1 (keepD ‹_› ‹_› ‹_›).2.1 (keepD ‹_› ‹_› ‹_›).2.2 ‹_›)) (first | (go_at_call 222; refine (HV.out _).mono ?_; rintro e w2 ⟨rfl, hb2⟩) | fail)
  rename_i hH
  obtain ⟨-, hG2, -⟩ := hH
  go_wp2
  go_ret2
  exact ⟨rfl, hG2⟩
set_option maxRecDepth 100000 in
set_option maxHeartbeats 1000000 in
theorem it_str_no (t : ByteArray) (k a b : Int) (s : ByteArray) (hq : (((4 : Int) == k) && ((0 : Int) == a) && ((0 : Int) == b) && (t.toList == s.toList)) = false) (hk : ∀ w, Tabs w → Calls Tryz.prog 160 #[V k a b s] w fun e w' => e = .returned (.iface 221 (.string t)) ∧ G w w') (w : World) (hT : Tabs w) :
    Calls Tryz.prog 130 #[V k a b s] w fun e w' => e = .returned (.tuple #[.nilIface, .bool false]) ∧ G w w' := by
  have HK : Hid _ := hk
  have HV : Hid (∀ w, Calls Tryz.prog 222 #[.string t] w fun e w' => e = .returned (V 4 0 0 t) ∧ G w w') := val_str t
  have hm := m_val_str t
  have he : ∀ w, (binOp .neq 41 (V 4 0 0 t) (V k a b s)).run Tryz.prog w = .ok (.bool true) w := fun w => by rw [neqV, hq]; rfl
  clear hk hq
  go_enter Tryz.func130, Tryz.ntmps130
  go_wp2_with fail
  refine (HK.out _ (by exact hT.G ((G.refl w).alloc _))).mono ?_
  rintro e w1 ⟨rfl, hb1⟩
  have hc' := G.cells hb1 (b := w.heap.size) (f := fun o => [Value.int IntKind.i64 k, Value.int IntKind.i64 a, Value.int IntKind.i64 b, Value.string s][o]?) (by simp) (by simp)
  have hG : G w w1 := ((G.refl w).alloc _).trans hb1
  have hz : w.heap.size < w1.heap.size := by have := hb1.size; simp at this; omega
  clear hb1
  go_wp2
  go_region_held3 (fun W => (∀ (o : Nat), W.cell? { block := w.heap.size, off := o } = [Value.int IntKind.i64 k, Value.int IntKind.i64 a, Value.int IntKind.i64 b, Value.string s][o]?) ∧ G w W ∧ w.heap.size < W.heap.size) ((first | exact keepD ‹_› ‹_› ‹_› | exact keepG ‹_› ‹_› ‹_› ‹_› | exact keepG (keepD ‹_› ‹_› ‹_›).1 (keepD ‹_› ‹_› ‹_›).2.1 (keepD ‹_› ‹_› ‹_›).2.2 ‹_›)) (first | (go_at_call 222; refine (HV.out _).mono ?_; rintro e w2 ⟨rfl, hb2⟩) | fail)
  rename_i hH
  obtain ⟨-, hG2, -⟩ := hH
  go_wp2
  go_ret2
  exact ⟨rfl, hG2⟩
theorem m_val_node (n : Int) (w : World) : (method 356 222 (.int .i64 n) "trellis/value.val").run Tryz.prog w = .ok (227, .int .i64 n) w := by kernel_rfl
set_option maxHeartbeats 400000 in
theorem val_node (n : Int) (w : World) : Calls Tryz.prog 227 #[.int .i64 n] w fun e w' => e = .returned (V 5 n 0 E0) ∧ G w w' := by
  go_enter Tryz.func227, Tryz.ntmps227
  go_wp2
  exact bodyPost_ret (v := V 5 n 0 E0) (by simp [results, Tryz.results227, go_sem]) rfl ⟨rfl, by repeat (first | exact G.refl _ | assumption | refine G.alloc ?_ _ | refine G.drew ?_ | refine G.setCell ?_ (by simp) _ | refine G.trans ?_ (by assumption))⟩
set_option maxRecDepth 100000 in
set_option maxHeartbeats 1000000 in
theorem it_node_yes (n : Int) (k a b : Int) (s : ByteArray) (hq : (((5 : Int) == k) && ((n : Int) == a) && ((0 : Int) == b) && (E0.toList == s.toList)) = true) (hk : ∀ w, Tabs w → Calls Tryz.prog 160 #[V k a b s] w fun e w' => e = .returned (.iface 222 (.int .i64 n)) ∧ G w w') (w : World) (hT : Tabs w) :
    Calls Tryz.prog 130 #[V k a b s] w fun e w' => e = .returned (.tuple #[.iface 222 (.int .i64 n), .bool true]) ∧ G w w' := by
  have HK : Hid _ := hk
  have HV : Hid (∀ w, Calls Tryz.prog 227 #[.int .i64 n] w fun e w' => e = .returned (V 5 n 0 E0) ∧ G w w') := val_node n
  have hm := m_val_node n
  have he : ∀ w, (binOp .neq 41 (V 5 n 0 E0) (V k a b s)).run Tryz.prog w = .ok (.bool false) w := fun w => by rw [neqV, hq]; rfl
  clear hk hq
  go_enter Tryz.func130, Tryz.ntmps130
  go_wp2_with fail
  refine (HK.out _ (by exact hT.G ((G.refl w).alloc _))).mono ?_
  rintro e w1 ⟨rfl, hb1⟩
  have hc' := G.cells hb1 (b := w.heap.size) (f := fun o => [Value.int IntKind.i64 k, Value.int IntKind.i64 a, Value.int IntKind.i64 b, Value.string s][o]?) (by simp) (by simp)
  have hG : G w w1 := ((G.refl w).alloc _).trans hb1
  have hz : w.heap.size < w1.heap.size := by have := hb1.size; simp at this; omega
  clear hb1
  go_wp2
  go_region_held3 (fun W => (∀ (o : Nat), W.cell? { block := w.heap.size, off := o } = [Value.int IntKind.i64 k, Value.int IntKind.i64 a, Value.int IntKind.i64 b, Value.string s][o]?) ∧ G w W ∧ w.heap.size < W.heap.size) ((first | exact keepD ‹_› ‹_› ‹_› | exact keepG ‹_› ‹_› ‹_› ‹_› | exact keepG (keepD ‹_› ‹_› ‹_›).1 (keepD ‹_› ‹_› ‹_›).2.1 (keepD ‹_› ‹_› ‹_›).2.2 ‹_›)) (first | (go_at_call 227; refine (HV.out _).mono ?_; rintro e w2 ⟨rfl, hb2⟩) | fail)
  rename_i hH
  obtain ⟨-, hG2, -⟩ := hH
  go_wp2
  go_ret2
  exact ⟨rfl, hG2⟩
set_option maxRecDepth 100000 in
set_option maxHeartbeats 1000000 in
theorem it_node_no (n : Int) (k a b : Int) (s : ByteArray) (hq : (((5 : Int) == k) && ((n : Int) == a) && ((0 : Int) == b) && (E0.toList == s.toList)) = false) (hk : ∀ w, Tabs w → Calls Tryz.prog 160 #[V k a b s] w fun e w' => e = .returned (.iface 222 (.int .i64 n)) ∧ G w w') (w : World) (hT : Tabs w) :
    Calls Tryz.prog 130 #[V k a b s] w fun e w' => e = .returned (.tuple #[.nilIface, .bool false]) ∧ G w w' := by
  have HK : Hid _ := hk
  have HV : Hid (∀ w, Calls Tryz.prog 227 #[.int .i64 n] w fun e w' => e = .returned (V 5 n 0 E0) ∧ G w w') := val_node n
  have hm := m_val_node n
  have he : ∀ w, (binOp .neq 41 (V 5 n 0 E0) (V k a b s)).run Tryz.prog w = .ok (.bool true) w := fun w => by rw [neqV, hq]; rfl
  clear hk hq
  go_enter Tryz.func130, Tryz.ntmps130
  go_wp2_with fail
  refine (HK.out _ (by exact hT.G ((G.refl w).alloc _))).mono ?_
  rintro e w1 ⟨rfl, hb1⟩
  have hc' := G.cells hb1 (b := w.heap.size) (f := fun o => [Value.int IntKind.i64 k, Value.int IntKind.i64 a, Value.int IntKind.i64 b, Value.string s][o]?) (by simp) (by simp)
  have hG : G w w1 := ((G.refl w).alloc _).trans hb1
  have hz : w.heap.size < w1.heap.size := by have := hb1.size; simp at this; omega
  clear hb1
  go_wp2
  go_region_held3 (fun W => (∀ (o : Nat), W.cell? { block := w.heap.size, off := o } = [Value.int IntKind.i64 k, Value.int IntKind.i64 a, Value.int IntKind.i64 b, Value.string s][o]?) ∧ G w W ∧ w.heap.size < W.heap.size) ((first | exact keepD ‹_› ‹_› ‹_› | exact keepG ‹_› ‹_› ‹_› ‹_› | exact keepG (keepD ‹_› ‹_› ‹_›).1 (keepD ‹_› ‹_› ‹_›).2.1 (keepD ‹_› ‹_› ‹_›).2.2 ‹_›)) (first | (go_at_call 227; refine (HV.out _).mono ?_; rintro e w2 ⟨rfl, hb2⟩) | fail)
  rename_i hH
  obtain ⟨-, hG2, -⟩ := hH
  go_wp2
  go_ret2
  exact ⟨rfl, hG2⟩
theorem m_val_edge (n : Int) (w : World) : (method 356 223 (.int .i64 n) "trellis/value.val").run Tryz.prog w = .ok (232, .int .i64 n) w := by kernel_rfl
set_option maxHeartbeats 400000 in
theorem val_edge (n : Int) (w : World) : Calls Tryz.prog 232 #[.int .i64 n] w fun e w' => e = .returned (V 6 n 0 E0) ∧ G w w' := by
  go_enter Tryz.func232, Tryz.ntmps232
  go_wp2
  exact bodyPost_ret (v := V 6 n 0 E0) (by simp [results, Tryz.results232, go_sem]) rfl ⟨rfl, by repeat (first | exact G.refl _ | assumption | refine G.alloc ?_ _ | refine G.drew ?_ | refine G.setCell ?_ (by simp) _ | refine G.trans ?_ (by assumption))⟩
set_option maxRecDepth 100000 in
set_option maxHeartbeats 1000000 in
theorem it_edge_yes (n : Int) (k a b : Int) (s : ByteArray) (hq : (((6 : Int) == k) && ((n : Int) == a) && ((0 : Int) == b) && (E0.toList == s.toList)) = true) (hk : ∀ w, Tabs w → Calls Tryz.prog 160 #[V k a b s] w fun e w' => e = .returned (.iface 223 (.int .i64 n)) ∧ G w w') (w : World) (hT : Tabs w) :
    Calls Tryz.prog 130 #[V k a b s] w fun e w' => e = .returned (.tuple #[.iface 223 (.int .i64 n), .bool true]) ∧ G w w' := by
  have HK : Hid _ := hk
  have HV : Hid (∀ w, Calls Tryz.prog 232 #[.int .i64 n] w fun e w' => e = .returned (V 6 n 0 E0) ∧ G w w') := val_edge n
  have hm := m_val_edge n
  have he : ∀ w, (binOp .neq 41 (V 6 n 0 E0) (V k a b s)).run Tryz.prog w = .ok (.bool false) w := fun w => by rw [neqV, hq]; rfl
  clear hk hq
  go_enter Tryz.func130, Tryz.ntmps130
  go_wp2_with fail
  refine (HK.out _ (by exact hT.G ((G.refl w).alloc _))).mono ?_
  rintro e w1 ⟨rfl, hb1⟩
  have hc' := G.cells hb1 (b := w.heap.size) (f := fun o => [Value.int IntKind.i64 k, Value.int IntKind.i64 a, Value.int IntKind.i64 b, Value.string s][o]?) (by simp) (by simp)
  have hG : G w w1 := ((G.refl w).alloc _).trans hb1
  have hz : w.heap.size < w1.heap.size := by have := hb1.size; simp at this; omega
  clear hb1
  go_wp2
  go_region_held3 (fun W => (∀ (o : Nat), W.cell? { block := w.heap.size, off := o } = [Value.int IntKind.i64 k, Value.int IntKind.i64 a, Value.int IntKind.i64 b, Value.string s][o]?) ∧ G w W ∧ w.heap.size < W.heap.size) ((first | exact keepD ‹_› ‹_› ‹_› | exact keepG ‹_› ‹_› ‹_› ‹_› | exact keepG (keepD ‹_› ‹_› ‹_›).1 (keepD ‹_› ‹_› ‹_›).2.1 (keepD ‹_› ‹_› ‹_›).2.2 ‹_›)) (first | (go_at_call 232; refine (HV.out _).mono ?_; rintro e w2 ⟨rfl, hb2⟩) | fail)
  rename_i hH
  obtain ⟨-, hG2, -⟩ := hH
  go_wp2
  go_ret2
  exact ⟨rfl, hG2⟩
set_option maxRecDepth 100000 in
set_option maxHeartbeats 1000000 in
theorem it_edge_no (n : Int) (k a b : Int) (s : ByteArray) (hq : (((6 : Int) == k) && ((n : Int) == a) && ((0 : Int) == b) && (E0.toList == s.toList)) = false) (hk : ∀ w, Tabs w → Calls Tryz.prog 160 #[V k a b s] w fun e w' => e = .returned (.iface 223 (.int .i64 n)) ∧ G w w') (w : World) (hT : Tabs w) :
    Calls Tryz.prog 130 #[V k a b s] w fun e w' => e = .returned (.tuple #[.nilIface, .bool false]) ∧ G w w' := by
  have HK : Hid _ := hk
  have HV : Hid (∀ w, Calls Tryz.prog 232 #[.int .i64 n] w fun e w' => e = .returned (V 6 n 0 E0) ∧ G w w') := val_edge n
  have hm := m_val_edge n
  have he : ∀ w, (binOp .neq 41 (V 6 n 0 E0) (V k a b s)).run Tryz.prog w = .ok (.bool true) w := fun w => by rw [neqV, hq]; rfl
  clear hk hq
  go_enter Tryz.func130, Tryz.ntmps130
  go_wp2_with fail
  refine (HK.out _ (by exact hT.G ((G.refl w).alloc _))).mono ?_
  rintro e w1 ⟨rfl, hb1⟩
  have hc' := G.cells hb1 (b := w.heap.size) (f := fun o => [Value.int IntKind.i64 k, Value.int IntKind.i64 a, Value.int IntKind.i64 b, Value.string s][o]?) (by simp) (by simp)
  have hG : G w w1 := ((G.refl w).alloc _).trans hb1
  have hz : w.heap.size < w1.heap.size := by have := hb1.size; simp at this; omega
  clear hb1
  go_wp2
  go_region_held3 (fun W => (∀ (o : Nat), W.cell? { block := w.heap.size, off := o } = [Value.int IntKind.i64 k, Value.int IntKind.i64 a, Value.int IntKind.i64 b, Value.string s][o]?) ∧ G w W ∧ w.heap.size < W.heap.size) ((first | exact keepD ‹_› ‹_› ‹_› | exact keepG ‹_› ‹_› ‹_› ‹_› | exact keepG (keepD ‹_› ‹_› ‹_›).1 (keepD ‹_› ‹_› ‹_›).2.1 (keepD ‹_› ‹_› ‹_›).2.2 ‹_›)) (first | (go_at_call 232; refine (HV.out _).mono ?_; rintro e w2 ⟨rfl, hb2⟩) | fail)
  rename_i hH
  obtain ⟨-, hG2, -⟩ := hH
  go_wp2
  go_ret2
  exact ⟨rfl, hG2⟩
end Go.Proofs.YtifioikdhfhljaaGreatDoor
