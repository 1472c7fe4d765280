/- itemOf at whatever fields: the item where it shows the same fields, else none. -/
import Derived.Test.YtcdjjmjhdoanlaaDoorCpx
import Derived.Test.YtcdjjmjhdoanlaaDoorRefValid
import Derived.Test.YtcdjjmjhdoanlaaDoorShelf
import Derived.Deep.QuietTactic
import Derived.BigQuiet
namespace Go.Proofs.YtcdjjmjhdoanlaaDoor
open Go.RowKit Go.Lib Go.Shelf

/-- The two tables of unicode/utf8. -/
def Tabs (w : World) : Prop := Lib.Utf8Tabs (Tryd.laysValid_ren.g 3) (Tryd.laysValid_ren.g 4) w
theorem Tabs.G {w w' : World} (h : Tabs w) (g : G w w') : Tabs w' := Utf8Tabs_below h g
theorem valid_str (s : ByteArray) (hs : s.size ≤ 4611686018427387904) (w : World) (hT : Tabs w) : Calls Tryd.prog 60 #[.string s] w fun e w' => e = .returned (.bool (validD s.data.toList)) ∧ G w w' :=
  Any.utf8_ValidString Tryd.laysValid s w (by omega) hT
theorem G.drewM {a w : World} (h : G a w) (n : Nat) : G a (w.drewN n) := ⟨h.os, h.tape, h.output, h.size, h.block⟩
set_option maxRecDepth 100000 in
set_option maxHeartbeats 400000 in
theorem it_nil (k a b : Int) (s : ByteArray) (hk : ∀ w, Tabs w → Calls Tryd.prog 58 #[V k a b s] w fun e w' => e = .returned .nilIface ∧ G w w') (w : World) (hT : Tabs w) :
    Calls Tryd.prog 57 #[V k a b s] w fun e w' => e = .returned (.tuple #[.nilIface, .bool false]) ∧ G w w' := by
  have HK : Hid _ := hk
  clear hk
  go_enter Tryd.func57, Tryd.ntmps57
  go_wp2_with fail
  refine (HK.out _ (by exact hT.G ((G.refl w).alloc _))).mono ?_
  rintro e w1 ⟨rfl, hb1⟩
  go_wp2
  go_quiet (fail)
  go_wp2
  go_ret2
  exact ⟨rfl, G.drewM (((G.refl w).alloc _).trans hb1) _⟩
set_option maxRecDepth 100000 in
set_option maxHeartbeats 1000000 in
theorem it_null_yes  (k a b : Int) (s : ByteArray) (hq : (((0 : Int) == k) && ((0 : Int) == a) && ((0 : Int) == b) && (E0.toList == s.toList)) = true) (hk : ∀ w, Tabs w → Calls Tryd.prog 58 #[V k a b s] w fun e w' => e = .returned (.iface 115 (.agg #[])) ∧ G w w') (w : World) (hT : Tabs w) :
    Calls Tryd.prog 57 #[V k a b s] w fun e w' => e = .returned (.tuple #[.iface 115 (.agg #[]), .bool true]) ∧ G w w' := by
  have HK : Hid _ := hk
  have HV : Hid (∀ w, Calls Tryd.prog 82 #[.agg #[]] w fun e w' => e = .returned (V 0 0 0 E0) ∧ G w w') := val_null
  have hm := m_val_null
  have he : ∀ w, (binOp .neq 86 (V 0 0 0 E0) (V k a b s)).run Tryd.prog w = .ok (.bool false) w := fun w => by rw [neqV, hq]; rfl
  clear hk hq
  go_enter Tryd.func57, Tryd.ntmps57
  go_wp2_with fail
  refine (HK.out _ (by exact hT.G ((G.refl w).alloc _))).mono ?_
  rintro e w1 ⟨rfl, hb1⟩
  have hc' := G.cells hb1 (b := w.heap.size) (f := fun o => [Value.int IntKind.i64 k, Value.int IntKind.i64 a, Value.int IntKind.i64 b, Value.string s][o]?) (by simp) (by simp)
  have hG : G w w1 := ((G.refl w).alloc _).trans hb1
  have hz : w.heap.size < w1.heap.size := by have := hb1.size; simp at this; omega
  clear hb1
  go_wp2
  go_region_held3 (fun W => (∀ (o : Nat), W.cell? { block := w.heap.size, off := o } = [Value.int IntKind.i64 k, Value.int IntKind.i64 a, Value.int IntKind.i64 b, Value.string s][o]?) ∧ G w W ∧ w.heap.size < W.heap.size) ((first | exact keepD ‹_› ‹_› ‹_› | exact keepG ‹_› ‹_› ‹_› ‹_› | exact keepG (keepD ‹_› ‹_› ‹_›).1 (keepD ‹_› ‹_› ‹_›).2.1 (keepD ‹_› ‹_› ‹_›).2.2 ‹_›)) (first | (go_at_call 82; refine (HV.out _).mono ?_; rintro e w2 ⟨rfl, hb2⟩) | fail)
  rename_i hH
  obtain ⟨-, hG2, -⟩ := hH
  go_wp2
  go_ret2
  exact ⟨rfl, hG2⟩
set_option maxRecDepth 100000 in
set_option maxHeartbeats 1000000 in
theorem it_null_no  (k a b : Int) (s : ByteArray) (hq : (((0 : Int) == k) && ((0 : Int) == a) && ((0 : Int) == b) && (E0.toList == s.toList)) = false) (hk : ∀ w, Tabs w → Calls Tryd.prog 58 #[V k a b s] w fun e w' => e = .returned (.iface 115 (.agg #[])) ∧ G w w') (w : World) (hT : Tabs w) :
    Calls Tryd.prog 57 #[V k a b s] w fun e w' => e = .returned (.tuple #[.nilIface, .bool false]) ∧ G w w' := by
  have HK : Hid _ := hk
  have HV : Hid (∀ w, Calls Tryd.prog 82 #[.agg #[]] w fun e w' => e = .returned (V 0 0 0 E0) ∧ G w w') := val_null
  have hm := m_val_null
  have he : ∀ w, (binOp .neq 86 (V 0 0 0 E0) (V k a b s)).run Tryd.prog w = .ok (.bool true) w := fun w => by rw [neqV, hq]; rfl
  clear hk hq
  go_enter Tryd.func57, Tryd.ntmps57
  go_wp2_with fail
  refine (HK.out _ (by exact hT.G ((G.refl w).alloc _))).mono ?_
  rintro e w1 ⟨rfl, hb1⟩
  have hc' := G.cells hb1 (b := w.heap.size) (f := fun o => [Value.int IntKind.i64 k, Value.int IntKind.i64 a, Value.int IntKind.i64 b, Value.string s][o]?) (by simp) (by simp)
  have hG : G w w1 := ((G.refl w).alloc _).trans hb1
  have hz : w.heap.size < w1.heap.size := by have := hb1.size; simp at this; omega
  clear hb1
  go_wp2
  go_region_held3 (fun W => (∀ (o : Nat), W.cell? { block := w.heap.size, off := o } = [Value.int IntKind.i64 k, Value.int IntKind.i64 a, Value.int IntKind.i64 b, Value.string s][o]?) ∧ G w W ∧ w.heap.size < W.heap.size) ((first | exact keepD ‹_› ‹_› ‹_› | exact keepG ‹_› ‹_› ‹_› ‹_› | exact keepG (keepD ‹_› ‹_› ‹_›).1 (keepD ‹_› ‹_› ‹_›).2.1 (keepD ‹_› ‹_› ‹_›).2.2 ‹_›)) (first | (go_at_call 82; refine (HV.out _).mono ?_; rintro e w2 ⟨rfl, hb2⟩) | fail)
  rename_i hH
  obtain ⟨-, hG2, -⟩ := hH
  go_wp2
  go_ret2
  exact ⟨rfl, hG2⟩
set_option maxRecDepth 100000 in
set_option maxHeartbeats 1000000 in
theorem it_ff_yes  (k a b : Int) (s : ByteArray) (hq : (((1 : Int) == k) && ((0 : Int) == a) && ((0 : Int) == b) && (E0.toList == s.toList)) = true) (hk : ∀ w, Tabs w → Calls Tryd.prog 58 #[V k a b s] w fun e w' => e = .returned (.iface 116 (.bool false)) ∧ G w w') (w : World) (hT : Tabs w) :
    Calls Tryd.prog 57 #[V k a b s] w fun e w' => e = .returned (.tuple #[.iface 116 (.bool false), .bool true]) ∧ G w w' := by
  have HK : Hid _ := hk
  have HV : Hid (∀ w, Calls Tryd.prog 87 #[.bool false] w fun e w' => e = .returned (V 1 0 0 E0) ∧ G w w') := val_ff
  have hm := m_val_ff
  have he : ∀ w, (binOp .neq 86 (V 1 0 0 E0) (V k a b s)).run Tryd.prog w = .ok (.bool false) w := fun w => by rw [neqV, hq]; rfl
  clear hk hq
  go_enter Tryd.func57, Tryd.ntmps57
  go_wp2_with fail
  refine (HK.out _ (by exact hT.G ((G.refl w).alloc _))).mono ?_
  rintro e w1 ⟨rfl, hb1⟩
  have hc' := G.cells hb1 (b := w.heap.size) (f := fun o => [Value.int IntKind.i64 k, Value.int IntKind.i64 a, Value.int IntKind.i64 b, Value.string s][o]?) (by simp) (by simp)
  have hG : G w w1 := ((G.refl w).alloc _).trans hb1
  have hz : w.heap.size < w1.heap.size := by have := hb1.size; simp at this; omega
  clear hb1
  go_wp2
  go_region_held3 (fun W => (∀ (o : Nat), W.cell? { block := w.heap.size, off := o } = [Value.int IntKind.i64 k, Value.int IntKind.i64 a, Value.int IntKind.i64 b, Value.string s][o]?) ∧ G w W ∧ w.heap.size < W.heap.size) ((first | exact keepD ‹_› ‹_› ‹_› | exact keepG ‹_› ‹_› ‹_› ‹_› | exact keepG (keepD ‹_› ‹_› ‹_›).1 (keepD ‹_› ‹_› ‹_›).2.1 (keepD ‹_› ‹_› ‹_›).2.2 ‹_›)) (first | (go_at_call 87; refine (HV.out _).mono ?_; rintro e w2 ⟨rfl, hb2⟩) | fail)
  rename_i hH
  obtain ⟨-, hG2, -⟩ := hH
  go_wp2
  go_ret2
  exact ⟨rfl, hG2⟩
set_option maxRecDepth 100000 in
set_option maxHeartbeats 1000000 in
theorem it_ff_no  (k a b : Int) (s : ByteArray) (hq : (((1 : Int) == k) && ((0 : Int) == a) && ((0 : Int) == b) && (E0.toList == s.toList)) = false) (hk : ∀ w, Tabs w → Calls Tryd.prog 58 #[V k a b s] w fun e w' => e = .returned (.iface 116 (.bool false)) ∧ G w w') (w : World) (hT : Tabs w) :
    Calls Tryd.prog 57 #[V k a b s] w fun e w' => e = .returned (.tuple #[.nilIface, .bool false]) ∧ G w w' := by
  have HK : Hid _ := hk
  have HV : Hid (∀ w, Calls Tryd.prog 87 #[.bool false] w fun e w' => e = .returned (V 1 0 0 E0) ∧ G w w') := val_ff
  have hm := m_val_ff
  have he : ∀ w, (binOp .neq 86 (V 1 0 0 E0) (V k a b s)).run Tryd.prog w = .ok (.bool true) w := fun w => by rw [neqV, hq]; rfl
  clear hk hq
  go_enter Tryd.func57, Tryd.ntmps57
  go_wp2_with fail
  refine (HK.out _ (by exact hT.G ((G.refl w).alloc _))).mono ?_
  rintro e w1 ⟨rfl, hb1⟩
  have hc' := G.cells hb1 (b := w.heap.size) (f := fun o => [Value.int IntKind.i64 k, Value.int IntKind.i64 a, Value.int IntKind.i64 b, Value.string s][o]?) (by simp) (by simp)
  have hG : G w w1 := ((G.refl w).alloc _).trans hb1
  have hz : w.heap.size < w1.heap.size := by have := hb1.size; simp at this; omega
  clear hb1
  go_wp2
  go_region_held3 (fun W => (∀ (o : Nat), W.cell? { block := w.heap.size, off := o } = [Value.int IntKind.i64 k, Value.int IntKind.i64 a, Value.int IntKind.i64 b, Value.string s][o]?) ∧ G w W ∧ w.heap.size < W.heap.size) ((first | exact keepD ‹_› ‹_› ‹_› | exact keepG ‹_› ‹_› ‹_› ‹_› | exact keepG (keepD ‹_› ‹_› ‹_›).1 (keepD ‹_› ‹_› ‹_›).2.1 (keepD ‹_› ‹_› ‹_›).2.2 ‹_›)) (first | (go_at_call 87; refine (HV.out _).mono ?_; rintro e w2 ⟨rfl, hb2⟩) | fail)
  rename_i hH
  obtain ⟨-, hG2, -⟩ := hH
  go_wp2
  go_ret2
  exact ⟨rfl, hG2⟩
set_option maxRecDepth 100000 in
set_option maxHeartbeats 1000000 in
theorem it_tt_yes  (k a b : Int) (s : ByteArray) (hq : (((1 : Int) == k) && ((1 : Int) == a) && ((0 : Int) == b) && (E0.toList == s.toList)) = true) (hk : ∀ w, Tabs w → Calls Tryd.prog 58 #[V k a b s] w fun e w' => e = .returned (.iface 116 (.bool true)) ∧ G w w') (w : World) (hT : Tabs w) :
    Calls Tryd.prog 57 #[V k a b s] w fun e w' => e = .returned (.tuple #[.iface 116 (.bool true), .bool true]) ∧ G w w' := by
  have HK : Hid _ := hk
  have HV : Hid (∀ w, Calls Tryd.prog 87 #[.bool true] w fun e w' => e = .returned (V 1 1 0 E0) ∧ G w w') := val_tt
  have hm := m_val_tt
  have he : ∀ w, (binOp .neq 86 (V 1 1 0 E0) (V k a b s)).run Tryd.prog w = .ok (.bool false) w := fun w => by rw [neqV, hq]; rfl
  clear hk hq
  go_enter Tryd.func57, Tryd.ntmps57
  go_wp2_with fail
  refine (HK.out _ (by exact hT.G ((G.refl w).alloc _))).mono ?_
  rintro e w1 ⟨rfl, hb1⟩
  have hc' := G.cells hb1 (b := w.heap.size) (f := fun o => [Value.int IntKind.i64 k, Value.int IntKind.i64 a, Value.int IntKind.i64 b, Value.string s][o]?) (by simp) (by simp)
  have hG : G w w1 := ((G.refl w).alloc _).trans hb1
  have hz : w.heap.size < w1.heap.size := by have := hb1.size; simp at this; omega
  clear hb1
  go_wp2
  go_region_held3 (fun W => (∀ (o : Nat), W.cell? { block := w.heap.size, off := o } = [Value.int IntKind.i64 k, Value.int IntKind.i64 a, Value.int IntKind.i64 b, Value.string s][o]?) ∧ G w W ∧ w.heap.size < W.heap.size) ((first | exact keepD ‹_› ‹_› ‹_› | exact keepG ‹_› ‹_› ‹_› ‹_› | exact keepG (keepD ‹_› ‹_› ‹_›).1 (keepD ‹_› ‹_› ‹_›).2.1 (keepD ‹_› ‹_› ‹_›).2.2 ‹_›)) (first | (go_at_call 87; refine (HV.out _).mono ?_; rintro e w2 ⟨rfl, hb2⟩) | fail)
  rename_i hH
  obtain ⟨-, hG2, -⟩ := hH
  go_wp2
  go_ret2
  exact ⟨rfl, hG2⟩
set_option maxRecDepth 100000 in
set_option maxHeartbeats 1000000 in
theorem it_tt_no  (k a b : Int) (s : ByteArray) (hq : (((1 : Int) == k) && ((1 : Int) == a) && ((0 : Int) == b) && (E0.toList == s.toList)) = false) (hk : ∀ w, Tabs w → Calls Tryd.prog 58 #[V k a b s] w fun e w' => e = .returned (.iface 116 (.bool true)) ∧ G w w') (w : World) (hT : Tabs w) :
    Calls Tryd.prog 57 #[V k a b s] w fun e w' => e = .returned (.tuple #[.nilIface, .bool false]) ∧ G w w' := by
  have HK : Hid _ := hk
  have HV : Hid (∀ w, Calls Tryd.prog 87 #[.bool true] w fun e w' => e = .returned (V 1 1 0 E0) ∧ G w w') := val_tt
  have hm := m_val_tt
  have he : ∀ w, (binOp .neq 86 (V 1 1 0 E0) (V k a b s)).run Tryd.prog w = .ok (.bool true) w := fun w => by rw [neqV, hq]; rfl
  clear hk hq
  go_enter Tryd.func57, Tryd.ntmps57
  go_wp2_with fail
  refine (HK.out _ (by exact hT.G ((G.refl w).alloc _))).mono ?_
  rintro e w1 ⟨rfl, hb1⟩
  have hc' := G.cells hb1 (b := w.heap.size) (f := fun o => [Value.int IntKind.i64 k, Value.int IntKind.i64 a, Value.int IntKind.i64 b, Value.string s][o]?) (by simp) (by simp)
  have hG : G w w1 := ((G.refl w).alloc _).trans hb1
  have hz : w.heap.size < w1.heap.size := by have := hb1.size; simp at this; omega
  clear hb1
  go_wp2
  go_region_held3 (fun W => (∀ (o : Nat), W.cell? { block := w.heap.size, off := o } = [Value.int IntKind.i64 k, Value.int IntKind.i64 a, Value.int IntKind.i64 b, Value.string s][o]?) ∧ G w W ∧ w.heap.size < W.heap.size) ((first | exact keepD ‹_› ‹_› ‹_› | exact keepG ‹_› ‹_› ‹_› ‹_› | exact keepG (keepD ‹_› ‹_› ‹_›).1 (keepD ‹_› ‹_› ‹_›).2.1 (keepD ‹_› ‹_› ‹_›).2.2 ‹_›)) (first | (go_at_call 87; refine (HV.out _).mono ?_; rintro e w2 ⟨rfl, hb2⟩) | fail)
  rename_i hH
  obtain ⟨-, hG2, -⟩ := hH
  go_wp2
  go_ret2
  exact ⟨rfl, hG2⟩
set_option maxRecDepth 100000 in
set_option maxHeartbeats 1000000 in
theorem it_whole_yes (n : Int) (k a b : Int) (s : ByteArray) (hq : (((2 : Int) == k) && ((n : Int) == a) && ((0 : Int) == b) && (E0.toList == s.toList)) = true) (hk : ∀ w, Tabs w → Calls Tryd.prog 58 #[V k a b s] w fun e w' => e = .returned (.iface 117 (.int .i64 n)) ∧ G w w') (w : World) (hT : Tabs w) :
    Calls Tryd.prog 57 #[V k a b s] w fun e w' => e = .returned (.tuple #[.iface 117 (.int .i64 n), .bool true]) ∧ G w w' := by
  have HK : Hid _ := hk
  have HV : Hid (∀ w, Calls Tryd.prog 92 #[.int .i64 n] w fun e w' => e = .returned (V 2 n 0 E0) ∧ G w w') := val_whole n
  have hm := m_val_whole n
  have he : ∀ w, (binOp .neq 86 (V 2 n 0 E0) (V k a b s)).run Tryd.prog w = .ok (.bool false) w := fun w => by rw [neqV, hq]; rfl
  clear hk hq
  go_enter Tryd.func57, Tryd.ntmps57
  go_wp2_with fail
  refine (HK.out _ (by exact hT.G ((G.refl w).alloc _))).mono ?_
  rintro e w1 ⟨rfl, hb1⟩
  have hc' := G.cells hb1 (b := w.heap.size) (f := fun o => [Value.int IntKind.i64 k, Value.int IntKind.i64 a, Value.int IntKind.i64 b, Value.string s][o]?) (by simp) (by simp)
  have hG : G w w1 := ((G.refl w).alloc _).trans hb1
  have hz : w.heap.size < w1.heap.size := by have := hb1.size; simp at this; omega
  clear hb1
  go_wp2
  go_region_held3 (fun W => (∀ (o : Nat), W.cell? { block := w.heap.size, off := o } = [Value.int IntKind.i64 k, Value.int IntKind.i64 a, Value.int IntKind.i64 b, Value.string s][o]?) ∧ G w W ∧ w.heap.size < W.heap.size) ((first | exact keepD ‹_› ‹_› ‹_› | exact keepG ‹_› ‹_› ‹_› ‹_› | exact keepG (keepD ‹_› ‹_› ‹_›).1 (keepD ‹_› ‹_› ‹_›).2.1 (keepD ‹_› ‹_› ‹_›).2.2 ‹_›)) (first | (go_at_call 92; refine (HV.out _).mono ?_; rintro e w2 ⟨rfl, hb2⟩) | fail)
  rename_i hH
  obtain ⟨-, hG2, -⟩ := hH
  go_wp2
  go_ret2
  exact ⟨rfl, hG2⟩
set_option maxRecDepth 100000 in
set_option maxHeartbeats 1000000 in
theorem it_whole_no (n : Int) (k a b : Int) (s : ByteArray) (hq : (((2 : Int) == k) && ((n : Int) == a) && ((0 : Int) == b) && (E0.toList == s.toList)) = false) (hk : ∀ w, Tabs w → Calls Tryd.prog 58 #[V k a b s] w fun e w' => e = .returned (.iface 117 (.int .i64 n)) ∧ G w w') (w : World) (hT : Tabs w) :
    Calls Tryd.prog 57 #[V k a b s] w fun e w' => e = .returned (.tuple #[.nilIface, .bool false]) ∧ G w w' := by
  have HK : Hid _ := hk
  have HV : Hid (∀ w, Calls Tryd.prog 92 #[.int .i64 n] w fun e w' => e = .returned (V 2 n 0 E0) ∧ G w w') := val_whole n
  have hm := m_val_whole n
  have he : ∀ w, (binOp .neq 86 (V 2 n 0 E0) (V k a b s)).run Tryd.prog w = .ok (.bool true) w := fun w => by rw [neqV, hq]; rfl
  clear hk hq
  go_enter Tryd.func57, Tryd.ntmps57
  go_wp2_with fail
  refine (HK.out _ (by exact hT.G ((G.refl w).alloc _))).mono ?_
  rintro e w1 ⟨rfl, hb1⟩
  have hc' := G.cells hb1 (b := w.heap.size) (f := fun o => [Value.int IntKind.i64 k, Value.int IntKind.i64 a, Value.int IntKind.i64 b, Value.string s][o]?) (by simp) (by simp)
  have hG : G w w1 := ((G.refl w).alloc _).trans hb1
  have hz : w.heap.size < w1.heap.size := by have := hb1.size; simp at this; omega
  clear hb1
  go_wp2
  go_region_held3 (fun W => (∀ (o : Nat), W.cell? { block := w.heap.size, off := o } = [Value.int IntKind.i64 k, Value.int IntKind.i64 a, Value.int IntKind.i64 b, Value.string s][o]?) ∧ G w W ∧ w.heap.size < W.heap.size) ((first | exact keepD ‹_› ‹_› ‹_› | exact keepG ‹_› ‹_› ‹_› ‹_› | exact keepG (keepD ‹_› ‹_› ‹_›).1 (keepD ‹_› ‹_› ‹_›).2.1 (keepD ‹_› ‹_› ‹_›).2.2 ‹_›)) (first | (go_at_call 92; refine (HV.out _).mono ?_; rintro e w2 ⟨rfl, hb2⟩) | fail)
  rename_i hH
  obtain ⟨-, hG2, -⟩ := hH
  go_wp2
  go_ret2
  exact ⟨rfl, hG2⟩
set_option maxRecDepth 100000 in
set_option maxHeartbeats 1000000 in
theorem it_cpx_yes (x y : Nat) (c d : Int) (hx : Fl x c) (hy : Fl y d) (hc : c.natAbs < 2 ^ 53) (hd : d.natAbs < 2 ^ 53) (k a b : Int) (s : ByteArray) (hq : (((3 : Int) == k) && ((c : Int) == a) && ((d : Int) == b) && (E0.toList == s.toList)) = true) (hk : ∀ w, Tabs w → Calls Tryd.prog 58 #[V k a b s] w fun e w' => e = .returned (.iface 119 (.complex .f64 x y)) ∧ G w w') (w : World) (hT : Tabs w) :
    Calls Tryd.prog 57 #[V k a b s] w fun e w' => e = .returned (.tuple #[.iface 119 (.complex .f64 x y), .bool true]) ∧ G w w' := by
  have HK : Hid _ := hk
  have HV : Hid (∀ w, Calls Tryd.prog 97 #[.complex .f64 x y] w fun e w' => e = .returned (V 3 c d E0) ∧ G w w') := val_cpx x y c d hx hy hc hd
  have hm := m_val_cpx x y
  have he : ∀ w, (binOp .neq 86 (V 3 c d E0) (V k a b s)).run Tryd.prog w = .ok (.bool false) w := fun w => by rw [neqV, hq]; rfl
  clear hk hq hx hy hc hd
  go_enter Tryd.func57, Tryd.ntmps57
  go_wp2_with fail
  refine (HK.out _ (by exact hT.G ((G.refl w).alloc _))).mono ?_
  rintro e w1 ⟨rfl, hb1⟩
  have hc' := G.cells hb1 (b := w.heap.size) (f := fun o => [Value.int IntKind.i64 k, Value.int IntKind.i64 a, Value.int IntKind.i64 b, Value.string s][o]?) (by simp) (by simp)
  have hG : G w w1 := ((G.refl w).alloc _).trans hb1
  have hz : w.heap.size < w1.heap.size := by have := hb1.size; simp at this; omega
  clear hb1
  go_wp2
  go_region_held3 (fun W => (∀ (o : Nat), W.cell? { block := w.heap.size, off := o } = [Value.int IntKind.i64 k, Value.int IntKind.i64 a, Value.int IntKind.i64 b, Value.string s][o]?) ∧ G w W ∧ w.heap.size < W.heap.size) ((first | exact keepD ‹_› ‹_› ‹_› | exact keepG ‹_› ‹_› ‹_› ‹_› | exact keepG (keepD ‹_› ‹_› ‹_›).1 (keepD ‹_› ‹_› ‹_›).2.1 (keepD ‹_› ‹_› ‹_›).2.2 ‹_›)) (first | (go_at_call 97; refine (HV.out _).mono ?_; rintro e w2 ⟨rfl, hb2⟩) | fail)
  rename_i hH
  obtain ⟨-, hG2, -⟩ := hH
  go_wp2
  go_ret2
  exact ⟨rfl, hG2⟩
set_option maxRecDepth 100000 in
set_option maxHeartbeats 1000000 in
theorem it_cpx_no (x y : Nat) (c d : Int) (hx : Fl x c) (hy : Fl y d) (hc : c.natAbs < 2 ^ 53) (hd : d.natAbs < 2 ^ 53) (k a b : Int) (s : ByteArray) (hq : (((3 : Int) == k) && ((c : Int) == a) && ((d : Int) == b) && (E0.toList == s.toList)) = false) (hk : ∀ w, Tabs w → Calls Tryd.prog 58 #[V k a b s] w fun e w' => e = .returned (.iface 119 (.complex .f64 x y)) ∧ G w w') (w : World) (hT : Tabs w) :
    Calls Tryd.prog 57 #[V k a b s] w fun e w' => e = .returned (.tuple #[.nilIface, .bool false]) ∧ G w w' := by
  have HK : Hid _ := hk
  have HV : Hid (∀ w, Calls Tryd.prog 97 #[.complex .f64 x y] w fun e w' => e = .returned (V 3 c d E0) ∧ G w w') := val_cpx x y c d hx hy hc hd
  have hm := m_val_cpx x y
  have he : ∀ w, (binOp .neq 86 (V 3 c d E0) (V k a b s)).run Tryd.prog w = .ok (.bool true) w := fun w => by rw [neqV, hq]; rfl
  clear hk hq hx hy hc hd
  go_enter Tryd.func57, Tryd.ntmps57
  go_wp2_with fail
  refine (HK.out _ (by exact hT.G ((G.refl w).alloc _))).mono ?_
  rintro e w1 ⟨rfl, hb1⟩
  have hc' := G.cells hb1 (b := w.heap.size) (f := fun o => [Value.int IntKind.i64 k, Value.int IntKind.i64 a, Value.int IntKind.i64 b, Value.string s][o]?) (by simp) (by simp)
  have hG : G w w1 := ((G.refl w).alloc _).trans hb1
  have hz : w.heap.size < w1.heap.size := by have := hb1.size; simp at this; omega
  clear hb1
  go_wp2
  go_region_held3 (fun W => (∀ (o : Nat), W.cell? { block := w.heap.size, off := o } = [Value.int IntKind.i64 k, Value.int IntKind.i64 a, Value.int IntKind.i64 b, Value.string s][o]?) ∧ G w W ∧ w.heap.size < W.heap.size) ((first | exact keepD ‹_› ‹_› ‹_› | exact keepG ‹_› ‹_› ‹_› ‹_› | exact keepG (keepD ‹_› ‹_› ‹_›).1 (keepD ‹_› ‹_› ‹_›).2.1 (keepD ‹_› ‹_› ‹_›).2.2 ‹_›)) (first | (go_at_call 97; refine (HV.out _).mono ?_; rintro e w2 ⟨rfl, hb2⟩) | fail)
  rename_i hH
  obtain ⟨-, hG2, -⟩ := hH
  go_wp2
  go_ret2
  exact ⟨rfl, hG2⟩
theorem m_val_str (t : ByteArray) (w : World) : (method 250 122 (.string t) "trellis/value.val").run Tryd.prog w = .ok (103, .string t) w := by kernel_rfl
set_option maxHeartbeats 400000 in
theorem val_str (t : ByteArray) (w : World) : Calls Tryd.prog 103 #[.string t] w fun e w' => e = .returned (V 4 0 0 t) ∧ G w w' := by
  go_enter Tryd.func103, Tryd.ntmps103
  go_wp2
  exact bodyPost_ret (v := V 4 0 0 t) (by simp [results, Tryd.results103, go_sem]) rfl ⟨rfl, by repeat (first | exact G.refl _ | assumption | refine G.alloc ?_ _ | refine G.drew ?_ | refine G.setCell ?_ (by simp) _ | refine G.trans ?_ (by assumption))⟩
set_option maxRecDepth 100000 in
set_option maxHeartbeats 1000000 in
theorem it_str_yes (t : ByteArray) (k a b : Int) (s : ByteArray) (hq : (((4 : Int) == k) && ((0 : Int) == a) && ((0 : Int) == b) && (t.toList == s.toList)) = true) (hk : ∀ w, Tabs w → Calls Tryd.prog 58 #[V k a b s] w fun e w' => e = .returned (.iface 122 (.string t)) ∧ G w w') (w : World) (hT : Tabs w) :
    Calls Tryd.prog 57 #[V k a b s] w fun e w' => e = .returned (.tuple #[.iface 122 (.string t), .bool true]) ∧ G w w' := by
  have HK : Hid _ := hk
  have HV : Hid (∀ w, Calls Tryd.prog 103 #[.string t] w fun e w' => e = .returned (V 4 0 0 t) ∧ G w w') := val_str t
  have hm := m_val_str t
  have he : ∀ w, (binOp .neq 86 (V 4 0 0 t) (V k a b s)).run Tryd.prog w = .ok (.bool false) w := fun w => by rw [neqV, hq]; rfl
  clear hk hq
  go_enter Tryd.func57, Tryd.ntmps57
  go_wp2_with fail
  refine (HK.out _ (by exact hT.G ((G.refl w).alloc _))).mono ?_
  rintro e w1 ⟨rfl, hb1⟩
  have hc' := G.cells hb1 (b := w.heap.size) (f := fun o => [Value.int IntKind.i64 k, Value.int IntKind.i64 a, Value.int IntKind.i64 b, Value.string s][o]?) (by simp) (by simp)
  have hG : G w w1 := ((G.refl w).alloc _).trans hb1
  have hz : w.heap.size < w1.heap.size := by have := hb1.size; simp at this; omega
  clear hb1
  go_wp2
  go_region_held3 (fun W => (∀ (o : Nat), W.cell? { block := w.heap.size, off := o } = [Value.int IntKind.i64 k, Value.int IntKind.i64 a, Value.int IntKind.i64 b, Value.string s][o]?) ∧ G w W ∧ w.heap.size < W.heap.size) ((first | exact keepD ‹_› ‹_› ‹_› | exact keepG ‹_› ‹_› ‹_› ‹_› | exact keepG (keepD ‹_› ‹_› ‹_›).1 (keepD ‹_› ‹_› ‹_›).2.1 (keepD ‹_› ‹_› ‹_›).2.2 ‹_›)) (first | (go_at_call 103; refine (HV.out _).mono ?_; rintro e w2 ⟨rfl, hb2⟩) | fail)
  rename_i hH
  obtain ⟨-, hG2, -⟩ := hH
  go_wp2
  go_ret2
  exact ⟨rfl, hG2⟩
set_option maxRecDepth 100000 in
set_option maxHeartbeats 1000000 in
theorem it_str_no (t : ByteArray) (k a b : Int) (s : ByteArray) (hq : (((4 : Int) == k) && ((0 : Int) == a) && ((0 : Int) == b) && (t.toList == s.toList)) = false) (hk : ∀ w, Tabs w → Calls Tryd.prog 58 #[V k a b s] w fun e w' => e = .returned (.iface 122 (.string t)) ∧ G w w') (w : World) (hT : Tabs w) :
    Calls Tryd.prog 57 #[V k a b s] w fun e w' => e = .returned (.tuple #[.nilIface, .bool false]) ∧ G w w' := by
  have HK : Hid _ := hk
  have HV : Hid (∀ w, Calls Tryd.prog 103 #[.string t] w fun e w' => e = .returned (V 4 0 0 t) ∧ G w w') := val_str t
  have hm := m_val_str t
  have he : ∀ w, (binOp .neq 86 (V 4 0 0 t) (V k a b s)).run Tryd.prog w = .ok (.bool true) w := fun w => by rw [neqV, hq]; rfl
  clear hk hq
  go_enter Tryd.func57, Tryd.ntmps57
  go_wp2_with fail
  refine (HK.out _ (by exact hT.G ((G.refl w).alloc _))).mono ?_
  rintro e w1 ⟨rfl, hb1⟩
  have hc' := G.cells hb1 (b := w.heap.size) (f := fun o => [Value.int IntKind.i64 k, Value.int IntKind.i64 a, Value.int IntKind.i64 b, Value.string s][o]?) (by simp) (by simp)
  have hG : G w w1 := ((G.refl w).alloc _).trans hb1
  have hz : w.heap.size < w1.heap.size := by have := hb1.size; simp at this; omega
  clear hb1
  go_wp2
  go_region_held3 (fun W => (∀ (o : Nat), W.cell? { block := w.heap.size, off := o } = [Value.int IntKind.i64 k, Value.int IntKind.i64 a, Value.int IntKind.i64 b, Value.string s][o]?) ∧ G w W ∧ w.heap.size < W.heap.size) ((first | exact keepD ‹_› ‹_› ‹_› | exact keepG ‹_› ‹_› ‹_› ‹_› | exact keepG (keepD ‹_› ‹_› ‹_›).1 (keepD ‹_› ‹_› ‹_›).2.1 (keepD ‹_› ‹_› ‹_›).2.2 ‹_›)) (first | (go_at_call 103; refine (HV.out _).mono ?_; rintro e w2 ⟨rfl, hb2⟩) | fail)
  rename_i hH
  obtain ⟨-, hG2, -⟩ := hH
  go_wp2
  go_ret2
  exact ⟨rfl, hG2⟩
theorem m_val_node (n : Int) (w : World) : (method 250 123 (.int .i64 n) "trellis/value.val").run Tryd.prog w = .ok (108, .int .i64 n) w := by kernel_rfl
set_option maxHeartbeats 400000 in
theorem val_node (n : Int) (w : World) : Calls Tryd.prog 108 #[.int .i64 n] w fun e w' => e = .returned (V 5 n 0 E0) ∧ G w w' := by
  go_enter Tryd.func108, Tryd.ntmps108
  go_wp2
  exact bodyPost_ret (v := V 5 n 0 E0) (by simp [results, Tryd.results108, go_sem]) rfl ⟨rfl, by repeat (first | exact G.refl _ | assumption | refine G.alloc ?_ _ | refine G.drew ?_ | refine G.setCell ?_ (by simp) _ | refine G.trans ?_ (by assumption))⟩
set_option maxRecDepth 100000 in
set_option maxHeartbeats 1000000 in
theorem it_node_yes (n : Int) (k a b : Int) (s : ByteArray) (hq : (((5 : Int) == k) && ((n : Int) == a) && ((0 : Int) == b) && (E0.toList == s.toList)) = true) (hk : ∀ w, Tabs w → Calls Tryd.prog 58 #[V k a b s] w fun e w' => e = .returned (.iface 123 (.int .i64 n)) ∧ G w w') (w : World) (hT : Tabs w) :
    Calls Tryd.prog 57 #[V k a b s] w fun e w' => e = .returned (.tuple #[.iface 123 (.int .i64 n), .bool true]) ∧ G w w' := by
  have HK : Hid _ := hk
  have HV : Hid (∀ w, Calls Tryd.prog 108 #[.int .i64 n] w fun e w' => e = .returned (V 5 n 0 E0) ∧ G w w') := val_node n
  have hm := m_val_node n
  have he : ∀ w, (binOp .neq 86 (V 5 n 0 E0) (V k a b s)).run Tryd.prog w = .ok (.bool false) w := fun w => by rw [neqV, hq]; rfl
  clear hk hq
  go_enter Tryd.func57, Tryd.ntmps57
  go_wp2_with fail
  refine (HK.out _ (by exact hT.G ((G.refl w).alloc _))).mono ?_
  rintro e w1 ⟨rfl, hb1⟩
  have hc' := G.cells hb1 (b := w.heap.size) (f := fun o => [Value.int IntKind.i64 k, Value.int IntKind.i64 a, Value.int IntKind.i64 b, Value.string s][o]?) (by simp) (by simp)
  have hG : G w w1 := ((G.refl w).alloc _).trans hb1
  have hz : w.heap.size < w1.heap.size := by have := hb1.size; simp at this; omega
  clear hb1
  go_wp2
  go_region_held3 (fun W => (∀ (o : Nat), W.cell? { block := w.heap.size, off := o } = [Value.int IntKind.i64 k, Value.int IntKind.i64 a, Value.int IntKind.i64 b, Value.string s][o]?) ∧ G w W ∧ w.heap.size < W.heap.size) ((first | exact keepD ‹_› ‹_› ‹_› | exact keepG ‹_› ‹_› ‹_› ‹_› | exact keepG (keepD ‹_› ‹_› ‹_›).1 (keepD ‹_› ‹_› ‹_›).2.1 (keepD ‹_› ‹_› ‹_›).2.2 ‹_›)) (first | (go_at_call 108; refine (HV.out _).mono ?_; rintro e w2 ⟨rfl, hb2⟩) | fail)
  rename_i hH
  obtain ⟨-, hG2, -⟩ := hH
  go_wp2
  go_ret2
  exact ⟨rfl, hG2⟩
set_option maxRecDepth 100000 in
set_option maxHeartbeats 1000000 in
theorem it_node_no (n : Int) (k a b : Int) (s : ByteArray) (hq : (((5 : Int) == k) && ((n : Int) == a) && ((0 : Int) == b) && (E0.toList == s.toList)) = false) (hk : ∀ w, Tabs w → Calls Tryd.prog 58 #[V k a b s] w fun e w' => e = .returned (.iface 123 (.int .i64 n)) ∧ G w w') (w : World) (hT : Tabs w) :
    Calls Tryd.prog 57 #[V k a b s] w fun e w' => e = .returned (.tuple #[.nilIface, .bool false]) ∧ G w w' := by
  have HK : Hid _ := hk
  have HV : Hid (∀ w, Calls Tryd.prog 108 #[.int .i64 n] w fun e w' => e = .returned (V 5 n 0 E0) ∧ G w w') := val_node n
  have hm := m_val_node n
  have he : ∀ w, (binOp .neq 86 (V 5 n 0 E0) (V k a b s)).run Tryd.prog w = .ok (.bool true) w := fun w => by rw [neqV, hq]; rfl
  clear hk hq
  go_enter Tryd.func57, Tryd.ntmps57
  go_wp2_with fail
  refine (HK.out _ (by exact hT.G ((G.refl w).alloc _))).mono ?_
  rintro e w1 ⟨rfl, hb1⟩
  have hc' := G.cells hb1 (b := w.heap.size) (f := fun o => [Value.int IntKind.i64 k, Value.int IntKind.i64 a, Value.int IntKind.i64 b, Value.string s][o]?) (by simp) (by simp)
  have hG : G w w1 := ((G.refl w).alloc _).trans hb1
  have hz : w.heap.size < w1.heap.size := by have := hb1.size; simp at this; omega
  clear hb1
  go_wp2
  go_region_held3 (fun W => (∀ (o : Nat), W.cell? { block := w.heap.size, off := o } = [Value.int IntKind.i64 k, Value.int IntKind.i64 a, Value.int IntKind.i64 b, Value.string s][o]?) ∧ G w W ∧ w.heap.size < W.heap.size) ((first | exact keepD ‹_› ‹_› ‹_› | exact keepG ‹_› ‹_› ‹_› ‹_› | exact keepG (keepD ‹_› ‹_› ‹_›).1 (keepD ‹_› ‹_› ‹_›).2.1 (keepD ‹_› ‹_› ‹_›).2.2 ‹_›)) (first | (go_at_call 108; refine (HV.out _).mono ?_; rintro e w2 ⟨rfl, hb2⟩) | fail)
  rename_i hH
  obtain ⟨-, hG2, -⟩ := hH
  go_wp2
  go_ret2
  exact ⟨rfl, hG2⟩
theorem m_val_edge (n : Int) (w : World) : (method 250 124 (.int .i64 n) "trellis/value.val").run Tryd.prog w = .ok (113, .int .i64 n) w := by kernel_rfl
set_option maxHeartbeats 400000 in
theorem val_edge (n : Int) (w : World) : Calls Tryd.prog 113 #[.int .i64 n] w fun e w' => e = .returned (V 6 n 0 E0) ∧ G w w' := by
  go_enter Tryd.func113, Tryd.ntmps113
  go_wp2
  exact bodyPost_ret (v := V 6 n 0 E0) (by simp [results, Tryd.results113, go_sem]) rfl ⟨rfl, by repeat (first | exact G.refl _ | assumption | refine G.alloc ?_ _ | refine G.drew ?_ | refine G.setCell ?_ (by simp) _ | refine G.trans ?_ (by assumption))⟩
set_option maxRecDepth 100000 in
set_option maxHeartbeats 1000000 in
theorem it_edge_yes (n : Int) (k a b : Int) (s : ByteArray) (hq : (((6 : Int) == k) && ((n : Int) == a) && ((0 : Int) == b) && (E0.toList == s.toList)) = true) (hk : ∀ w, Tabs w → Calls Tryd.prog 58 #[V k a b s] w fun e w' => e = .returned (.iface 124 (.int .i64 n)) ∧ G w w') (w : World) (hT : Tabs w) :
    Calls Tryd.prog 57 #[V k a b s] w fun e w' => e = .returned (.tuple #[.iface 124 (.int .i64 n), .bool true]) ∧ G w w' := by
  have HK : Hid _ := hk
  have HV : Hid (∀ w, Calls Tryd.prog 113 #[.int .i64 n] w fun e w' => e = .returned (V 6 n 0 E0) ∧ G w w') := val_edge n
  have hm := m_val_edge n
  have he : ∀ w, (binOp .neq 86 (V 6 n 0 E0) (V k a b s)).run Tryd.prog w = .ok (.bool false) w := fun w => by rw [neqV, hq]; rfl
  clear hk hq
  go_enter Tryd.func57, Tryd.ntmps57
  go_wp2_with fail
  refine (HK.out _ (by exact hT.G ((G.refl w).alloc _))).mono ?_
  rintro e w1 ⟨rfl, hb1⟩
  have hc' := G.cells hb1 (b := w.heap.size) (f := fun o => [Value.int IntKind.i64 k, Value.int IntKind.i64 a, Value.int IntKind.i64 b, Value.string s][o]?) (by simp) (by simp)
  have hG : G w w1 := ((G.refl w).alloc _).trans hb1
  have hz : w.heap.size < w1.heap.size := by have := hb1.size; simp at this; omega
  clear hb1
  go_wp2
  go_region_held3 (fun W => (∀ (o : Nat), W.cell? { block := w.heap.size, off := o } = [Value.int IntKind.i64 k, Value.int IntKind.i64 a, Value.int IntKind.i64 b, Value.string s][o]?) ∧ G w W ∧ w.heap.size < W.heap.size) ((first | exact keepD ‹_› ‹_› ‹_› | exact keepG ‹_› ‹_› ‹_› ‹_› | exact keepG (keepD ‹_› ‹_› ‹_›).1 (keepD ‹_› ‹_› ‹_›).2.1 (keepD ‹_› ‹_› ‹_›).2.2 ‹_›)) (first | (go_at_call 113; refine (HV.out _).mono ?_; rintro e w2 ⟨rfl, hb2⟩) | fail)
  rename_i hH
  obtain ⟨-, hG2, -⟩ := hH
  go_wp2
  go_ret2
  exact ⟨rfl, hG2⟩
set_option maxRecDepth 100000 in
set_option maxHeartbeats 1000000 in
theorem it_edge_no (n : Int) (k a b : Int) (s : ByteArray) (hq : (((6 : Int) == k) && ((n : Int) == a) && ((0 : Int) == b) && (E0.toList == s.toList)) = false) (hk : ∀ w, Tabs w → Calls Tryd.prog 58 #[V k a b s] w fun e w' => e = .returned (.iface 124 (.int .i64 n)) ∧ G w w') (w : World) (hT : Tabs w) :
    Calls Tryd.prog 57 #[V k a b s] w fun e w' => e = .returned (.tuple #[.nilIface, .bool false]) ∧ G w w' := by
  have HK : Hid _ := hk
  have HV : Hid (∀ w, Calls Tryd.prog 113 #[.int .i64 n] w fun e w' => e = .returned (V 6 n 0 E0) ∧ G w w') := val_edge n
  have hm := m_val_edge n
  have he : ∀ w, (binOp .neq 86 (V 6 n 0 E0) (V k a b s)).run Tryd.prog w = .ok (.bool true) w := fun w => by rw [neqV, hq]; rfl
  clear hk hq
  go_enter Tryd.func57, Tryd.ntmps57
  go_wp2_with fail
  refine (HK.out _ (by exact hT.G ((G.refl w).alloc _))).mono ?_
  rintro e w1 ⟨rfl, hb1⟩
  have hc' := G.cells hb1 (b := w.heap.size) (f := fun o => [Value.int IntKind.i64 k, Value.int IntKind.i64 a, Value.int IntKind.i64 b, Value.string s][o]?) (by simp) (by simp)
  have hG : G w w1 := ((G.refl w).alloc _).trans hb1
  have hz : w.heap.size < w1.heap.size := by have := hb1.size; simp at this; omega
  clear hb1
  go_wp2
  go_region_held3 (fun W => (∀ (o : Nat), W.cell? { block := w.heap.size, off := o } = [Value.int IntKind.i64 k, Value.int IntKind.i64 a, Value.int IntKind.i64 b, Value.string s][o]?) ∧ G w W ∧ w.heap.size < W.heap.size) ((first | exact keepD ‹_› ‹_› ‹_› | exact keepG ‹_› ‹_› ‹_› ‹_› | exact keepG (keepD ‹_› ‹_› ‹_›).1 (keepD ‹_› ‹_› ‹_›).2.1 (keepD ‹_› ‹_› ‹_›).2.2 ‹_›)) (first | (go_at_call 113; refine (HV.out _).mono ?_; rintro e w2 ⟨rfl, hb2⟩) | fail)
  rename_i hH
  obtain ⟨-, hG2, -⟩ := hH
  go_wp2
  go_ret2
  exact ⟨rfl, hG2⟩
end Go.Proofs.YtcdjjmjhdoanlaaDoor
