/- Unary of the program: out of an item's own unary. -/
import Derived.Test.YtnoajhegcjoebabGreatDoorValidSame
import Derived.Test.YtnoajhegcjoebabGreatDoorWholeNo
namespace Go.Proofs.YtnoajhegcjoebabGreatDoor
open Go.RowKit Go.Lib Go.Shelf

set_option maxRecDepth 100000 in
set_option maxHeartbeats 400000 in
theorem Unary_arg (op k a b : Int) (s : ByteArray) (ho : op < 1 ∨ 8 < op) (w : World) :
    Calls Tryz.prog 12 #[.int .i64 op, V k a b s] w fun e w' => e = .returned (.tuple #[V0, .int .i64 1]) ∧ G w w' := by
  by_cases h : op < 1
  · clear ho
    go_enter Tryz.func12, Tryz.ntmps12
    go_wp2
    exact bodyPost_ret (v := .tuple #[V0, .int .i64 1]) (by simp [results, Tryz.results12, go_sem]) rfl ⟨rfl, by repeat (first | exact G.refl _ | refine G.alloc ?_ _ | refine G.setCell ?_ (by simp) _)⟩
  · have h' : 8 < op := by omega
    clear ho
    go_enter Tryz.func12, Tryz.ntmps12
    go_wp2
    exact bodyPost_ret (v := .tuple #[V0, .int .i64 1]) (by simp [results, Tryz.results12, go_sem]) rfl ⟨rfl, by repeat (first | exact G.refl _ | refine G.alloc ?_ _ | refine G.setCell ?_ (by simp) _)⟩
set_option maxRecDepth 100000 in
set_option maxHeartbeats 400000 in
theorem Unary_bad (op k a b : Int) (s : ByteArray) (ho : 1 ≤ op) (ho' : op ≤ 8) (hok : okV k a b s = false) (w : World) (hT : Tabs w) :
    Calls Tryz.prog 12 #[.int .i64 op, V k a b s] w fun e w' => e = .returned (.tuple #[V0, .int .i64 16]) ∧ G w w' := by
  have HI : Hid (∀ w, Tabs w → Calls Tryz.prog 32 #[V k a b s] w fun e w' => e = .returned (.tuple #[itemV k a b s, .bool false]) ∧ G w w') := by
    have := itemOf_any k a b s
    unfold ItemOf at this
    rw [hok] at this
    exact this
  clear hok
  generalize itemV k a b s = x at HI
  go_enter Tryz.func12, Tryz.ntmps12
  go_wp2_with fail
  refine (HI.out _ (hT.G (((G.refl w).alloc _).alloc _))).mono ?_
  rintro e w1 ⟨rfl, hb1⟩
  obtain ⟨hc1, hf1⟩ := hb1.rules
  go_wp2
  exact bodyPost_ret (v := .tuple #[V0, .int .i64 16]) (by simp [results, Tryz.results12, go_sem, hc1]) rfl ⟨rfl, by
    have g4 : G w w1 := (((G.refl w).alloc _).alloc _).trans hb1
    repeat (first | exact g4 | refine G.alloc ?_ _ | refine G.setCell ?_ (by first | (simp; done) | (simp; omega)) _)⟩
theorem mu_null  (w : World) : (method 342 100 (.agg #[]) "trellis/value.unary").run Tryz.prog w = .ok (234, .agg #[]) w := by kernel_rfl
theorem mu_truth (q : Bool) (w : World) : (method 342 101 (.bool q) "trellis/value.unary").run Tryz.prog w = .ok (239, .bool q) w := by kernel_rfl
theorem mu_whole (n : Int) (w : World) : (method 342 126 (.int .i64 n) "trellis/value.unary").run Tryz.prog w = .ok (246, .int .i64 n) w := by kernel_rfl
theorem mu_cpx (x y : Nat) (w : World) : (method 342 127 (.complex .f64 x y) "trellis/value.unary").run Tryz.prog w = .ok (254, .complex .f64 x y) w := by kernel_rfl
theorem mu_str (s : ByteArray) (w : World) : (method 342 128 (.string s) "trellis/value.unary").run Tryz.prog w = .ok (259, .string s) w := by kernel_rfl
theorem mu_node (n : Int) (w : World) : (method 342 129 (.int .i64 n) "trellis/value.unary").run Tryz.prog w = .ok (267, .int .i64 n) w := by kernel_rfl
theorem mu_edge (n : Int) (w : World) : (method 342 130 (.int .i64 n) "trellis/value.unary").run Tryz.prog w = .ok (272, .int .i64 n) w := by kernel_rfl
set_option maxRecDepth 100000 in
set_option maxHeartbeats 1000000 in
theorem UG_null (op k a b : Int) (s : ByteArray) (ho : 1 ≤ op) (ho' : op ≤ 8) (hok : okV k a b s = true)  (r : Value) (c c3 k3 a3 b3 : Int) (s3 : ByteArray)
    (hx : itemV k a b s = .iface 100 (.agg #[]))
    (h3 : ∀ w, Calls Tryz.prog 234 #[.agg #[], .int .i64 op] w fun e w' => e = .returned (.tuple #[r, .int .i64 c]) ∧ G w w')
    (h4 : ∀ w, Calls Tryz.prog 33 #[r, .int .i64 c] w fun e w' => e = .returned (.tuple #[V k3 a3 b3 s3, .int .i64 c3]) ∧ G w w') (w : World) (hT : Tabs w) :
    Calls Tryz.prog 12 #[.int .i64 op, V k a b s] w fun e w' => e = .returned (.tuple #[V k3 a3 b3 s3, .int .i64 c3]) ∧ G w w' := by
  have H3 : Hid _ := h3; have H4 : Hid _ := h4
  have HI : Hid (∀ w, Tabs w → Calls Tryz.prog 32 #[V k a b s] w fun e w' => e = .returned (.tuple #[.iface 100 (.agg #[]), .bool true]) ∧ G w w') := by
    have := itemOf_any k a b s
    unfold ItemOf at this
    rw [hok, hx] at this
    exact this
  have hm := mu_null
  clear h3 h4 hx hok
  go_enter Tryz.func12, Tryz.ntmps12
  go_wp2_with fail
  refine (HI.out _ (hT.G (((G.refl w).alloc _).alloc _))).mono ?_
  rintro e w1 ⟨rfl, hb1⟩
  obtain ⟨hc1, hf1⟩ := hb1.rules
  have hz1 : w.heap.size + 1 < w1.heap.size := by have := hb1.size; simp at this; omega
  go_wp2_with fail
  refine (H3.out _).mono ?_
  rintro e w3 ⟨rfl, hb3⟩
  obtain ⟨hc3, hf3⟩ := hb3.rules
  have hz3 : w.heap.size + 1 < w3.heap.size := by have := hb3.size; omega
  go_wp2_with fail
  refine (H4.out _).mono ?_
  rintro e w4 ⟨rfl, hb4⟩
  obtain ⟨hc4, hf4⟩ := hb4.rules
  go_wp2
  exact bodyPost_ret (v := .tuple #[V k3 a3 b3 s3, .int .i64 c3]) (by simp [results, Tryz.results12, go_sem, hc4, hc3, hc1, hz1, hz3]) rfl ⟨rfl, by
    have g4 : G w w4 := ((((G.refl w).alloc _).alloc _).trans hb1).trans (hb3.trans hb4)
    repeat (first | exact g4 | refine G.setCell ?_ (by first | (simp; done) | (simp; omega)) _)⟩
set_option maxRecDepth 100000 in
set_option maxHeartbeats 1000000 in
theorem UG_truth (op k a b : Int) (s : ByteArray) (ho : 1 ≤ op) (ho' : op ≤ 8) (hok : okV k a b s = true) (q : Bool) (r : Value) (c c3 k3 a3 b3 : Int) (s3 : ByteArray)
    (hx : itemV k a b s = .iface 101 (.bool q))
    (h3 : ∀ w, Calls Tryz.prog 239 #[.bool q, .int .i64 op] w fun e w' => e = .returned (.tuple #[r, .int .i64 c]) ∧ G w w')
    (h4 : ∀ w, Calls Tryz.prog 33 #[r, .int .i64 c] w fun e w' => e = .returned (.tuple #[V k3 a3 b3 s3, .int .i64 c3]) ∧ G w w') (w : World) (hT : Tabs w) :
    Calls Tryz.prog 12 #[.int .i64 op, V k a b s] w fun e w' => e = .returned (.tuple #[V k3 a3 b3 s3, .int .i64 c3]) ∧ G w w' := by
  have H3 : Hid _ := h3; have H4 : Hid _ := h4
  have HI : Hid (∀ w, Tabs w → Calls Tryz.prog 32 #[V k a b s] w fun e w' => e = .returned (.tuple #[.iface 101 (.bool q), .bool true]) ∧ G w w') := by
    have := itemOf_any k a b s
    unfold ItemOf at this
    rw [hok, hx] at this
    exact this
  have hm := mu_truth
  clear h3 h4 hx hok
  go_enter Tryz.func12, Tryz.ntmps12
  go_wp2_with fail
  refine (HI.out _ (hT.G (((G.refl w).alloc _).alloc _))).mono ?_
  rintro e w1 ⟨rfl, hb1⟩
  obtain ⟨hc1, hf1⟩ := hb1.rules
  have hz1 : w.heap.size + 1 < w1.heap.size := by have := hb1.size; simp at this; omega
  go_wp2_with fail
  refine (H3.out _).mono ?_
  rintro e w3 ⟨rfl, hb3⟩
  obtain ⟨hc3, hf3⟩ := hb3.rules
  have hz3 : w.heap.size + 1 < w3.heap.size := by have := hb3.size; omega
  go_wp2_with fail
  refine (H4.out _).mono ?_
  rintro e w4 ⟨rfl, hb4⟩
  obtain ⟨hc4, hf4⟩ := hb4.rules
  go_wp2
  exact bodyPost_ret (v := .tuple #[V k3 a3 b3 s3, .int .i64 c3]) (by simp [results, Tryz.results12, go_sem, hc4, hc3, hc1, hz1, hz3]) rfl ⟨rfl, by
    have g4 : G w w4 := ((((G.refl w).alloc _).alloc _).trans hb1).trans (hb3.trans hb4)
    repeat (first | exact g4 | refine G.setCell ?_ (by first | (simp; done) | (simp; omega)) _)⟩
set_option maxRecDepth 100000 in
set_option maxHeartbeats 1000000 in
theorem UG_whole (op k a b : Int) (s : ByteArray) (ho : 1 ≤ op) (ho' : op ≤ 8) (hok : okV k a b s = true) (n4 : Int) (r : Value) (c c3 k3 a3 b3 : Int) (s3 : ByteArray)
    (hx : itemV k a b s = .iface 126 (.int .i64 n4))
    (h3 : ∀ w, Calls Tryz.prog 246 #[.int .i64 n4, .int .i64 op] w fun e w' => e = .returned (.tuple #[r, .int .i64 c]) ∧ G w w')
    (h4 : ∀ w, Calls Tryz.prog 33 #[r, .int .i64 c] w fun e w' => e = .returned (.tuple #[V k3 a3 b3 s3, .int .i64 c3]) ∧ G w w') (w : World) (hT : Tabs w) :
    Calls Tryz.prog 12 #[.int .i64 op, V k a b s] w fun e w' => e = .returned (.tuple #[V k3 a3 b3 s3, .int .i64 c3]) ∧ G w w' := by
  have H3 : Hid _ := h3; have H4 : Hid _ := h4
  have HI : Hid (∀ w, Tabs w → Calls Tryz.prog 32 #[V k a b s] w fun e w' => e = .returned (.tuple #[.iface 126 (.int .i64 n4), .bool true]) ∧ G w w') := by
    have := itemOf_any k a b s
    unfold ItemOf at this
    rw [hok, hx] at this
    exact this
  have hm := mu_whole
  clear h3 h4 hx hok
  go_enter Tryz.func12, Tryz.ntmps12
  go_wp2_with fail
  refine (HI.out _ (hT.G (((G.refl w).alloc _).alloc _))).mono ?_
  rintro e w1 ⟨rfl, hb1⟩
  obtain ⟨hc1, hf1⟩ := hb1.rules
  have hz1 : w.heap.size + 1 < w1.heap.size := by have := hb1.size; simp at this; omega
  go_wp2_with fail
  refine (H3.out _).mono ?_
  rintro e w3 ⟨rfl, hb3⟩
  obtain ⟨hc3, hf3⟩ := hb3.rules
  have hz3 : w.heap.size + 1 < w3.heap.size := by have := hb3.size; omega
  go_wp2_with fail
  refine (H4.out _).mono ?_
  rintro e w4 ⟨rfl, hb4⟩
  obtain ⟨hc4, hf4⟩ := hb4.rules
  go_wp2
  exact bodyPost_ret (v := .tuple #[V k3 a3 b3 s3, .int .i64 c3]) (by simp [results, Tryz.results12, go_sem, hc4, hc3, hc1, hz1, hz3]) rfl ⟨rfl, by
    have g4 : G w w4 := ((((G.refl w).alloc _).alloc _).trans hb1).trans (hb3.trans hb4)
    repeat (first | exact g4 | refine G.setCell ?_ (by first | (simp; done) | (simp; omega)) _)⟩
set_option maxRecDepth 100000 in
set_option maxHeartbeats 1000000 in
theorem UG_cpx (op k a b : Int) (s : ByteArray) (ho : 1 ≤ op) (ho' : op ≤ 8) (hok : okV k a b s = true) (x y : Nat) (r : Value) (c c3 k3 a3 b3 : Int) (s3 : ByteArray)
    (hx : itemV k a b s = .iface 127 (.complex .f64 x y))
    (h3 : ∀ w, Calls Tryz.prog 254 #[.complex .f64 x y, .int .i64 op] w fun e w' => e = .returned (.tuple #[r, .int .i64 c]) ∧ G w w')
    (h4 : ∀ w, Calls Tryz.prog 33 #[r, .int .i64 c] w fun e w' => e = .returned (.tuple #[V k3 a3 b3 s3, .int .i64 c3]) ∧ G w w') (w : World) (hT : Tabs w) :
    Calls Tryz.prog 12 #[.int .i64 op, V k a b s] w fun e w' => e = .returned (.tuple #[V k3 a3 b3 s3, .int .i64 c3]) ∧ G w w' := by
  have H3 : Hid _ := h3; have H4 : Hid _ := h4
  have HI : Hid (∀ w, Tabs w → Calls Tryz.prog 32 #[V k a b s] w fun e w' => e = .returned (.tuple #[.iface 127 (.complex .f64 x y), .bool true]) ∧ G w w') := by
    have := itemOf_any k a b s
    unfold ItemOf at this
    rw [hok, hx] at this
    exact this
  have hm := mu_cpx
  clear h3 h4 hx hok
  go_enter Tryz.func12, Tryz.ntmps12
  go_wp2_with fail
  refine (HI.out _ (hT.G (((G.refl w).alloc _).alloc _))).mono ?_
  rintro e w1 ⟨rfl, hb1⟩
  obtain ⟨hc1, hf1⟩ := hb1.rules
  have hz1 : w.heap.size + 1 < w1.heap.size := by have := hb1.size; simp at this; omega
  go_wp2_with fail
  refine (H3.out _).mono ?_
  rintro e w3 ⟨rfl, hb3⟩
  obtain ⟨hc3, hf3⟩ := hb3.rules
  have hz3 : w.heap.size + 1 < w3.heap.size := by have := hb3.size; omega
  go_wp2_with fail
  refine (H4.out _).mono ?_
  rintro e w4 ⟨rfl, hb4⟩
  obtain ⟨hc4, hf4⟩ := hb4.rules
  go_wp2
  exact bodyPost_ret (v := .tuple #[V k3 a3 b3 s3, .int .i64 c3]) (by simp [results, Tryz.results12, go_sem, hc4, hc3, hc1, hz1, hz3]) rfl ⟨rfl, by
    have g4 : G w w4 := ((((G.refl w).alloc _).alloc _).trans hb1).trans (hb3.trans hb4)
    repeat (first | exact g4 | refine G.setCell ?_ (by first | (simp; done) | (simp; omega)) _)⟩
set_option maxRecDepth 100000 in
set_option maxHeartbeats 1000000 in
theorem UG_str (op k a b : Int) (s : ByteArray) (ho : 1 ≤ op) (ho' : op ≤ 8) (hok : okV k a b s = true) (s4 : ByteArray) (r : Value) (c c3 k3 a3 b3 : Int) (s3 : ByteArray)
    (hx : itemV k a b s = .iface 128 (.string s4))
    (h3 : ∀ w, Calls Tryz.prog 259 #[.string s4, .int .i64 op] w fun e w' => e = .returned (.tuple #[r, .int .i64 c]) ∧ G w w')
    (h4 : ∀ w, Calls Tryz.prog 33 #[r, .int .i64 c] w fun e w' => e = .returned (.tuple #[V k3 a3 b3 s3, .int .i64 c3]) ∧ G w w') (w : World) (hT : Tabs w) :
    Calls Tryz.prog 12 #[.int .i64 op, V k a b s] w fun e w' => e = .returned (.tuple #[V k3 a3 b3 s3, .int .i64 c3]) ∧ G w w' := by
  have H3 : Hid _ := h3; have H4 : Hid _ := h4
  have HI : Hid (∀ w, Tabs w → Calls Tryz.prog 32 #[V k a b s] w fun e w' => e = .returned (.tuple #[.iface 128 (.string s4), .bool true]) ∧ G w w') := by
    have := itemOf_any k a b s
    unfold ItemOf at this
    rw [hok, hx] at this
    exact this
  have hm := mu_str
  clear h3 h4 hx hok
  go_enter Tryz.func12, Tryz.ntmps12
  go_wp2_with fail
  refine (HI.out _ (hT.G (((G.refl w).alloc _).alloc _))).mono ?_
  rintro e w1 ⟨rfl, hb1⟩
  obtain ⟨hc1, hf1⟩ := hb1.rules
  have hz1 : w.heap.size + 1 < w1.heap.size := by have := hb1.size; simp at this; omega
  go_wp2_with fail
  refine (H3.out _).mono ?_
  rintro e w3 ⟨rfl, hb3⟩
  obtain ⟨hc3, hf3⟩ := hb3.rules
  have hz3 : w.heap.size + 1 < w3.heap.size := by have := hb3.size; omega
  go_wp2_with fail
  refine (H4.out _).mono ?_
  rintro e w4 ⟨rfl, hb4⟩
  obtain ⟨hc4, hf4⟩ := hb4.rules
  go_wp2
  exact bodyPost_ret (v := .tuple #[V k3 a3 b3 s3, .int .i64 c3]) (by simp [results, Tryz.results12, go_sem, hc4, hc3, hc1, hz1, hz3]) rfl ⟨rfl, by
    have g4 : G w w4 := ((((G.refl w).alloc _).alloc _).trans hb1).trans (hb3.trans hb4)
    repeat (first | exact g4 | refine G.setCell ?_ (by first | (simp; done) | (simp; omega)) _)⟩
set_option maxRecDepth 100000 in
set_option maxHeartbeats 1000000 in
theorem UG_node (op k a b : Int) (s : ByteArray) (ho : 1 ≤ op) (ho' : op ≤ 8) (hok : okV k a b s = true) (n4 : Int) (r : Value) (c c3 k3 a3 b3 : Int) (s3 : ByteArray)
    (hx : itemV k a b s = .iface 129 (.int .i64 n4))
    (h3 : ∀ w, Calls Tryz.prog 267 #[.int .i64 n4, .int .i64 op] w fun e w' => e = .returned (.tuple #[r, .int .i64 c]) ∧ G w w')
    (h4 : ∀ w, Calls Tryz.prog 33 #[r, .int .i64 c] w fun e w' => e = .returned (.tuple #[V k3 a3 b3 s3, .int .i64 c3]) ∧ G w w') (w : World) (hT : Tabs w) :
    Calls Tryz.prog 12 #[.int .i64 op, V k a b s] w fun e w' => e = .returned (.tuple #[V k3 a3 b3 s3, .int .i64 c3]) ∧ G w w' := by
  have H3 : Hid _ := h3; have H4 : Hid _ := h4
  have HI : Hid (∀ w, Tabs w → Calls Tryz.prog 32 #[V k a b s] w fun e w' => e = .returned (.tuple #[.iface 129 (.int .i64 n4), .bool true]) ∧ G w w') := by
    have := itemOf_any k a b s
    unfold ItemOf at this
    rw [hok, hx] at this
    exact this
  have hm := mu_node
  clear h3 h4 hx hok
  go_enter Tryz.func12, Tryz.ntmps12
  go_wp2_with fail
  refine (HI.out _ (hT.G (((G.refl w).alloc _).alloc _))).mono ?_
  rintro e w1 ⟨rfl, hb1⟩
  obtain ⟨hc1, hf1⟩ := hb1.rules
  have hz1 : w.heap.size + 1 < w1.heap.size := by have := hb1.size; simp at this; omega
  go_wp2_with fail
  refine (H3.out _).mono ?_
  rintro e w3 ⟨rfl, hb3⟩
  obtain ⟨hc3, hf3⟩ := hb3.rules
  have hz3 : w.heap.size + 1 < w3.heap.size := by have := hb3.size; omega
  go_wp2_with fail
  refine (H4.out _).mono ?_
  rintro e w4 ⟨rfl, hb4⟩
  obtain ⟨hc4, hf4⟩ := hb4.rules
  go_wp2
  exact bodyPost_ret (v := .tuple #[V k3 a3 b3 s3, .int .i64 c3]) (by simp [results, Tryz.results12, go_sem, hc4, hc3, hc1, hz1, hz3]) rfl ⟨rfl, by
    have g4 : G w w4 := ((((G.refl w).alloc _).alloc _).trans hb1).trans (hb3.trans hb4)
    repeat (first | exact g4 | refine G.setCell ?_ (by first | (simp; done) | (simp; omega)) _)⟩
set_option maxRecDepth 100000 in
set_option maxHeartbeats 1000000 in
theorem UG_edge (op k a b : Int) (s : ByteArray) (ho : 1 ≤ op) (ho' : op ≤ 8) (hok : okV k a b s = true) (n4 : Int) (r : Value) (c c3 k3 a3 b3 : Int) (s3 : ByteArray)
    (hx : itemV k a b s = .iface 130 (.int .i64 n4))
    (h3 : ∀ w, Calls Tryz.prog 272 #[.int .i64 n4, .int .i64 op] w fun e w' => e = .returned (.tuple #[r, .int .i64 c]) ∧ G w w')
    (h4 : ∀ w, Calls Tryz.prog 33 #[r, .int .i64 c] w fun e w' => e = .returned (.tuple #[V k3 a3 b3 s3, .int .i64 c3]) ∧ G w w') (w : World) (hT : Tabs w) :
    Calls Tryz.prog 12 #[.int .i64 op, V k a b s] w fun e w' => e = .returned (.tuple #[V k3 a3 b3 s3, .int .i64 c3]) ∧ G w w' := by
  have H3 : Hid _ := h3; have H4 : Hid _ := h4
  have HI : Hid (∀ w, Tabs w → Calls Tryz.prog 32 #[V k a b s] w fun e w' => e = .returned (.tuple #[.iface 130 (.int .i64 n4), .bool true]) ∧ G w w') := by
    have := itemOf_any k a b s
    unfold ItemOf at this
    rw [hok, hx] at this
    exact this
  have hm := mu_edge
  clear h3 h4 hx hok
  go_enter Tryz.func12, Tryz.ntmps12
  go_wp2_with fail
  refine (HI.out _ (hT.G (((G.refl w).alloc _).alloc _))).mono ?_
  rintro e w1 ⟨rfl, hb1⟩
  obtain ⟨hc1, hf1⟩ := hb1.rules
  have hz1 : w.heap.size + 1 < w1.heap.size := by have := hb1.size; simp at this; omega
  go_wp2_with fail
  refine (H3.out _).mono ?_
  rintro e w3 ⟨rfl, hb3⟩
  obtain ⟨hc3, hf3⟩ := hb3.rules
  have hz3 : w.heap.size + 1 < w3.heap.size := by have := hb3.size; omega
  go_wp2_with fail
  refine (H4.out _).mono ?_
  rintro e w4 ⟨rfl, hb4⟩
  obtain ⟨hc4, hf4⟩ := hb4.rules
  go_wp2
  exact bodyPost_ret (v := .tuple #[V k3 a3 b3 s3, .int .i64 c3]) (by simp [results, Tryz.results12, go_sem, hc4, hc3, hc1, hz1, hz3]) rfl ⟨rfl, by
    have g4 : G w w4 := ((((G.refl w).alloc _).alloc _).trans hb1).trans (hb3.trans hb4)
    repeat (first | exact g4 | refine G.setCell ?_ (by first | (simp; done) | (simp; omega)) _)⟩
set_option maxRecDepth 100000 in
set_option maxHeartbeats 400000 in
theorem un_null (op : Int) (w : World) : Calls Tryz.prog 234 #[.agg #[], .int .i64 op] w fun e w' => e = .returned (.tuple #[.iface 100 (.agg #[]), .int .i64 0]) ∧ G w w' := by
  go_enter Tryz.func234, Tryz.ntmps234
  go_wp2
  go_ret2
  exact ⟨rfl, by repeat (first | exact G.refl _ | refine G.alloc ?_ _ | refine G.setCell ?_ (by simp) _)⟩
set_option maxRecDepth 100000 in
set_option maxHeartbeats 400000 in
theorem un_truth (q : Bool) (w : World) : Calls Tryz.prog 239 #[.bool q, .int .i64 2] w fun e w' => e = .returned (.tuple #[.iface 101 (.bool (!q)), .int .i64 0]) ∧ G w w' := by
  go_enter Tryz.func239, Tryz.ntmps239
  go_wp2
  go_ret2
  exact ⟨rfl, by repeat (first | exact G.refl _ | refine G.alloc ?_ _ | refine G.setCell ?_ (by simp) _)⟩
set_option maxRecDepth 100000 in
set_option maxHeartbeats 400000 in
theorem un_truth_no (q : Bool) (op : Int) (h : (op == 2) = false) (w : World) : Calls Tryz.prog 239 #[.bool q, .int .i64 op] w fun e w' => e = .returned (.tuple #[.nilIface, .int .i64 10]) ∧ G w w' := by
  go_enter Tryz.func239, Tryz.ntmps239
  go_wp2
  go_ret2
  exact ⟨rfl, by repeat (first | exact G.refl _ | refine G.alloc ?_ _ | refine G.setCell ?_ (by simp) _)⟩
set_option maxRecDepth 100000 in
set_option maxHeartbeats 400000 in
theorem un_node (n op : Int) (w : World) : Calls Tryz.prog 267 #[.int .i64 n, .int .i64 op] w fun e w' => e = .returned (.tuple #[.nilIface, .int .i64 10]) ∧ G w w' := by
  go_enter Tryz.func267, Tryz.ntmps267
  go_wp2
  go_ret2
  exact ⟨rfl, by repeat (first | exact G.refl _ | refine G.alloc ?_ _ | refine G.setCell ?_ (by simp) _)⟩
set_option maxRecDepth 100000 in
set_option maxHeartbeats 400000 in
theorem un_edge (n op : Int) (w : World) : Calls Tryz.prog 272 #[.int .i64 n, .int .i64 op] w fun e w' => e = .returned (.tuple #[.nilIface, .int .i64 10]) ∧ G w w' := by
  go_enter Tryz.func272, Tryz.ntmps272
  go_wp2
  go_ret2
  exact ⟨rfl, by repeat (first | exact G.refl _ | refine G.alloc ?_ _ | refine G.setCell ?_ (by simp) _)⟩
set_option maxRecDepth 100000 in
set_option maxHeartbeats 400000 in
theorem un_str_no (s : ByteArray) (op : Int) (h : (op == 7) = false) (w : World) : Calls Tryz.prog 259 #[.string s, .int .i64 op] w fun e w' => e = .returned (.tuple #[.nilIface, .int .i64 10]) ∧ G w w' := by
  go_enter Tryz.func259, Tryz.ntmps259
  go_wp2
  go_ret2
  exact ⟨rfl, by repeat (first | exact G.refl _ | refine G.alloc ?_ _ | refine G.setCell ?_ (by simp) _)⟩
set_option maxRecDepth 100000 in
set_option maxHeartbeats 400000 in
theorem un_whole_3 (n : Int) (w : World) : Calls Tryz.prog 246 #[.int .i64 n, .int .i64 3] w fun e w' => e = .returned (.tuple #[IW n, .int .i64 0]) ∧ G w w' := by
  go_enter Tryz.func246, Tryz.ntmps246
  go_wp2
  go_ret2
  exact ⟨rfl, by repeat (first | exact G.refl _ | refine G.alloc ?_ _ | refine G.setCell ?_ (by simp) _)⟩
set_option maxRecDepth 100000 in
set_option maxHeartbeats 400000 in
theorem un_whole_5 (n : Int) (w : World) : Calls Tryz.prog 246 #[.int .i64 n, .int .i64 5] w fun e w' => e = .returned (.tuple #[IW n, .int .i64 0]) ∧ G w w' := by
  go_enter Tryz.func246, Tryz.ntmps246
  go_wp2
  go_ret2
  exact ⟨rfl, by repeat (first | exact G.refl _ | refine G.alloc ?_ _ | refine G.setCell ?_ (by simp) _)⟩
set_option maxRecDepth 100000 in
set_option maxHeartbeats 400000 in
theorem un_whole_4 (n : Int) (w : World) : Calls Tryz.prog 246 #[.int .i64 n, .int .i64 4] w fun e w' => e = .returned (.tuple #[IW 0, .int .i64 0]) ∧ G w w' := by
  go_enter Tryz.func246, Tryz.ntmps246
  go_wp2
  go_ret2
  exact ⟨rfl, by repeat (first | exact G.refl _ | refine G.alloc ?_ _ | refine G.setCell ?_ (by simp) _)⟩
set_option maxRecDepth 100000 in
set_option maxHeartbeats 400000 in
theorem un_whole_8 (n : Int) (h : ¬ n < 0) (w : World) : Calls Tryz.prog 246 #[.int .i64 n, .int .i64 8] w fun e w' => e = .returned (.tuple #[IW n, .int .i64 0]) ∧ G w w' := by
  go_enter Tryz.func246, Tryz.ntmps246
  go_wp2
  go_ret2
  exact ⟨rfl, by repeat (first | exact G.refl _ | refine G.alloc ?_ _ | refine G.setCell ?_ (by simp) _)⟩
set_option maxRecDepth 100000 in
set_option maxHeartbeats 400000 in
theorem un_whole_no (n op : Int) (h : op = 2 ∨ op = 7) (w : World) : Calls Tryz.prog 246 #[.int .i64 n, .int .i64 op] w fun e w' => e = .returned (.tuple #[.nilIface, .int .i64 10]) ∧ G w w' := by
  have n1 : (op == 1) = false := by simp; omega
  have n3 : (op == 3) = false := by simp; omega
  have n5 : (op == 5) = false := by simp; omega
  have n4 : (op == 4) = false := by simp; omega
  have n6 : (op == 6) = false := by simp; omega
  have n8 : (op == 8) = false := by simp; omega
  clear h
  go_enter Tryz.func246, Tryz.ntmps246
  go_wp2
  go_ret2
  exact ⟨rfl, by repeat (first | exact G.refl _ | refine G.alloc ?_ _ | refine G.setCell ?_ (by simp) _)⟩
set_option maxRecDepth 100000 in
set_option maxHeartbeats 400000 in
theorem un_neg (n : Int) (h : I64 (0 - n)) (w : World) : Calls Tryz.prog 246 #[.int .i64 n, .int .i64 1] w fun e w' => e = .returned (.tuple #[IW (-n), .int .i64 0]) ∧ G w w' := by
  have H : Hid _ := subWhole_ok 0 n h
  clear h
  go_enter Tryz.func246, Tryz.ntmps246
  go_wp2_with fail
  refine (H.out _).mono ?_
  rintro e w1 ⟨rfl, rfl⟩
  go_wp2
  go_ret2
  exact ⟨rfl, by repeat (first | exact G.refl _ | refine G.alloc ?_ _ | refine G.setCell ?_ (by simp) _)⟩
set_option maxRecDepth 100000 in
set_option maxHeartbeats 400000 in
theorem un_neg_no (n : Int) (hn : I64 n) (h : ¬ I64 (0 - n)) (w : World) : Calls Tryz.prog 246 #[.int .i64 n, .int .i64 1] w fun e w' => e = .returned (.tuple #[.nilIface, .int .i64 11]) ∧ G w w' := by
  have H : Hid _ := subWhole_no 0 n (by unfold I64; omega) hn h
  clear h hn
  go_enter Tryz.func246, Tryz.ntmps246
  go_wp2_with fail
  refine (H.out _).mono ?_
  rintro e w1 ⟨rfl, rfl⟩
  go_wp2
  go_ret2
  exact ⟨rfl, by repeat (first | exact G.refl _ | refine G.alloc ?_ _ | refine G.setCell ?_ (by simp) _)⟩
set_option maxRecDepth 100000 in
set_option maxHeartbeats 400000 in
theorem un_abs (n : Int) (hl : n < 0) (h : I64 (0 - n)) (w : World) : Calls Tryz.prog 246 #[.int .i64 n, .int .i64 8] w fun e w' => e = .returned (.tuple #[IW (-n), .int .i64 0]) ∧ G w w' := by
  have H : Hid _ := subWhole_ok 0 n h
  clear h
  go_enter Tryz.func246, Tryz.ntmps246
  go_wp2_with fail
  refine (H.out _).mono ?_
  rintro e w1 ⟨rfl, rfl⟩
  go_wp2
  go_ret2
  exact ⟨rfl, by repeat (first | exact G.refl _ | refine G.alloc ?_ _ | refine G.setCell ?_ (by simp) _)⟩
set_option maxRecDepth 100000 in
set_option maxHeartbeats 400000 in
theorem un_abs_no (n : Int) (hl : n < 0) (hn : I64 n) (h : ¬ I64 (0 - n)) (w : World) : Calls Tryz.prog 246 #[.int .i64 n, .int .i64 8] w fun e w' => e = .returned (.tuple #[.nilIface, .int .i64 11]) ∧ G w w' := by
  have H : Hid _ := subWhole_no 0 n (by unfold I64; omega) hn h
  clear h hn
  go_enter Tryz.func246, Tryz.ntmps246
  go_wp2_with fail
  refine (H.out _).mono ?_
  rintro e w1 ⟨rfl, rfl⟩
  go_wp2
  go_ret2
  exact ⟨rfl, by repeat (first | exact G.refl _ | refine G.alloc ?_ _ | refine G.setCell ?_ (by simp) _)⟩
set_option maxRecDepth 100000 in
set_option maxHeartbeats 400000 in
theorem un_norm (n : Int) (hn : I64 n) (h : I64 (n * n)) (w : World) : Calls Tryz.prog 246 #[.int .i64 n, .int .i64 6] w fun e w' => e = .returned (.tuple #[IW (n * n), .int .i64 0]) ∧ G w w' := by
  have H : Hid _ := mulWhole_ok n n h hn
  clear h hn
  go_enter Tryz.func246, Tryz.ntmps246
  go_wp2_with fail
  refine (H.out _).mono ?_
  rintro e w1 ⟨rfl, rfl⟩
  go_wp2
  go_ret2
  exact ⟨rfl, by repeat (first | exact G.refl _ | refine G.alloc ?_ _ | refine G.setCell ?_ (by simp) _)⟩
set_option maxRecDepth 100000 in
set_option maxHeartbeats 400000 in
theorem un_norm_no (n : Int) (hn : I64 n) (h : ¬ I64 (n * n)) (w : World) : Calls Tryz.prog 246 #[.int .i64 n, .int .i64 6] w fun e w' => e = .returned (.tuple #[.nilIface, .int .i64 11]) ∧ G w w' := by
  have H : Hid _ := mulWhole_no n n hn hn h
  clear h hn
  go_enter Tryz.func246, Tryz.ntmps246
  go_wp2_with fail
  refine (H.out _).mono ?_
  rintro e w1 ⟨rfl, rfl⟩
  go_wp2
  go_ret2
  exact ⟨rfl, by repeat (first | exact G.refl _ | refine G.alloc ?_ _ | refine G.setCell ?_ (by simp) _)⟩
end Go.Proofs.YtnoajhegcjoebabGreatDoor
