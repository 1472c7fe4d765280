/- Unary and Binary, out of what they call. -/
import Derived.Test.YtnoajhegcjoebabGreatDoorItems
namespace Go.Proofs.YtnoajhegcjoebabGreatDoor
open Go.RowKit

set_option maxRecDepth 100000 in
set_option maxHeartbeats 1000000 in
theorem Binary_of (op k1 a1 b1 k2 a2 b2 : Int) (s1 s2 : ByteArray) (x y r : Value) (c c3 : Int) (k3 a3 b3 : Int) (s3 : ByteArray) (ho : 1 ≤ op) (ho' : op ≤ 18)
    (h1 : ∀ w, Calls Tryz.prog 32 #[V k1 a1 b1 s1] w fun e w' => e = .returned (.tuple #[x, .bool true]) ∧ G w w')
    (h2 : ∀ w, Calls Tryz.prog 32 #[V k2 a2 b2 s2] w fun e w' => e = .returned (.tuple #[y, .bool true]) ∧ G w w')
    (h3 : ∀ w, Calls Tryz.prog 39 #[.int .i64 op, x, y] w fun e w' => e = .returned (.tuple #[r, .int .i64 c]) ∧ G w w')
    (h4 : ∀ w, Calls Tryz.prog 33 #[r, .int .i64 c] w fun e w' => e = .returned (.tuple #[V k3 a3 b3 s3, .int .i64 c3]) ∧ G w w') (w : World) :
    Calls Tryz.prog 14 #[.int .i64 op, V k1 a1 b1 s1, V k2 a2 b2 s2] w fun e w' => e = .returned (.tuple #[V k3 a3 b3 s3, .int .i64 c3]) ∧ G w w' := by
  have H1 : Hid _ := h1; have H2 : Hid _ := h2; have H3 : Hid _ := h3; have H4 : Hid _ := h4
  clear h1 h2 h3 h4
  go_enter Tryz.func14, Tryz.ntmps14
  go_wp2_with fail
  refine (H1.out _).mono ?_
  rintro e w1 ⟨rfl, hb1⟩
  obtain ⟨hc1, hf1⟩ := hb1.rules
  have hz1 : w.heap.size + 2 < w1.heap.size := by have := hb1.size; simp at this; omega
  have hz1b : w.heap.size + 1 < w1.heap.size := by omega
  have hz1a : w.heap.size < w1.heap.size := by omega
  go_wp2_with fail
  refine (H2.out _).mono ?_
  rintro e w2 ⟨rfl, hb2⟩
  obtain ⟨hc2, hf2⟩ := hb2.rules
  have hz2 : w.heap.size + 2 < w2.heap.size := by have := hb2.size; omega
  go_wp2_with fail
  refine (H3.out _).mono ?_
  rintro e w3 ⟨rfl, hb3⟩
  obtain ⟨hc3, hf3⟩ := hb3.rules
  have hz3 : w.heap.size + 2 < w3.heap.size := by have := hb3.size; omega
  go_wp2_with fail
  refine (H4.out _).mono ?_
  rintro e w4 ⟨rfl, hb4⟩
  obtain ⟨hc4, hf4⟩ := hb4.rules
  go_wp2
  exact bodyPost_ret (v := .tuple #[V k3 a3 b3 s3, .int .i64 c3]) (by simp [results, Tryz.results14, go_sem, hc4, hc3, hc2, hc1, hz1, hz2, hz3]) rfl ⟨rfl, by
    have g4 : G w w4 := ((((((G.refl w).alloc _).alloc _).alloc _).trans hb1).trans hb2).trans (hb3.trans hb4)
    repeat (first | exact g4 | refine G.setCell ?_ (by first | (simp; done) | (simp; omega)) _)⟩
theorem m_unary_null  (w : World) : (method 342 100 (.agg #[]) "trellis/value.unary").run Tryz.prog w = .ok (234, .agg #[]) w := by kernel_rfl
set_option maxRecDepth 100000 in
set_option maxHeartbeats 1000000 in
theorem Unary_null  (op : Int) (r : Value) (c c3 : Int) (k3 a3 b3 : Int) (s3 : ByteArray) (ho : 1 ≤ op) (ho' : op ≤ 8)
    (h3 : ∀ w, Calls Tryz.prog 234 #[.agg #[], .int .i64 op] w fun e w' => e = .returned (.tuple #[r, .int .i64 c]) ∧ G w w')
    (h4 : ∀ w, Calls Tryz.prog 33 #[r, .int .i64 c] w fun e w' => e = .returned (.tuple #[V k3 a3 b3 s3, .int .i64 c3]) ∧ G w w') (w : World) :
    Calls Tryz.prog 12 #[.int .i64 op, V 0 0 0 E0] w fun e w' => e = .returned (.tuple #[V k3 a3 b3 s3, .int .i64 c3]) ∧ G w w' := by
  have H3 : Hid _ := h3; have H4 : Hid _ := h4
  clear h3 h4
  have hm := m_unary_null
  go_enter Tryz.func12, Tryz.ntmps12
  go_wp2_with fail
  refine (item_null _).mono ?_
  rintro e w1 ⟨rfl, hb1⟩
  obtain ⟨hc1, hf1⟩ := hb1.rules
  have hz1 : w.heap.size + 1 < w1.heap.size := by have := hb1.size; simp at this; omega
  go_wp2_with fail
  refine (H3.out _).mono ?_
  rintro e w3 ⟨rfl, hb3⟩
  obtain ⟨hc3, hf3⟩ := hb3.rules
  have hz3 : w.heap.size + 1 < w3.heap.size := by have := hb3.size; omega
  go_wp2_with fail
  refine (H4.out _).mono ?_
  rintro e w4 ⟨rfl, hb4⟩
  obtain ⟨hc4, hf4⟩ := hb4.rules
  go_wp2
  exact bodyPost_ret (v := .tuple #[V k3 a3 b3 s3, .int .i64 c3]) (by simp [results, Tryz.results12, go_sem, hc4, hc3, hc1, hz1, hz3]) rfl ⟨rfl, by
    have g4 : G w w4 := ((((G.refl w).alloc _).alloc _).trans hb1).trans (hb3.trans hb4)
    repeat (first | exact g4 | refine G.setCell ?_ (by first | (simp; done) | (simp; omega)) _)⟩
theorem m_unary_ff  (w : World) : (method 342 101 (.bool false) "trellis/value.unary").run Tryz.prog w = .ok (239, .bool false) w := by kernel_rfl
set_option maxRecDepth 100000 in
set_option maxHeartbeats 1000000 in
theorem Unary_ff  (op : Int) (r : Value) (c c3 : Int) (k3 a3 b3 : Int) (s3 : ByteArray) (ho : 1 ≤ op) (ho' : op ≤ 8)
    (h3 : ∀ w, Calls Tryz.prog 239 #[.bool false, .int .i64 op] w fun e w' => e = .returned (.tuple #[r, .int .i64 c]) ∧ G w w')
    (h4 : ∀ w, Calls Tryz.prog 33 #[r, .int .i64 c] w fun e w' => e = .returned (.tuple #[V k3 a3 b3 s3, .int .i64 c3]) ∧ G w w') (w : World) :
    Calls Tryz.prog 12 #[.int .i64 op, V 1 0 0 E0] w fun e w' => e = .returned (.tuple #[V k3 a3 b3 s3, .int .i64 c3]) ∧ G w w' := by
  have H3 : Hid _ := h3; have H4 : Hid _ := h4
  clear h3 h4
  have hm := m_unary_ff
  go_enter Tryz.func12, Tryz.ntmps12
  go_wp2_with fail
  refine (item_ff _).mono ?_
  rintro e w1 ⟨rfl, hb1⟩
  obtain ⟨hc1, hf1⟩ := hb1.rules
  have hz1 : w.heap.size + 1 < w1.heap.size := by have := hb1.size; simp at this; omega
  go_wp2_with fail
  refine (H3.out _).mono ?_
  rintro e w3 ⟨rfl, hb3⟩
  obtain ⟨hc3, hf3⟩ := hb3.rules
  have hz3 : w.heap.size + 1 < w3.heap.size := by have := hb3.size; omega
  go_wp2_with fail
  refine (H4.out _).mono ?_
  rintro e w4 ⟨rfl, hb4⟩
  obtain ⟨hc4, hf4⟩ := hb4.rules
  go_wp2
  exact bodyPost_ret (v := .tuple #[V k3 a3 b3 s3, .int .i64 c3]) (by simp [results, Tryz.results12, go_sem, hc4, hc3, hc1, hz1, hz3]) rfl ⟨rfl, by
    have g4 : G w w4 := ((((G.refl w).alloc _).alloc _).trans hb1).trans (hb3.trans hb4)
    repeat (first | exact g4 | refine G.setCell ?_ (by first | (simp; done) | (simp; omega)) _)⟩
theorem m_unary_tt  (w : World) : (method 342 101 (.bool true) "trellis/value.unary").run Tryz.prog w = .ok (239, .bool true) w := by kernel_rfl
set_option maxRecDepth 100000 in
set_option maxHeartbeats 1000000 in
theorem Unary_tt  (op : Int) (r : Value) (c c3 : Int) (k3 a3 b3 : Int) (s3 : ByteArray) (ho : 1 ≤ op) (ho' : op ≤ 8)
    (h3 : ∀ w, Calls Tryz.prog 239 #[.bool true, .int .i64 op] w fun e w' => e = .returned (.tuple #[r, .int .i64 c]) ∧ G w w')
    (h4 : ∀ w, Calls Tryz.prog 33 #[r, .int .i64 c] w fun e w' => e = .returned (.tuple #[V k3 a3 b3 s3, .int .i64 c3]) ∧ G w w') (w : World) :
    Calls Tryz.prog 12 #[.int .i64 op, V 1 1 0 E0] w fun e w' => e = .returned (.tuple #[V k3 a3 b3 s3, .int .i64 c3]) ∧ G w w' := by
  have H3 : Hid _ := h3; have H4 : Hid _ := h4
  clear h3 h4
  have hm := m_unary_tt
  go_enter Tryz.func12, Tryz.ntmps12
  go_wp2_with fail
  refine (item_tt _).mono ?_
  rintro e w1 ⟨rfl, hb1⟩
  obtain ⟨hc1, hf1⟩ := hb1.rules
  have hz1 : w.heap.size + 1 < w1.heap.size := by have := hb1.size; simp at this; omega
  go_wp2_with fail
  refine (H3.out _).mono ?_
  rintro e w3 ⟨rfl, hb3⟩
  obtain ⟨hc3, hf3⟩ := hb3.rules
  have hz3 : w.heap.size + 1 < w3.heap.size := by have := hb3.size; omega
  go_wp2_with fail
  refine (H4.out _).mono ?_
  rintro e w4 ⟨rfl, hb4⟩
  obtain ⟨hc4, hf4⟩ := hb4.rules
  go_wp2
  exact bodyPost_ret (v := .tuple #[V k3 a3 b3 s3, .int .i64 c3]) (by simp [results, Tryz.results12, go_sem, hc4, hc3, hc1, hz1, hz3]) rfl ⟨rfl, by
    have g4 : G w w4 := ((((G.refl w).alloc _).alloc _).trans hb1).trans (hb3.trans hb4)
    repeat (first | exact g4 | refine G.setCell ?_ (by first | (simp; done) | (simp; omega)) _)⟩
theorem m_unary_whole (n : Int) (w : World) : (method 342 126 (.int .i64 n) "trellis/value.unary").run Tryz.prog w = .ok (246, .int .i64 n) w := by kernel_rfl
set_option maxRecDepth 100000 in
set_option maxHeartbeats 1000000 in
theorem Unary_whole (n : Int) (op : Int) (r : Value) (c c3 : Int) (k3 a3 b3 : Int) (s3 : ByteArray) (ho : 1 ≤ op) (ho' : op ≤ 8)
    (h3 : ∀ w, Calls Tryz.prog 246 #[.int .i64 n, .int .i64 op] w fun e w' => e = .returned (.tuple #[r, .int .i64 c]) ∧ G w w')
    (h4 : ∀ w, Calls Tryz.prog 33 #[r, .int .i64 c] w fun e w' => e = .returned (.tuple #[V k3 a3 b3 s3, .int .i64 c3]) ∧ G w w') (w : World) :
    Calls Tryz.prog 12 #[.int .i64 op, V 2 n 0 E0] w fun e w' => e = .returned (.tuple #[V k3 a3 b3 s3, .int .i64 c3]) ∧ G w w' := by
  have H3 : Hid _ := h3; have H4 : Hid _ := h4
  clear h3 h4
  have hm := m_unary_whole
  go_enter Tryz.func12, Tryz.ntmps12
  go_wp2_with fail
  refine (item_whole n _).mono ?_
  rintro e w1 ⟨rfl, hb1⟩
  obtain ⟨hc1, hf1⟩ := hb1.rules
  have hz1 : w.heap.size + 1 < w1.heap.size := by have := hb1.size; simp at this; omega
  go_wp2_with fail
  refine (H3.out _).mono ?_
  rintro e w3 ⟨rfl, hb3⟩
  obtain ⟨hc3, hf3⟩ := hb3.rules
  have hz3 : w.heap.size + 1 < w3.heap.size := by have := hb3.size; omega
  go_wp2_with fail
  refine (H4.out _).mono ?_
  rintro e w4 ⟨rfl, hb4⟩
  obtain ⟨hc4, hf4⟩ := hb4.rules
  go_wp2
  exact bodyPost_ret (v := .tuple #[V k3 a3 b3 s3, .int .i64 c3]) (by simp [results, Tryz.results12, go_sem, hc4, hc3, hc1, hz1, hz3]) rfl ⟨rfl, by
    have g4 : G w w4 := ((((G.refl w).alloc _).alloc _).trans hb1).trans (hb3.trans hb4)
    repeat (first | exact g4 | refine G.setCell ?_ (by first | (simp; done) | (simp; omega)) _)⟩
end Go.Proofs.YtnoajhegcjoebabGreatDoor
