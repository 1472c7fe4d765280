/- Binary of the program: the face, the dispatch, null, what an item is not. -/
import Derived.Test.YtnoajhegcjoebabGreatDoorIVal
import Derived.Test.YtnoajhegcjoebabGreatDoorAsserts
namespace Go.Proofs.YtnoajhegcjoebabGreatDoor
open Go.RowKit Go.Lib Go.Shelf

theorem an_null (k a b : Int) (s : ByteArray) (hok : okV k a b s = true) (hk : k ≠ 0) (w : World) : (Instr.typeAssert (itemV k a b s) 43 100 true).run Tryz.prog w = .ok (.tuple #[.agg #[], .bool false]) w := by
  have h7 : k = 0 ∨ k = 1 ∨ k = 2 ∨ k = 3 ∨ k = 4 ∨ k = 5 ∨ k = 6 := by have := okV_kind k a b s hok; omega
  rcases h7 with rfl | rfl | rfl | rfl | rfl | rfl | rfl
  · exact absurd rfl hk
  · rw [itV_1 hok]; exact as_truth_null _ w
  · rw [itV_2 hok]; exact as_whole_null _ w
  · rw [itV_3 hok]; exact as_cpx_null _ w
  · rw [itV_4 hok]; exact as_str_null _ w
  · rw [itV_5 hok]; exact as_node_null _ w
  · rw [itV_6 hok]; exact as_edge_null _ w
theorem an_truth (k a b : Int) (s : ByteArray) (hok : okV k a b s = true) (hk : k ≠ 1) (w : World) : (Instr.typeAssert (itemV k a b s) 43 101 true).run Tryz.prog w = .ok (.tuple #[.bool false, .bool false]) w := by
  have h7 : k = 0 ∨ k = 1 ∨ k = 2 ∨ k = 3 ∨ k = 4 ∨ k = 5 ∨ k = 6 := by have := okV_kind k a b s hok; omega
  rcases h7 with rfl | rfl | rfl | rfl | rfl | rfl | rfl
  · rw [itV_0 hok]; exact as_null_truth _ w
  · exact absurd rfl hk
  · rw [itV_2 hok]; exact as_whole_truth _ w
  · rw [itV_3 hok]; exact as_cpx_truth _ w
  · rw [itV_4 hok]; exact as_str_truth _ w
  · rw [itV_5 hok]; exact as_node_truth _ w
  · rw [itV_6 hok]; exact as_edge_truth _ w
theorem an_whole (k a b : Int) (s : ByteArray) (hok : okV k a b s = true) (hk : k ≠ 2) (w : World) : (Instr.typeAssert (itemV k a b s) 43 126 true).run Tryz.prog w = .ok (.tuple #[.int .i64 0, .bool false]) w := by
  have h7 : k = 0 ∨ k = 1 ∨ k = 2 ∨ k = 3 ∨ k = 4 ∨ k = 5 ∨ k = 6 := by have := okV_kind k a b s hok; omega
  rcases h7 with rfl | rfl | rfl | rfl | rfl | rfl | rfl
  · rw [itV_0 hok]; exact as_null_whole _ w
  · rw [itV_1 hok]; exact as_truth_whole _ w
  · exact absurd rfl hk
  · rw [itV_3 hok]; exact as_cpx_whole _ w
  · rw [itV_4 hok]; exact as_str_whole _ w
  · rw [itV_5 hok]; exact as_node_whole _ w
  · rw [itV_6 hok]; exact as_edge_whole _ w
theorem an_cpx (k a b : Int) (s : ByteArray) (hok : okV k a b s = true) (hk : k ≠ 3) (w : World) : (Instr.typeAssert (itemV k a b s) 43 127 true).run Tryz.prog w = .ok (.tuple #[.complex .f64 0 0, .bool false]) w := by
  have h7 : k = 0 ∨ k = 1 ∨ k = 2 ∨ k = 3 ∨ k = 4 ∨ k = 5 ∨ k = 6 := by have := okV_kind k a b s hok; omega
  rcases h7 with rfl | rfl | rfl | rfl | rfl | rfl | rfl
  · rw [itV_0 hok]; exact as_null_cpx _ w
  · rw [itV_1 hok]; exact as_truth_cpx _ w
  · rw [itV_2 hok]; exact as_whole_cpx _ w
  · exact absurd rfl hk
  · rw [itV_4 hok]; exact as_str_cpx _ w
  · rw [itV_5 hok]; exact as_node_cpx _ w
  · rw [itV_6 hok]; exact as_edge_cpx _ w
theorem an_str (k a b : Int) (s : ByteArray) (hok : okV k a b s = true) (hk : k ≠ 4) (w : World) : (Instr.typeAssert (itemV k a b s) 43 128 true).run Tryz.prog w = .ok (.tuple #[.string E0, .bool false]) w := by
  have h7 : k = 0 ∨ k = 1 ∨ k = 2 ∨ k = 3 ∨ k = 4 ∨ k = 5 ∨ k = 6 := by have := okV_kind k a b s hok; omega
  rcases h7 with rfl | rfl | rfl | rfl | rfl | rfl | rfl
  · rw [itV_0 hok]; exact as_null_str _ w
  · rw [itV_1 hok]; exact as_truth_str _ w
  · rw [itV_2 hok]; exact as_whole_str _ w
  · rw [itV_3 hok]; exact as_cpx_str _ w
  · exact absurd rfl hk
  · rw [itV_5 hok]; exact as_node_str _ w
  · rw [itV_6 hok]; exact as_edge_str _ w
set_option maxRecDepth 100000 in
set_option maxHeartbeats 400000 in
theorem isn_of (x : Value) (q : Bool) (h : ∀ w, (Instr.typeAssert x 43 100 true).run Tryz.prog w = .ok (.tuple #[.agg #[], .bool q]) w) (w : World) : Calls Tryz.prog 82 #[x] w fun e w' => e = .returned (.bool q) ∧ G w w' := by
  go_enter Tryz.func82, Tryz.ntmps82
  go_wp2
  go_ret
  exact ⟨rfl, by repeat (first | exact G.refl _ | refine G.alloc ?_ _ | refine G.setCell ?_ (by simp) _)⟩
theorem isn_no (k a b : Int) (s : ByteArray) (hok : okV k a b s = true) (hk : k ≠ 0) (w : World) : Calls Tryz.prog 82 #[itemV k a b s] w fun e w' => e = .returned (.bool false) ∧ G w w' :=
  isn_of _ false (an_null k a b s hok hk) w
theorem isn_yes (w : World) : Calls Tryz.prog 82 #[.iface 100 (.agg #[])] w fun e w' => e = .returned (.bool true) ∧ G w w' :=
  isn_of _ true (as_null_null _) w
set_option maxRecDepth 100000 in
set_option maxHeartbeats 1000000 in
theorem Binary_arg (op k a b k' a' b' : Int) (s s' : ByteArray) (ho : op < 1 ∨ 18 < op) (w : World) :
    Calls Tryz.prog 14 #[.int .i64 op, V k a b s, V k' a' b' s'] w fun e w' => e = .returned (.tuple #[V0, .int .i64 1]) ∧ G w w' := by
  by_cases h : op < 1
  · clear ho
    go_enter Tryz.func14, Tryz.ntmps14
    go_wp2
    exact bodyPost_ret (v := .tuple #[V0, .int .i64 1]) (by simp [results, Tryz.results14, go_sem]) rfl ⟨rfl, by repeat (first | exact G.refl _ | refine G.alloc ?_ _ | refine G.setCell ?_ (by simp) _)⟩
  · have h' : 18 < op := by omega
    clear ho
    go_enter Tryz.func14, Tryz.ntmps14
    go_wp2
    exact bodyPost_ret (v := .tuple #[V0, .int .i64 1]) (by simp [results, Tryz.results14, go_sem]) rfl ⟨rfl, by repeat (first | exact G.refl _ | refine G.alloc ?_ _ | refine G.setCell ?_ (by simp) _)⟩
theorem io_any (k a b : Int) (s : ByteArray) : ∀ w, Tabs w → Calls Tryz.prog 32 #[V k a b s] w fun e w' => e = .returned (.tuple #[itemV k a b s, .bool (okV k a b s)]) ∧ G w w' := itemOf_any k a b s
set_option maxRecDepth 100000 in
set_option maxHeartbeats 1000000 in
theorem Binary_bad1 (op k a b k' a' b' : Int) (s s' : ByteArray) (ho : 1 ≤ op) (ho' : op ≤ 18) (hok : okV k a b s = false) (w : World) (hT : Tabs w) :
    Calls Tryz.prog 14 #[.int .i64 op, V k a b s, V k' a' b' s'] w fun e w' => e = .returned (.tuple #[V0, .int .i64 16]) ∧ G w w' := by
  have HI : Hid _ := io_any k a b s
  have HJ : Hid _ := io_any k' a' b' s'
  rw [hok] at HI
  generalize okV k' a' b' s' = q2 at HJ
  generalize itemV k a b s = x at HI; generalize itemV k' a' b' s' = y at HJ
  clear hok
  go_enter Tryz.func14, Tryz.ntmps14
  go_wp2_with fail
  refine (HI.out _ (hT.G ((((G.refl w).alloc _).alloc _).alloc _))).mono ?_
  rintro e w1 ⟨rfl, hb1⟩
  have g1 : G w w1 := ((((G.refl w).alloc _).alloc _).alloc _).trans hb1
  obtain ⟨hc1, hf1⟩ := hb1.rules
  have hz1 : w.heap.size + 2 < w1.heap.size := by have := hb1.size; simp at this; omega
  go_wp2_with fail
  refine (HJ.out _ (hT.G g1)).mono ?_
  rintro e w2 ⟨rfl, hb2⟩
  have g2 : G w w2 := g1.trans hb2
  obtain ⟨hc2, hf2⟩ := hb2.rules
  go_wp2
  exact bodyPost_ret (v := .tuple #[V0, .int .i64 16]) (by simp [results, Tryz.results14, go_sem, hc1, hc2, hz1]) rfl ⟨rfl, by
    repeat (first | exact g2 | refine G.alloc ?_ _ | refine G.setCell ?_ (by first | (simp; done) | (simp; omega)) _)⟩
set_option maxRecDepth 100000 in
set_option maxHeartbeats 1000000 in
theorem Binary_bad2 (op k a b k' a' b' : Int) (s s' : ByteArray) (ho : 1 ≤ op) (ho' : op ≤ 18) (hok : okV k a b s = true) (hok' : okV k' a' b' s' = false) (w : World) (hT : Tabs w) :
    Calls Tryz.prog 14 #[.int .i64 op, V k a b s, V k' a' b' s'] w fun e w' => e = .returned (.tuple #[V0, .int .i64 16]) ∧ G w w' := by
  have HI : Hid _ := io_any k a b s
  have HJ : Hid _ := io_any k' a' b' s'
  rw [hok] at HI
  rw [hok'] at HJ
  generalize itemV k a b s = x at HI; generalize itemV k' a' b' s' = y at HJ
  clear hok hok'
  go_enter Tryz.func14, Tryz.ntmps14
  go_wp2_with fail
  refine (HI.out _ (hT.G ((((G.refl w).alloc _).alloc _).alloc _))).mono ?_
  rintro e w1 ⟨rfl, hb1⟩
  have g1 : G w w1 := ((((G.refl w).alloc _).alloc _).alloc _).trans hb1
  obtain ⟨hc1, hf1⟩ := hb1.rules
  have hz1 : w.heap.size + 2 < w1.heap.size := by have := hb1.size; simp at this; omega
  go_wp2_with fail
  refine (HJ.out _ (hT.G g1)).mono ?_
  rintro e w2 ⟨rfl, hb2⟩
  have g2 : G w w2 := g1.trans hb2
  obtain ⟨hc2, hf2⟩ := hb2.rules
  go_wp2
  exact bodyPost_ret (v := .tuple #[V0, .int .i64 16]) (by simp [results, Tryz.results14, go_sem, hc1, hc2, hz1]) rfl ⟨rfl, by
    repeat (first | exact g2 | refine G.alloc ?_ _ | refine G.setCell ?_ (by first | (simp; done) | (simp; omega)) _)⟩
set_option maxRecDepth 100000 in
set_option maxHeartbeats 1000000 in
theorem Binary_of2 (Rdy0 : World → Prop) (hG0 : ∀ W W1, Rdy0 W → G W W1 → Rdy0 W1) (op k a b k' a' b' : Int) (s s' : ByteArray) (ho : 1 ≤ op) (ho' : op ≤ 18) (hok : okV k a b s = true) (hok' : okV k' a' b' s' = true) (x y r : Value) (c c3 k3 a3 b3 : Int) (s3 : ByteArray) (hx : itemV k a b s = x) (hy : itemV k' a' b' s' = y)
    (h3 : ∀ w, Rdy0 w → Calls Tryz.prog 39 #[.int .i64 op, x, y] w fun e w' => e = .returned (.tuple #[r, .int .i64 c]) ∧ G w w')
    (h4 : ∀ w, Calls Tryz.prog 33 #[r, .int .i64 c] w fun e w' => e = .returned (.tuple #[V k3 a3 b3 s3, .int .i64 c3]) ∧ G w w') (w : World) (hT : Tabs w) (hR : Rdy0 w) :
    Calls Tryz.prog 14 #[.int .i64 op, V k a b s, V k' a' b' s'] w fun e w' => e = .returned (.tuple #[V k3 a3 b3 s3, .int .i64 c3]) ∧ G w w' := by
  have HI : Hid _ := io_any k a b s
  have HJ : Hid _ := io_any k' a' b' s'
  rw [hok] at HI
  rw [hok'] at HJ
  rw [hx] at HI; rw [hy] at HJ; have H3 : Hid _ := h3; have H4 : Hid _ := h4; clear h3 h4 hx hy
  clear hok hok'
  go_enter Tryz.func14, Tryz.ntmps14
  go_wp2_with fail
  refine (HI.out _ (hT.G ((((G.refl w).alloc _).alloc _).alloc _))).mono ?_
  rintro e w1 ⟨rfl, hb1⟩
  have g1 : G w w1 := ((((G.refl w).alloc _).alloc _).alloc _).trans hb1
  obtain ⟨hc1, hf1⟩ := hb1.rules
  have hz1 : w.heap.size + 2 < w1.heap.size := by have := hb1.size; simp at this; omega
  go_wp2_with fail
  refine (HJ.out _ (hT.G g1)).mono ?_
  rintro e w2 ⟨rfl, hb2⟩
  have g2 : G w w2 := g1.trans hb2
  obtain ⟨hc2, hf2⟩ := hb2.rules
  have hz2 : w.heap.size + 2 < w2.heap.size := by have := hb2.size; omega
  go_wp2_with fail
  refine (H3.out _ (hG0 _ _ hR g2)).mono ?_
  rintro e w3 ⟨rfl, hb3⟩
  have g3 : G w w3 := g2.trans hb3
  obtain ⟨hc3, hf3⟩ := hb3.rules
  have hz3 : w.heap.size + 2 < w3.heap.size := by have := hb3.size; omega
  go_wp2_with fail
  refine (H4.out _).mono ?_
  rintro e w4 ⟨rfl, hb4⟩
  have g4 : G w w4 := g3.trans hb4
  obtain ⟨hc4, hf4⟩ := hb4.rules
  go_wp2
  exact bodyPost_ret (v := .tuple #[V k3 a3 b3 s3, .int .i64 c3]) (by simp [results, Tryz.results14, go_sem, hc1, hc2, hc3, hc4, hz1, hz2, hz3]) rfl ⟨rfl, by
    repeat (first | exact g4 | refine G.alloc ?_ _ | refine G.setCell ?_ (by first | (simp; done) | (simp; omega)) _)⟩
end Go.Proofs.YtnoajhegcjoebabGreatDoor
