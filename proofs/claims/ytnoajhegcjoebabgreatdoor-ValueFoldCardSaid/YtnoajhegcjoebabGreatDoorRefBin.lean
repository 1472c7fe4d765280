/- trellisref1.Binary: the face; logic, equal, ordered, together. -/
import Derived.Test.YtnoajhegcjoebabGreatDoorBinE
import Derived.Test.YtnoajhegcjoebabGreatDoorRefBin2
namespace Go.Proofs.YtnoajhegcjoebabGreatDoor
open Go.RowKit Go.Lib Go.Shelf

set_option maxRecDepth 100000 in
set_option maxHeartbeats 1000000 in
theorem rB_arg (op : Int) (k a b k' a' b' : Int) (s s' : ByteArray) (ho : op < 1 ∨ 18 < op) (w : World) : Calls Tryz.prog 15 #[.int .i64 op, V k a b s, V k' a' b' s'] w fun e w' => e = .returned (.tuple #[V0, .int .i64 1]) ∧ G w w' := by
  by_cases h : op < 1
  · clear ho
    go_enter Tryz.func15, Tryz.ntmps15
    go_wp2
    exact bodyPost_ret (v := .tuple #[V0, .int .i64 1]) (by simp [results, Tryz.results15, go_sem]) rfl ⟨rfl, by
      repeat (first | exact G.refl _ | refine G.alloc ?_ _ | refine G.setCell ?_ (by first | (simp; done) | (simp; omega)) _)⟩
  · have h' : 18 < op := by omega
    clear ho
    go_enter Tryz.func15, Tryz.ntmps15
    go_wp2
    exact bodyPost_ret (v := .tuple #[V0, .int .i64 1]) (by simp [results, Tryz.results15, go_sem]) rfl ⟨rfl, by
      repeat (first | exact G.refl _ | refine G.alloc ?_ _ | refine G.setCell ?_ (by first | (simp; done) | (simp; omega)) _)⟩
set_option maxRecDepth 100000 in
set_option maxHeartbeats 1000000 in
theorem rB_bad1 (op : Int) (ho : 1 ≤ op) (ho' : op ≤ 18) (k a b k' a' b' : Int) (s s' : ByteArray) (h1 : ∀ w, Calls Tryz.prog 27 #[V k a b s] w fun e w' => e = .returned (.bool false) ∧ G w w') (w : World) : Calls Tryz.prog 15 #[.int .i64 op, V k a b s, V k' a' b' s'] w fun e w' => e = .returned (.tuple #[V0, .int .i64 16]) ∧ G w w' := by
  have H1 : Hid _ := h1
  clear h1
  go_enter Tryz.func15, Tryz.ntmps15
  go_wp2_with fail
  refine (H1.out _).mono ?_
  rintro e w1 ⟨rfl, hb1⟩
  have g1 : G w w1 := ((((G.refl w).alloc _).alloc _).alloc _).trans hb1
  obtain ⟨hc1, hf1⟩ := hb1.rules
  go_wp2
  exact bodyPost_ret (v := .tuple #[V0, .int .i64 16]) (by simp [results, Tryz.results15, go_sem, hc1]) rfl ⟨rfl, by
    repeat (first | exact g1 | refine G.alloc ?_ _ | refine G.setCell ?_ (by first | (simp; done) | (simp; omega)) _)⟩
set_option maxRecDepth 100000 in
set_option maxHeartbeats 1000000 in
theorem rB_bad2 (op : Int) (ho : 1 ≤ op) (ho' : op ≤ 18) (k a b k' a' b' : Int) (s s' : ByteArray) (h1 : ∀ w, Calls Tryz.prog 27 #[V k a b s] w fun e w' => e = .returned (.bool true) ∧ G w w') (h2 : ∀ w, Calls Tryz.prog 27 #[V k' a' b' s'] w fun e w' => e = .returned (.bool false) ∧ G w w') (w : World) : Calls Tryz.prog 15 #[.int .i64 op, V k a b s, V k' a' b' s'] w fun e w' => e = .returned (.tuple #[V0, .int .i64 16]) ∧ G w w' := by
  have H1 : Hid _ := h1
  have H2 : Hid _ := h2
  clear h1 h2
  go_enter Tryz.func15, Tryz.ntmps15
  go_wp2_with fail
  refine (H1.out _).mono ?_
  rintro e w1 ⟨rfl, hb1⟩
  have g1 : G w w1 := ((((G.refl w).alloc _).alloc _).alloc _).trans hb1
  obtain ⟨hc1, hf1⟩ := hb1.rules
  have hz1 : w.heap.size + 2 < w1.heap.size := by have := hb1.size; simp at this; omega
  have hz1a : w.heap.size < w1.heap.size := by omega
  have hz1b : w.heap.size + 1 < w1.heap.size := by omega
  go_wp2_with fail
  refine (H2.out _).mono ?_
  rintro e w2 ⟨rfl, hb2⟩
  have g2 : G w w2 := g1.trans hb2
  obtain ⟨hc2, hf2⟩ := hb2.rules
  go_wp2
  exact bodyPost_ret (v := .tuple #[V0, .int .i64 16]) (by simp [results, Tryz.results15, go_sem, hc1, hc2, hz1]) rfl ⟨rfl, by
    repeat (first | exact g2 | refine G.alloc ?_ _ | refine G.setCell ?_ (by first | (simp; done) | (simp; omega)) _)⟩
set_option maxRecDepth 100000 in
set_option maxHeartbeats 1000000 in
theorem rB_12 (rk ra rb : Int) (rs : ByteArray) (c : Int) (k a b k' a' b' : Int) (s s' : ByteArray) (h1 : ∀ w, Calls Tryz.prog 27 #[V k a b s] w fun e w' => e = .returned (.bool true) ∧ G w w') (h2 : ∀ w, Calls Tryz.prog 27 #[V k' a' b' s'] w fun e w' => e = .returned (.bool true) ∧ G w w') (h3 : ∀ w, Calls Tryz.prog 40 #[.int .i64 12, V k a b s, V k' a' b' s'] w fun e w' => e = .returned (.tuple #[V rk ra rb rs, .int .i64 c]) ∧ G w w') (w : World) : Calls Tryz.prog 15 #[.int .i64 12, V k a b s, V k' a' b' s'] w fun e w' => e = .returned (.tuple #[V rk ra rb rs, .int .i64 c]) ∧ G w w' := by
  have H1 : Hid _ := h1
  have H2 : Hid _ := h2
  have H3 : Hid _ := h3
  clear h1 h2 h3
  go_enter Tryz.func15, Tryz.ntmps15
  go_wp2_with fail
  refine (H1.out _).mono ?_
  rintro e w1 ⟨rfl, hb1⟩
  have g1 : G w w1 := ((((G.refl w).alloc _).alloc _).alloc _).trans hb1
  obtain ⟨hc1, hf1⟩ := hb1.rules
  have hz1 : w.heap.size + 2 < w1.heap.size := by have := hb1.size; simp at this; omega
  have hz1a : w.heap.size < w1.heap.size := by omega
  have hz1b : w.heap.size + 1 < w1.heap.size := by omega
  go_wp2_with fail
  refine (H2.out _).mono ?_
  rintro e w2 ⟨rfl, hb2⟩
  have g2 : G w w2 := g1.trans hb2
  obtain ⟨hc2, hf2⟩ := hb2.rules
  have hz2 : w.heap.size + 2 < w2.heap.size := by have := hb2.size; omega
  have hz2a : w.heap.size < w2.heap.size := by omega
  have hz2b : w.heap.size + 1 < w2.heap.size := by omega
  go_wp2_with fail
  refine (H3.out _).mono ?_
  rintro e w3 ⟨rfl, hb3⟩
  have g3 : G w w3 := g2.trans hb3
  obtain ⟨hc3, hf3⟩ := hb3.rules
  go_wp2
  exact bodyPost_ret (v := .tuple #[V rk ra rb rs, .int .i64 c]) (by simp [results, Tryz.results15, go_sem, hc1, hc2, hc3, hz1, hz2]) rfl ⟨rfl, by
    repeat (first | exact g3 | refine G.alloc ?_ _ | refine G.setCell ?_ (by first | (simp; done) | (simp; omega)) _)⟩
set_option maxRecDepth 100000 in
set_option maxHeartbeats 1000000 in
theorem rB_13 (rk ra rb : Int) (rs : ByteArray) (c : Int) (k a b k' a' b' : Int) (s s' : ByteArray) (h1 : ∀ w, Calls Tryz.prog 27 #[V k a b s] w fun e w' => e = .returned (.bool true) ∧ G w w') (h2 : ∀ w, Calls Tryz.prog 27 #[V k' a' b' s'] w fun e w' => e = .returned (.bool true) ∧ G w w') (h3 : ∀ w, Calls Tryz.prog 40 #[.int .i64 13, V k a b s, V k' a' b' s'] w fun e w' => e = .returned (.tuple #[V rk ra rb rs, .int .i64 c]) ∧ G w w') (w : World) : Calls Tryz.prog 15 #[.int .i64 13, V k a b s, V k' a' b' s'] w fun e w' => e = .returned (.tuple #[V rk ra rb rs, .int .i64 c]) ∧ G w w' := by
  have H1 : Hid _ := h1
  have H2 : Hid _ := h2
  have H3 : Hid _ := h3
  clear h1 h2 h3
  go_enter Tryz.func15, Tryz.ntmps15
  go_wp2_with fail
  refine (H1.out _).mono ?_
  rintro e w1 ⟨rfl, hb1⟩
  have g1 : G w w1 := ((((G.refl w).alloc _).alloc _).alloc _).trans hb1
  obtain ⟨hc1, hf1⟩ := hb1.rules
  have hz1 : w.heap.size + 2 < w1.heap.size := by have := hb1.size; simp at this; omega
  have hz1a : w.heap.size < w1.heap.size := by omega
  have hz1b : w.heap.size + 1 < w1.heap.size := by omega
  go_wp2_with fail
  refine (H2.out _).mono ?_
  rintro e w2 ⟨rfl, hb2⟩
  have g2 : G w w2 := g1.trans hb2
  obtain ⟨hc2, hf2⟩ := hb2.rules
  have hz2 : w.heap.size + 2 < w2.heap.size := by have := hb2.size; omega
  have hz2a : w.heap.size < w2.heap.size := by omega
  have hz2b : w.heap.size + 1 < w2.heap.size := by omega
  go_wp2_with fail
  refine (H3.out _).mono ?_
  rintro e w3 ⟨rfl, hb3⟩
  have g3 : G w w3 := g2.trans hb3
  obtain ⟨hc3, hf3⟩ := hb3.rules
  go_wp2
  exact bodyPost_ret (v := .tuple #[V rk ra rb rs, .int .i64 c]) (by simp [results, Tryz.results15, go_sem, hc1, hc2, hc3, hz1, hz2]) rfl ⟨rfl, by
    repeat (first | exact g3 | refine G.alloc ?_ _ | refine G.setCell ?_ (by first | (simp; done) | (simp; omega)) _)⟩
set_option maxRecDepth 100000 in
set_option maxHeartbeats 1000000 in
theorem rB_14 (rk ra rb : Int) (rs : ByteArray) (c : Int) (k a b k' a' b' : Int) (s s' : ByteArray) (h1 : ∀ w, Calls Tryz.prog 27 #[V k a b s] w fun e w' => e = .returned (.bool true) ∧ G w w') (h2 : ∀ w, Calls Tryz.prog 27 #[V k' a' b' s'] w fun e w' => e = .returned (.bool true) ∧ G w w') (h3 : ∀ w, Calls Tryz.prog 40 #[.int .i64 14, V k a b s, V k' a' b' s'] w fun e w' => e = .returned (.tuple #[V rk ra rb rs, .int .i64 c]) ∧ G w w') (w : World) : Calls Tryz.prog 15 #[.int .i64 14, V k a b s, V k' a' b' s'] w fun e w' => e = .returned (.tuple #[V rk ra rb rs, .int .i64 c]) ∧ G w w' := by
  have H1 : Hid _ := h1
  have H2 : Hid _ := h2
  have H3 : Hid _ := h3
  clear h1 h2 h3
  go_enter Tryz.func15, Tryz.ntmps15
  go_wp2_with fail
  refine (H1.out _).mono ?_
  rintro e w1 ⟨rfl, hb1⟩
  have g1 : G w w1 := ((((G.refl w).alloc _).alloc _).alloc _).trans hb1
  obtain ⟨hc1, hf1⟩ := hb1.rules
  have hz1 : w.heap.size + 2 < w1.heap.size := by have := hb1.size; simp at this; omega
  have hz1a : w.heap.size < w1.heap.size := by omega
  have hz1b : w.heap.size + 1 < w1.heap.size := by omega
  go_wp2_with fail
  refine (H2.out _).mono ?_
  rintro e w2 ⟨rfl, hb2⟩
  have g2 : G w w2 := g1.trans hb2
  obtain ⟨hc2, hf2⟩ := hb2.rules
  have hz2 : w.heap.size + 2 < w2.heap.size := by have := hb2.size; omega
  have hz2a : w.heap.size < w2.heap.size := by omega
  have hz2b : w.heap.size + 1 < w2.heap.size := by omega
  go_wp2_with fail
  refine (H3.out _).mono ?_
  rintro e w3 ⟨rfl, hb3⟩
  have g3 : G w w3 := g2.trans hb3
  obtain ⟨hc3, hf3⟩ := hb3.rules
  go_wp2
  exact bodyPost_ret (v := .tuple #[V rk ra rb rs, .int .i64 c]) (by simp [results, Tryz.results15, go_sem, hc1, hc2, hc3, hz1, hz2]) rfl ⟨rfl, by
    repeat (first | exact g3 | refine G.alloc ?_ _ | refine G.setCell ?_ (by first | (simp; done) | (simp; omega)) _)⟩
set_option maxRecDepth 100000 in
set_option maxHeartbeats 1000000 in
theorem rB_null1 (op : Int) (ho : 1 ≤ op) (ho' : op ≤ 18) (n12 : (op == 12) = false) (n13 : (op == 13) = false) (n14 : (op == 14) = false) (a b k' a' b' : Int) (s s' : ByteArray) (h1 : ∀ w, Calls Tryz.prog 27 #[V 0 a b s] w fun e w' => e = .returned (.bool true) ∧ G w w') (h2 : ∀ w, Calls Tryz.prog 27 #[V k' a' b' s'] w fun e w' => e = .returned (.bool true) ∧ G w w') (w : World) : Calls Tryz.prog 15 #[.int .i64 op, V 0 a b s, V k' a' b' s'] w fun e w' => e = .returned (.tuple #[V0, .int .i64 0]) ∧ G w w' := by
  have H1 : Hid _ := h1
  have H2 : Hid _ := h2
  clear h1 h2
  go_enter Tryz.func15, Tryz.ntmps15
  go_wp2_with fail
  refine (H1.out _).mono ?_
  rintro e w1 ⟨rfl, hb1⟩
  have g1 : G w w1 := ((((G.refl w).alloc _).alloc _).alloc _).trans hb1
  obtain ⟨hc1, hf1⟩ := hb1.rules
  have hz1 : w.heap.size + 2 < w1.heap.size := by have := hb1.size; simp at this; omega
  have hz1a : w.heap.size < w1.heap.size := by omega
  have hz1b : w.heap.size + 1 < w1.heap.size := by omega
  go_wp2_with fail
  refine (H2.out _).mono ?_
  rintro e w2 ⟨rfl, hb2⟩
  have g2 : G w w2 := g1.trans hb2
  obtain ⟨hc2, hf2⟩ := hb2.rules
  go_wp2
  exact bodyPost_ret (v := .tuple #[V0, .int .i64 0]) (by simp [results, Tryz.results15, go_sem, hc1, hc2, hz1]) rfl ⟨rfl, by
    repeat (first | exact g2 | refine G.alloc ?_ _ | refine G.setCell ?_ (by first | (simp; done) | (simp; omega)) _)⟩
set_option maxRecDepth 100000 in
set_option maxHeartbeats 1000000 in
theorem rB_null2 (op : Int) (ho : 1 ≤ op) (ho' : op ≤ 18) (n12 : (op == 12) = false) (n13 : (op == 13) = false) (n14 : (op == 14) = false) (k a b a' b' : Int) (s s' : ByteArray) (z : (k == 0) = false) (h1 : ∀ w, Calls Tryz.prog 27 #[V k a b s] w fun e w' => e = .returned (.bool true) ∧ G w w') (h2 : ∀ w, Calls Tryz.prog 27 #[V 0 a' b' s'] w fun e w' => e = .returned (.bool true) ∧ G w w') (w : World) : Calls Tryz.prog 15 #[.int .i64 op, V k a b s, V 0 a' b' s'] w fun e w' => e = .returned (.tuple #[V0, .int .i64 0]) ∧ G w w' := by
  have H1 : Hid _ := h1
  have H2 : Hid _ := h2
  clear h1 h2
  go_enter Tryz.func15, Tryz.ntmps15
  go_wp2_with fail
  refine (H1.out _).mono ?_
  rintro e w1 ⟨rfl, hb1⟩
  have g1 : G w w1 := ((((G.refl w).alloc _).alloc _).alloc _).trans hb1
  obtain ⟨hc1, hf1⟩ := hb1.rules
  have hz1 : w.heap.size + 2 < w1.heap.size := by have := hb1.size; simp at this; omega
  have hz1a : w.heap.size < w1.heap.size := by omega
  have hz1b : w.heap.size + 1 < w1.heap.size := by omega
  go_wp2_with fail
  refine (H2.out _).mono ?_
  rintro e w2 ⟨rfl, hb2⟩
  have g2 : G w w2 := g1.trans hb2
  obtain ⟨hc2, hf2⟩ := hb2.rules
  go_wp2
  exact bodyPost_ret (v := .tuple #[V0, .int .i64 0]) (by simp [results, Tryz.results15, go_sem, hc1, hc2, hz1]) rfl ⟨rfl, by
    repeat (first | exact g2 | refine G.alloc ?_ _ | refine G.setCell ?_ (by first | (simp; done) | (simp; omega)) _)⟩
set_option maxRecDepth 100000 in
set_option maxHeartbeats 1000000 in
theorem rB_6 (q : Bool) (k a b k' a' b' : Int) (s s' : ByteArray) (z : (k == 0) = false) (z' : (k' == 0) = false) (h1 : ∀ w, Calls Tryz.prog 27 #[V k a b s] w fun e w' => e = .returned (.bool true) ∧ G w w') (h2 : ∀ w, Calls Tryz.prog 27 #[V k' a' b' s'] w fun e w' => e = .returned (.bool true) ∧ G w w') (h3 : ∀ w, Calls Tryz.prog 41 #[V k a b s, V k' a' b' s'] w fun e w' => e = .returned (.bool q) ∧ G w w') (w : World) : Calls Tryz.prog 15 #[.int .i64 6, V k a b s, V k' a' b' s'] w fun e w' => e = .returned (.tuple #[V 1 (tI q) 0 E0, .int .i64 0]) ∧ G w w' := by
  have H1 : Hid _ := h1
  have H2 : Hid _ := h2
  have H3 : Hid _ := h3
  clear h1 h2 h3
  go_enter Tryz.func15, Tryz.ntmps15
  go_wp2_with fail
  refine (H1.out _).mono ?_
  rintro e w1 ⟨rfl, hb1⟩
  have g1 : G w w1 := ((((G.refl w).alloc _).alloc _).alloc _).trans hb1
  obtain ⟨hc1, hf1⟩ := hb1.rules
  have hz1 : w.heap.size + 2 < w1.heap.size := by have := hb1.size; simp at this; omega
  have hz1a : w.heap.size < w1.heap.size := by omega
  have hz1b : w.heap.size + 1 < w1.heap.size := by omega
  go_wp2_with fail
  refine (H2.out _).mono ?_
  rintro e w2 ⟨rfl, hb2⟩
  have g2 : G w w2 := g1.trans hb2
  obtain ⟨hc2, hf2⟩ := hb2.rules
  have hz2 : w.heap.size + 2 < w2.heap.size := by have := hb2.size; omega
  have hz2a : w.heap.size < w2.heap.size := by omega
  have hz2b : w.heap.size + 1 < w2.heap.size := by omega
  go_wp2_with fail
  refine (H3.out _).mono ?_
  rintro e w3 ⟨rfl, hb3⟩
  have g3 : G w w3 := g2.trans hb3
  obtain ⟨hc3, hf3⟩ := hb3.rules
  have hz3 : w.heap.size + 2 < w3.heap.size := by have := hb3.size; omega
  have hz3a : w.heap.size < w3.heap.size := by omega
  have hz3b : w.heap.size + 1 < w3.heap.size := by omega
  go_wp2_with fail
  refine (rtruth_q q _).mono ?_
  rintro e w4 ⟨rfl, hb4⟩
  have g4 : G w w4 := g3.trans hb4
  obtain ⟨hc4, hf4⟩ := hb4.rules
  go_wp2
  exact bodyPost_ret (v := .tuple #[V 1 (tI q) 0 E0, .int .i64 0]) (by simp [results, Tryz.results15, go_sem, hc1, hc2, hc3, hc4, hz1, hz2, hz3]) rfl ⟨rfl, by
    repeat (first | exact g4 | refine G.alloc ?_ _ | refine G.setCell ?_ (by first | (simp; done) | (simp; omega)) _)⟩
set_option maxRecDepth 100000 in
set_option maxHeartbeats 1000000 in
theorem rB_7 (q : Bool) (k a b k' a' b' : Int) (s s' : ByteArray) (z : (k == 0) = false) (z' : (k' == 0) = false) (h1 : ∀ w, Calls Tryz.prog 27 #[V k a b s] w fun e w' => e = .returned (.bool true) ∧ G w w') (h2 : ∀ w, Calls Tryz.prog 27 #[V k' a' b' s'] w fun e w' => e = .returned (.bool true) ∧ G w w') (h3 : ∀ w, Calls Tryz.prog 41 #[V k a b s, V k' a' b' s'] w fun e w' => e = .returned (.bool q) ∧ G w w') (w : World) : Calls Tryz.prog 15 #[.int .i64 7, V k a b s, V k' a' b' s'] w fun e w' => e = .returned (.tuple #[V 1 (tI (!q)) 0 E0, .int .i64 0]) ∧ G w w' := by
  have H1 : Hid _ := h1
  have H2 : Hid _ := h2
  have H3 : Hid _ := h3
  clear h1 h2 h3
  go_enter Tryz.func15, Tryz.ntmps15
  go_wp2_with fail
  refine (H1.out _).mono ?_
  rintro e w1 ⟨rfl, hb1⟩
  have g1 : G w w1 := ((((G.refl w).alloc _).alloc _).alloc _).trans hb1
  obtain ⟨hc1, hf1⟩ := hb1.rules
  have hz1 : w.heap.size + 2 < w1.heap.size := by have := hb1.size; simp at this; omega
  have hz1a : w.heap.size < w1.heap.size := by omega
  have hz1b : w.heap.size + 1 < w1.heap.size := by omega
  go_wp2_with fail
  refine (H2.out _).mono ?_
  rintro e w2 ⟨rfl, hb2⟩
  have g2 : G w w2 := g1.trans hb2
  obtain ⟨hc2, hf2⟩ := hb2.rules
  have hz2 : w.heap.size + 2 < w2.heap.size := by have := hb2.size; omega
  have hz2a : w.heap.size < w2.heap.size := by omega
  have hz2b : w.heap.size + 1 < w2.heap.size := by omega
  go_wp2_with fail
  refine (H3.out _).mono ?_
  rintro e w3 ⟨rfl, hb3⟩
  have g3 : G w w3 := g2.trans hb3
  obtain ⟨hc3, hf3⟩ := hb3.rules
  have hz3 : w.heap.size + 2 < w3.heap.size := by have := hb3.size; omega
  have hz3a : w.heap.size < w3.heap.size := by omega
  have hz3b : w.heap.size + 1 < w3.heap.size := by omega
  go_wp2_with fail
  refine (rtruth_q (!q) _).mono ?_
  rintro e w4 ⟨rfl, hb4⟩
  have g4 : G w w4 := g3.trans hb4
  obtain ⟨hc4, hf4⟩ := hb4.rules
  go_wp2
  exact bodyPost_ret (v := .tuple #[V 1 (tI (!q)) 0 E0, .int .i64 0]) (by simp [results, Tryz.results15, go_sem, hc1, hc2, hc3, hc4, hz1, hz2, hz3]) rfl ⟨rfl, by
    repeat (first | exact g4 | refine G.alloc ?_ _ | refine G.setCell ?_ (by first | (simp; done) | (simp; omega)) _)⟩
set_option maxRecDepth 100000 in
set_option maxHeartbeats 1000000 in
theorem rB_8 (rk ra rb : Int) (rs : ByteArray) (c : Int) (k a b k' a' b' : Int) (s s' : ByteArray) (z : (k == 0) = false) (z' : (k' == 0) = false) (h1 : ∀ w, Calls Tryz.prog 27 #[V k a b s] w fun e w' => e = .returned (.bool true) ∧ G w w') (h2 : ∀ w, Calls Tryz.prog 27 #[V k' a' b' s'] w fun e w' => e = .returned (.bool true) ∧ G w w') (h3 : ∀ w, Calls Tryz.prog 42 #[.int .i64 8, V k a b s, V k' a' b' s'] w fun e w' => e = .returned (.tuple #[V rk ra rb rs, .int .i64 c]) ∧ G w w') (w : World) : Calls Tryz.prog 15 #[.int .i64 8, V k a b s, V k' a' b' s'] w fun e w' => e = .returned (.tuple #[V rk ra rb rs, .int .i64 c]) ∧ G w w' := by
  have H1 : Hid _ := h1
  have H2 : Hid _ := h2
  have H3 : Hid _ := h3
  clear h1 h2 h3
  go_enter Tryz.func15, Tryz.ntmps15
  go_wp2_with fail
  refine (H1.out _).mono ?_
  rintro e w1 ⟨rfl, hb1⟩
  have g1 : G w w1 := ((((G.refl w).alloc _).alloc _).alloc _).trans hb1
  obtain ⟨hc1, hf1⟩ := hb1.rules
  have hz1 : w.heap.size + 2 < w1.heap.size := by have := hb1.size; simp at this; omega
  have hz1a : w.heap.size < w1.heap.size := by omega
  have hz1b : w.heap.size + 1 < w1.heap.size := by omega
  go_wp2_with fail
  refine (H2.out _).mono ?_
  rintro e w2 ⟨rfl, hb2⟩
  have g2 : G w w2 := g1.trans hb2
  obtain ⟨hc2, hf2⟩ := hb2.rules
  have hz2 : w.heap.size + 2 < w2.heap.size := by have := hb2.size; omega
  have hz2a : w.heap.size < w2.heap.size := by omega
  have hz2b : w.heap.size + 1 < w2.heap.size := by omega
  go_wp2_with fail
  refine (H3.out _).mono ?_
  rintro e w3 ⟨rfl, hb3⟩
  have g3 : G w w3 := g2.trans hb3
  obtain ⟨hc3, hf3⟩ := hb3.rules
  go_wp2
  exact bodyPost_ret (v := .tuple #[V rk ra rb rs, .int .i64 c]) (by simp [results, Tryz.results15, go_sem, hc1, hc2, hc3, hz1, hz2]) rfl ⟨rfl, by
    repeat (first | exact g3 | refine G.alloc ?_ _ | refine G.setCell ?_ (by first | (simp; done) | (simp; omega)) _)⟩
set_option maxRecDepth 100000 in
set_option maxHeartbeats 1000000 in
theorem rB_9 (rk ra rb : Int) (rs : ByteArray) (c : Int) (k a b k' a' b' : Int) (s s' : ByteArray) (z : (k == 0) = false) (z' : (k' == 0) = false) (h1 : ∀ w, Calls Tryz.prog 27 #[V k a b s] w fun e w' => e = .returned (.bool true) ∧ G w w') (h2 : ∀ w, Calls Tryz.prog 27 #[V k' a' b' s'] w fun e w' => e = .returned (.bool true) ∧ G w w') (h3 : ∀ w, Calls Tryz.prog 42 #[.int .i64 9, V k a b s, V k' a' b' s'] w fun e w' => e = .returned (.tuple #[V rk ra rb rs, .int .i64 c]) ∧ G w w') (w : World) : Calls Tryz.prog 15 #[.int .i64 9, V k a b s, V k' a' b' s'] w fun e w' => e = .returned (.tuple #[V rk ra rb rs, .int .i64 c]) ∧ G w w' := by
  have H1 : Hid _ := h1
  have H2 : Hid _ := h2
  have H3 : Hid _ := h3
  clear h1 h2 h3
  go_enter Tryz.func15, Tryz.ntmps15
  go_wp2_with fail
  refine (H1.out _).mono ?_
  rintro e w1 ⟨rfl, hb1⟩
  have g1 : G w w1 := ((((G.refl w).alloc _).alloc _).alloc _).trans hb1
  obtain ⟨hc1, hf1⟩ := hb1.rules
  have hz1 : w.heap.size + 2 < w1.heap.size := by have := hb1.size; simp at this; omega
  have hz1a : w.heap.size < w1.heap.size := by omega
  have hz1b : w.heap.size + 1 < w1.heap.size := by omega
  go_wp2_with fail
  refine (H2.out _).mono ?_
  rintro e w2 ⟨rfl, hb2⟩
  have g2 : G w w2 := g1.trans hb2
  obtain ⟨hc2, hf2⟩ := hb2.rules
  have hz2 : w.heap.size + 2 < w2.heap.size := by have := hb2.size; omega
  have hz2a : w.heap.size < w2.heap.size := by omega
  have hz2b : w.heap.size + 1 < w2.heap.size := by omega
  go_wp2_with fail
  refine (H3.out _).mono ?_
  rintro e w3 ⟨rfl, hb3⟩
  have g3 : G w w3 := g2.trans hb3
  obtain ⟨hc3, hf3⟩ := hb3.rules
  go_wp2
  exact bodyPost_ret (v := .tuple #[V rk ra rb rs, .int .i64 c]) (by simp [results, Tryz.results15, go_sem, hc1, hc2, hc3, hz1, hz2]) rfl ⟨rfl, by
    repeat (first | exact g3 | refine G.alloc ?_ _ | refine G.setCell ?_ (by first | (simp; done) | (simp; omega)) _)⟩
set_option maxRecDepth 100000 in
set_option maxHeartbeats 1000000 in
theorem rB_10 (rk ra rb : Int) (rs : ByteArray) (c : Int) (k a b k' a' b' : Int) (s s' : ByteArray) (z : (k == 0) = false) (z' : (k' == 0) = false) (h1 : ∀ w, Calls Tryz.prog 27 #[V k a b s] w fun e w' => e = .returned (.bool true) ∧ G w w') (h2 : ∀ w, Calls Tryz.prog 27 #[V k' a' b' s'] w fun e w' => e = .returned (.bool true) ∧ G w w') (h3 : ∀ w, Calls Tryz.prog 42 #[.int .i64 10, V k a b s, V k' a' b' s'] w fun e w' => e = .returned (.tuple #[V rk ra rb rs, .int .i64 c]) ∧ G w w') (w : World) : Calls Tryz.prog 15 #[.int .i64 10, V k a b s, V k' a' b' s'] w fun e w' => e = .returned (.tuple #[V rk ra rb rs, .int .i64 c]) ∧ G w w' := by
  have H1 : Hid _ := h1
  have H2 : Hid _ := h2
  have H3 : Hid _ := h3
  clear h1 h2 h3
  go_enter Tryz.func15, Tryz.ntmps15
  go_wp2_with fail
  refine (H1.out _).mono ?_
  rintro e w1 ⟨rfl, hb1⟩
  have g1 : G w w1 := ((((G.refl w).alloc _).alloc _).alloc _).trans hb1
  obtain ⟨hc1, hf1⟩ := hb1.rules
  have hz1 : w.heap.size + 2 < w1.heap.size := by have := hb1.size; simp at this; omega
  have hz1a : w.heap.size < w1.heap.size := by omega
  have hz1b : w.heap.size + 1 < w1.heap.size := by omega
  go_wp2_with fail
  refine (H2.out _).mono ?_
  rintro e w2 ⟨rfl, hb2⟩
  have g2 : G w w2 := g1.trans hb2
  obtain ⟨hc2, hf2⟩ := hb2.rules
  have hz2 : w.heap.size + 2 < w2.heap.size := by have := hb2.size; omega
  have hz2a : w.heap.size < w2.heap.size := by omega
  have hz2b : w.heap.size + 1 < w2.heap.size := by omega
  go_wp2_with fail
  refine (H3.out _).mono ?_
  rintro e w3 ⟨rfl, hb3⟩
  have g3 : G w w3 := g2.trans hb3
  obtain ⟨hc3, hf3⟩ := hb3.rules
  go_wp2
  exact bodyPost_ret (v := .tuple #[V rk ra rb rs, .int .i64 c]) (by simp [results, Tryz.results15, go_sem, hc1, hc2, hc3, hz1, hz2]) rfl ⟨rfl, by
    repeat (first | exact g3 | refine G.alloc ?_ _ | refine G.setCell ?_ (by first | (simp; done) | (simp; omega)) _)⟩
set_option maxRecDepth 100000 in
set_option maxHeartbeats 1000000 in
theorem rB_11 (rk ra rb : Int) (rs : ByteArray) (c : Int) (k a b k' a' b' : Int) (s s' : ByteArray) (z : (k == 0) = false) (z' : (k' == 0) = false) (h1 : ∀ w, Calls Tryz.prog 27 #[V k a b s] w fun e w' => e = .returned (.bool true) ∧ G w w') (h2 : ∀ w, Calls Tryz.prog 27 #[V k' a' b' s'] w fun e w' => e = .returned (.bool true) ∧ G w w') (h3 : ∀ w, Calls Tryz.prog 42 #[.int .i64 11, V k a b s, V k' a' b' s'] w fun e w' => e = .returned (.tuple #[V rk ra rb rs, .int .i64 c]) ∧ G w w') (w : World) : Calls Tryz.prog 15 #[.int .i64 11, V k a b s, V k' a' b' s'] w fun e w' => e = .returned (.tuple #[V rk ra rb rs, .int .i64 c]) ∧ G w w' := by
  have H1 : Hid _ := h1
  have H2 : Hid _ := h2
  have H3 : Hid _ := h3
  clear h1 h2 h3
  go_enter Tryz.func15, Tryz.ntmps15
  go_wp2_with fail
  refine (H1.out _).mono ?_
  rintro e w1 ⟨rfl, hb1⟩
  have g1 : G w w1 := ((((G.refl w).alloc _).alloc _).alloc _).trans hb1
  obtain ⟨hc1, hf1⟩ := hb1.rules
  have hz1 : w.heap.size + 2 < w1.heap.size := by have := hb1.size; simp at this; omega
  have hz1a : w.heap.size < w1.heap.size := by omega
  have hz1b : w.heap.size + 1 < w1.heap.size := by omega
  go_wp2_with fail
  refine (H2.out _).mono ?_
  rintro e w2 ⟨rfl, hb2⟩
  have g2 : G w w2 := g1.trans hb2
  obtain ⟨hc2, hf2⟩ := hb2.rules
  have hz2 : w.heap.size + 2 < w2.heap.size := by have := hb2.size; omega
  have hz2a : w.heap.size < w2.heap.size := by omega
  have hz2b : w.heap.size + 1 < w2.heap.size := by omega
  go_wp2_with fail
  refine (H3.out _).mono ?_
  rintro e w3 ⟨rfl, hb3⟩
  have g3 : G w w3 := g2.trans hb3
  obtain ⟨hc3, hf3⟩ := hb3.rules
  go_wp2
  exact bodyPost_ret (v := .tuple #[V rk ra rb rs, .int .i64 c]) (by simp [results, Tryz.results15, go_sem, hc1, hc2, hc3, hz1, hz2]) rfl ⟨rfl, by
    repeat (first | exact g3 | refine G.alloc ?_ _ | refine G.setCell ?_ (by first | (simp; done) | (simp; omega)) _)⟩
set_option maxRecDepth 100000 in
set_option maxHeartbeats 1000000 in
theorem rB_15 (rk ra rb : Int) (rs : ByteArray) (c : Int) (k a b k' a' b' : Int) (s s' : ByteArray) (z : (k == 0) = false) (z' : (k' == 0) = false) (h1 : ∀ w, Calls Tryz.prog 27 #[V k a b s] w fun e w' => e = .returned (.bool true) ∧ G w w') (h2 : ∀ w, Calls Tryz.prog 27 #[V k' a' b' s'] w fun e w' => e = .returned (.bool true) ∧ G w w') (h3 : ∀ w, Calls Tryz.prog 43 #[.int .i64 15, V k a b s, V k' a' b' s'] w fun e w' => e = .returned (.tuple #[V rk ra rb rs, .int .i64 c]) ∧ G w w') (w : World) : Calls Tryz.prog 15 #[.int .i64 15, V k a b s, V k' a' b' s'] w fun e w' => e = .returned (.tuple #[V rk ra rb rs, .int .i64 c]) ∧ G w w' := by
  have H1 : Hid _ := h1
  have H2 : Hid _ := h2
  have H3 : Hid _ := h3
  clear h1 h2 h3
  go_enter Tryz.func15, Tryz.ntmps15
  go_wp2_with fail
  refine (H1.out _).mono ?_
  rintro e w1 ⟨rfl, hb1⟩
  have g1 : G w w1 := ((((G.refl w).alloc _).alloc _).alloc _).trans hb1
  obtain ⟨hc1, hf1⟩ := hb1.rules
  have hz1 : w.heap.size + 2 < w1.heap.size := by have := hb1.size; simp at this; omega
  have hz1a : w.heap.size < w1.heap.size := by omega
  have hz1b : w.heap.size + 1 < w1.heap.size := by omega
  go_wp2_with fail
  refine (H2.out _).mono ?_
  rintro e w2 ⟨rfl, hb2⟩
  have g2 : G w w2 := g1.trans hb2
  obtain ⟨hc2, hf2⟩ := hb2.rules
  have hz2 : w.heap.size + 2 < w2.heap.size := by have := hb2.size; omega
  have hz2a : w.heap.size < w2.heap.size := by omega
  have hz2b : w.heap.size + 1 < w2.heap.size := by omega
  go_wp2_with fail
  refine (H3.out _).mono ?_
  rintro e w3 ⟨rfl, hb3⟩
  have g3 : G w w3 := g2.trans hb3
  obtain ⟨hc3, hf3⟩ := hb3.rules
  go_wp2
  exact bodyPost_ret (v := .tuple #[V rk ra rb rs, .int .i64 c]) (by simp [results, Tryz.results15, go_sem, hc1, hc2, hc3, hz1, hz2]) rfl ⟨rfl, by
    repeat (first | exact g3 | refine G.alloc ?_ _ | refine G.setCell ?_ (by first | (simp; done) | (simp; omega)) _)⟩
set_option maxRecDepth 100000 in
set_option maxHeartbeats 1000000 in
theorem rB_17 (rk ra rb : Int) (rs : ByteArray) (c : Int) (k a b k' a' b' : Int) (s s' : ByteArray) (z : (k == 0) = false) (z' : (k' == 0) = false) (h1 : ∀ w, Calls Tryz.prog 27 #[V k a b s] w fun e w' => e = .returned (.bool true) ∧ G w w') (h2 : ∀ w, Calls Tryz.prog 27 #[V k' a' b' s'] w fun e w' => e = .returned (.bool true) ∧ G w w') (h3 : ∀ w, Calls Tryz.prog 43 #[.int .i64 17, V k a b s, V k' a' b' s'] w fun e w' => e = .returned (.tuple #[V rk ra rb rs, .int .i64 c]) ∧ G w w') (w : World) : Calls Tryz.prog 15 #[.int .i64 17, V k a b s, V k' a' b' s'] w fun e w' => e = .returned (.tuple #[V rk ra rb rs, .int .i64 c]) ∧ G w w' := by
  have H1 : Hid _ := h1
  have H2 : Hid _ := h2
  have H3 : Hid _ := h3
  clear h1 h2 h3
  go_enter Tryz.func15, Tryz.ntmps15
  go_wp2_with fail
  refine (H1.out _).mono ?_
  rintro e w1 ⟨rfl, hb1⟩
  have g1 : G w w1 := ((((G.refl w).alloc _).alloc _).alloc _).trans hb1
  obtain ⟨hc1, hf1⟩ := hb1.rules
  have hz1 : w.heap.size + 2 < w1.heap.size := by have := hb1.size; simp at this; omega
  have hz1a : w.heap.size < w1.heap.size := by omega
  have hz1b : w.heap.size + 1 < w1.heap.size := by omega
  go_wp2_with fail
  refine (H2.out _).mono ?_
  rintro e w2 ⟨rfl, hb2⟩
  have g2 : G w w2 := g1.trans hb2
  obtain ⟨hc2, hf2⟩ := hb2.rules
  have hz2 : w.heap.size + 2 < w2.heap.size := by have := hb2.size; omega
  have hz2a : w.heap.size < w2.heap.size := by omega
  have hz2b : w.heap.size + 1 < w2.heap.size := by omega
  go_wp2_with fail
  refine (H3.out _).mono ?_
  rintro e w3 ⟨rfl, hb3⟩
  have g3 : G w w3 := g2.trans hb3
  obtain ⟨hc3, hf3⟩ := hb3.rules
  go_wp2
  exact bodyPost_ret (v := .tuple #[V rk ra rb rs, .int .i64 c]) (by simp [results, Tryz.results15, go_sem, hc1, hc2, hc3, hz1, hz2]) rfl ⟨rfl, by
    repeat (first | exact g3 | refine G.alloc ?_ _ | refine G.setCell ?_ (by first | (simp; done) | (simp; omega)) _)⟩
set_option maxRecDepth 100000 in
set_option maxHeartbeats 1000000 in
theorem rB_18 (rk ra rb : Int) (rs : ByteArray) (c : Int) (k a b k' a' b' : Int) (s s' : ByteArray) (z : (k == 0) = false) (z' : (k' == 0) = false) (h1 : ∀ w, Calls Tryz.prog 27 #[V k a b s] w fun e w' => e = .returned (.bool true) ∧ G w w') (h2 : ∀ w, Calls Tryz.prog 27 #[V k' a' b' s'] w fun e w' => e = .returned (.bool true) ∧ G w w') (h3 : ∀ w, Calls Tryz.prog 43 #[.int .i64 18, V k a b s, V k' a' b' s'] w fun e w' => e = .returned (.tuple #[V rk ra rb rs, .int .i64 c]) ∧ G w w') (w : World) : Calls Tryz.prog 15 #[.int .i64 18, V k a b s, V k' a' b' s'] w fun e w' => e = .returned (.tuple #[V rk ra rb rs, .int .i64 c]) ∧ G w w' := by
  have H1 : Hid _ := h1
  have H2 : Hid _ := h2
  have H3 : Hid _ := h3
  clear h1 h2 h3
  go_enter Tryz.func15, Tryz.ntmps15
  go_wp2_with fail
  refine (H1.out _).mono ?_
  rintro e w1 ⟨rfl, hb1⟩
  have g1 : G w w1 := ((((G.refl w).alloc _).alloc _).alloc _).trans hb1
  obtain ⟨hc1, hf1⟩ := hb1.rules
  have hz1 : w.heap.size + 2 < w1.heap.size := by have := hb1.size; simp at this; omega
  have hz1a : w.heap.size < w1.heap.size := by omega
  have hz1b : w.heap.size + 1 < w1.heap.size := by omega
  go_wp2_with fail
  refine (H2.out _).mono ?_
  rintro e w2 ⟨rfl, hb2⟩
  have g2 : G w w2 := g1.trans hb2
  obtain ⟨hc2, hf2⟩ := hb2.rules
  have hz2 : w.heap.size + 2 < w2.heap.size := by have := hb2.size; omega
  have hz2a : w.heap.size < w2.heap.size := by omega
  have hz2b : w.heap.size + 1 < w2.heap.size := by omega
  go_wp2_with fail
  refine (H3.out _).mono ?_
  rintro e w3 ⟨rfl, hb3⟩
  have g3 : G w w3 := g2.trans hb3
  obtain ⟨hc3, hf3⟩ := hb3.rules
  go_wp2
  exact bodyPost_ret (v := .tuple #[V rk ra rb rs, .int .i64 c]) (by simp [results, Tryz.results15, go_sem, hc1, hc2, hc3, hz1, hz2]) rfl ⟨rfl, by
    repeat (first | exact g3 | refine G.alloc ?_ _ | refine G.setCell ?_ (by first | (simp; done) | (simp; omega)) _)⟩
set_option maxRecDepth 100000 in
set_option maxHeartbeats 1000000 in
theorem rB_16 (rk ra rb : Int) (rs : ByteArray) (c : Int) (k a b k' a' b' : Int) (s s' : ByteArray) (z : (k == 0) = false) (z' : (k' == 0) = false) (h1 : ∀ w, Calls Tryz.prog 27 #[V k a b s] w fun e w' => e = .returned (.bool true) ∧ G w w') (h2 : ∀ w, Calls Tryz.prog 27 #[V k' a' b' s'] w fun e w' => e = .returned (.bool true) ∧ G w w') (h3 : ∀ w, Calls Tryz.prog 44 #[V k a b s, V k' a' b' s'] w fun e w' => e = .returned (.tuple #[V rk ra rb rs, .int .i64 c]) ∧ G w w') (w : World) : Calls Tryz.prog 15 #[.int .i64 16, V k a b s, V k' a' b' s'] w fun e w' => e = .returned (.tuple #[V rk ra rb rs, .int .i64 c]) ∧ G w w' := by
  have H1 : Hid _ := h1
  have H2 : Hid _ := h2
  have H3 : Hid _ := h3
  clear h1 h2 h3
  go_enter Tryz.func15, Tryz.ntmps15
  go_wp2_with fail
  refine (H1.out _).mono ?_
  rintro e w1 ⟨rfl, hb1⟩
  have g1 : G w w1 := ((((G.refl w).alloc _).alloc _).alloc _).trans hb1
  obtain ⟨hc1, hf1⟩ := hb1.rules
  have hz1 : w.heap.size + 2 < w1.heap.size := by have := hb1.size; simp at this; omega
  have hz1a : w.heap.size < w1.heap.size := by omega
  have hz1b : w.heap.size + 1 < w1.heap.size := by omega
  go_wp2_with fail
  refine (H2.out _).mono ?_
  rintro e w2 ⟨rfl, hb2⟩
  have g2 : G w w2 := g1.trans hb2
  obtain ⟨hc2, hf2⟩ := hb2.rules
  have hz2 : w.heap.size + 2 < w2.heap.size := by have := hb2.size; omega
  have hz2a : w.heap.size < w2.heap.size := by omega
  have hz2b : w.heap.size + 1 < w2.heap.size := by omega
  go_wp2_with fail
  refine (H3.out _).mono ?_
  rintro e w3 ⟨rfl, hb3⟩
  have g3 : G w w3 := g2.trans hb3
  obtain ⟨hc3, hf3⟩ := hb3.rules
  go_wp2
  exact bodyPost_ret (v := .tuple #[V rk ra rb rs, .int .i64 c]) (by simp [results, Tryz.results15, go_sem, hc1, hc2, hc3, hz1, hz2]) rfl ⟨rfl, by
    repeat (first | exact g3 | refine G.alloc ?_ _ | refine G.setCell ?_ (by first | (simp; done) | (simp; omega)) _)⟩
set_option maxRecDepth 100000 in
set_option maxHeartbeats 1000000 in
theorem rB_1 (rk ra rb : Int) (rs : ByteArray) (c : Int) (k a b k' a' b' : Int) (s s' : ByteArray) (z : (k == 0) = false) (z' : (k' == 0) = false) (h1 : ∀ w, Calls Tryz.prog 27 #[V k a b s] w fun e w' => e = .returned (.bool true) ∧ G w w') (h2 : ∀ w, Calls Tryz.prog 27 #[V k' a' b' s'] w fun e w' => e = .returned (.bool true) ∧ G w w') (h3 : ∀ w, Calls Tryz.prog 45 #[.int .i64 1, V k a b s, V k' a' b' s'] w fun e w' => e = .returned (.tuple #[V rk ra rb rs, .int .i64 c]) ∧ G w w') (w : World) : Calls Tryz.prog 15 #[.int .i64 1, V k a b s, V k' a' b' s'] w fun e w' => e = .returned (.tuple #[V rk ra rb rs, .int .i64 c]) ∧ G w w' := by
  have H1 : Hid _ := h1
  have H2 : Hid _ := h2
  have H3 : Hid _ := h3
  clear h1 h2 h3
  go_enter Tryz.func15, Tryz.ntmps15
  go_wp2_with fail
  refine (H1.out _).mono ?_
  rintro e w1 ⟨rfl, hb1⟩
  have g1 : G w w1 := ((((G.refl w).alloc _).alloc _).alloc _).trans hb1
  obtain ⟨hc1, hf1⟩ := hb1.rules
  have hz1 : w.heap.size + 2 < w1.heap.size := by have := hb1.size; simp at this; omega
  have hz1a : w.heap.size < w1.heap.size := by omega
  have hz1b : w.heap.size + 1 < w1.heap.size := by omega
  go_wp2_with fail
  refine (H2.out _).mono ?_
  rintro e w2 ⟨rfl, hb2⟩
  have g2 : G w w2 := g1.trans hb2
  obtain ⟨hc2, hf2⟩ := hb2.rules
  have hz2 : w.heap.size + 2 < w2.heap.size := by have := hb2.size; omega
  have hz2a : w.heap.size < w2.heap.size := by omega
  have hz2b : w.heap.size + 1 < w2.heap.size := by omega
  go_wp2_with fail
  refine (H3.out _).mono ?_
  rintro e w3 ⟨rfl, hb3⟩
  have g3 : G w w3 := g2.trans hb3
  obtain ⟨hc3, hf3⟩ := hb3.rules
  go_wp2
  exact bodyPost_ret (v := .tuple #[V rk ra rb rs, .int .i64 c]) (by simp [results, Tryz.results15, go_sem, hc1, hc2, hc3, hz1, hz2]) rfl ⟨rfl, by
    repeat (first | exact g3 | refine G.alloc ?_ _ | refine G.setCell ?_ (by first | (simp; done) | (simp; omega)) _)⟩
set_option maxRecDepth 100000 in
set_option maxHeartbeats 1000000 in
theorem rB_2 (rk ra rb : Int) (rs : ByteArray) (c : Int) (k a b k' a' b' : Int) (s s' : ByteArray) (z : (k == 0) = false) (z' : (k' == 0) = false) (h1 : ∀ w, Calls Tryz.prog 27 #[V k a b s] w fun e w' => e = .returned (.bool true) ∧ G w w') (h2 : ∀ w, Calls Tryz.prog 27 #[V k' a' b' s'] w fun e w' => e = .returned (.bool true) ∧ G w w') (h3 : ∀ w, Calls Tryz.prog 45 #[.int .i64 2, V k a b s, V k' a' b' s'] w fun e w' => e = .returned (.tuple #[V rk ra rb rs, .int .i64 c]) ∧ G w w') (w : World) : Calls Tryz.prog 15 #[.int .i64 2, V k a b s, V k' a' b' s'] w fun e w' => e = .returned (.tuple #[V rk ra rb rs, .int .i64 c]) ∧ G w w' := by
  have H1 : Hid _ := h1
  have H2 : Hid _ := h2
  have H3 : Hid _ := h3
  clear h1 h2 h3
  go_enter Tryz.func15, Tryz.ntmps15
  go_wp2_with fail
  refine (H1.out _).mono ?_
  rintro e w1 ⟨rfl, hb1⟩
  have g1 : G w w1 := ((((G.refl w).alloc _).alloc _).alloc _).trans hb1
  obtain ⟨hc1, hf1⟩ := hb1.rules
  have hz1 : w.heap.size + 2 < w1.heap.size := by have := hb1.size; simp at this; omega
  have hz1a : w.heap.size < w1.heap.size := by omega
  have hz1b : w.heap.size + 1 < w1.heap.size := by omega
  go_wp2_with fail
  refine (H2.out _).mono ?_
  rintro e w2 ⟨rfl, hb2⟩
  have g2 : G w w2 := g1.trans hb2
  obtain ⟨hc2, hf2⟩ := hb2.rules
  have hz2 : w.heap.size + 2 < w2.heap.size := by have := hb2.size; omega
  have hz2a : w.heap.size < w2.heap.size := by omega
  have hz2b : w.heap.size + 1 < w2.heap.size := by omega
  go_wp2_with fail
  refine (H3.out _).mono ?_
  rintro e w3 ⟨rfl, hb3⟩
  have g3 : G w w3 := g2.trans hb3
  obtain ⟨hc3, hf3⟩ := hb3.rules
  go_wp2
  exact bodyPost_ret (v := .tuple #[V rk ra rb rs, .int .i64 c]) (by simp [results, Tryz.results15, go_sem, hc1, hc2, hc3, hz1, hz2]) rfl ⟨rfl, by
    repeat (first | exact g3 | refine G.alloc ?_ _ | refine G.setCell ?_ (by first | (simp; done) | (simp; omega)) _)⟩
set_option maxRecDepth 100000 in
set_option maxHeartbeats 1000000 in
theorem rB_3 (rk ra rb : Int) (rs : ByteArray) (c : Int) (k a b k' a' b' : Int) (s s' : ByteArray) (z : (k == 0) = false) (z' : (k' == 0) = false) (h1 : ∀ w, Calls Tryz.prog 27 #[V k a b s] w fun e w' => e = .returned (.bool true) ∧ G w w') (h2 : ∀ w, Calls Tryz.prog 27 #[V k' a' b' s'] w fun e w' => e = .returned (.bool true) ∧ G w w') (h3 : ∀ w, Calls Tryz.prog 45 #[.int .i64 3, V k a b s, V k' a' b' s'] w fun e w' => e = .returned (.tuple #[V rk ra rb rs, .int .i64 c]) ∧ G w w') (w : World) : Calls Tryz.prog 15 #[.int .i64 3, V k a b s, V k' a' b' s'] w fun e w' => e = .returned (.tuple #[V rk ra rb rs, .int .i64 c]) ∧ G w w' := by
  have H1 : Hid _ := h1
  have H2 : Hid _ := h2
  have H3 : Hid _ := h3
  clear h1 h2 h3
  go_enter Tryz.func15, Tryz.ntmps15
  go_wp2_with fail
  refine (H1.out _).mono ?_
  rintro e w1 ⟨rfl, hb1⟩
  have g1 : G w w1 := ((((G.refl w).alloc _).alloc _).alloc _).trans hb1
  obtain ⟨hc1, hf1⟩ := hb1.rules
  have hz1 : w.heap.size + 2 < w1.heap.size := by have := hb1.size; simp at this; omega
  have hz1a : w.heap.size < w1.heap.size := by omega
  have hz1b : w.heap.size + 1 < w1.heap.size := by omega
  go_wp2_with fail
  refine (H2.out _).mono ?_
  rintro e w2 ⟨rfl, hb2⟩
  have g2 : G w w2 := g1.trans hb2
  obtain ⟨hc2, hf2⟩ := hb2.rules
  have hz2 : w.heap.size + 2 < w2.heap.size := by have := hb2.size; omega
  have hz2a : w.heap.size < w2.heap.size := by omega
  have hz2b : w.heap.size + 1 < w2.heap.size := by omega
  go_wp2_with fail
  refine (H3.out _).mono ?_
  rintro e w3 ⟨rfl, hb3⟩
  have g3 : G w w3 := g2.trans hb3
  obtain ⟨hc3, hf3⟩ := hb3.rules
  go_wp2
  exact bodyPost_ret (v := .tuple #[V rk ra rb rs, .int .i64 c]) (by simp [results, Tryz.results15, go_sem, hc1, hc2, hc3, hz1, hz2]) rfl ⟨rfl, by
    repeat (first | exact g3 | refine G.alloc ?_ _ | refine G.setCell ?_ (by first | (simp; done) | (simp; omega)) _)⟩
set_option maxRecDepth 100000 in
set_option maxHeartbeats 1000000 in
theorem rB_4 (rk ra rb : Int) (rs : ByteArray) (c : Int) (k a b k' a' b' : Int) (s s' : ByteArray) (z : (k == 0) = false) (z' : (k' == 0) = false) (h1 : ∀ w, Calls Tryz.prog 27 #[V k a b s] w fun e w' => e = .returned (.bool true) ∧ G w w') (h2 : ∀ w, Calls Tryz.prog 27 #[V k' a' b' s'] w fun e w' => e = .returned (.bool true) ∧ G w w') (h3 : ∀ w, Calls Tryz.prog 45 #[.int .i64 4, V k a b s, V k' a' b' s'] w fun e w' => e = .returned (.tuple #[V rk ra rb rs, .int .i64 c]) ∧ G w w') (w : World) : Calls Tryz.prog 15 #[.int .i64 4, V k a b s, V k' a' b' s'] w fun e w' => e = .returned (.tuple #[V rk ra rb rs, .int .i64 c]) ∧ G w w' := by
  have H1 : Hid _ := h1
  have H2 : Hid _ := h2
  have H3 : Hid _ := h3
  clear h1 h2 h3
  go_enter Tryz.func15, Tryz.ntmps15
  go_wp2_with fail
  refine (H1.out _).mono ?_
  rintro e w1 ⟨rfl, hb1⟩
  have g1 : G w w1 := ((((G.refl w).alloc _).alloc _).alloc _).trans hb1
  obtain ⟨hc1, hf1⟩ := hb1.rules
  have hz1 : w.heap.size + 2 < w1.heap.size := by have := hb1.size; simp at this; omega
  have hz1a : w.heap.size < w1.heap.size := by omega
  have hz1b : w.heap.size + 1 < w1.heap.size := by omega
  go_wp2_with fail
  refine (H2.out _).mono ?_
  rintro e w2 ⟨rfl, hb2⟩
  have g2 : G w w2 := g1.trans hb2
  obtain ⟨hc2, hf2⟩ := hb2.rules
  have hz2 : w.heap.size + 2 < w2.heap.size := by have := hb2.size; omega
  have hz2a : w.heap.size < w2.heap.size := by omega
  have hz2b : w.heap.size + 1 < w2.heap.size := by omega
  go_wp2_with fail
  refine (H3.out _).mono ?_
  rintro e w3 ⟨rfl, hb3⟩
  have g3 : G w w3 := g2.trans hb3
  obtain ⟨hc3, hf3⟩ := hb3.rules
  go_wp2
  exact bodyPost_ret (v := .tuple #[V rk ra rb rs, .int .i64 c]) (by simp [results, Tryz.results15, go_sem, hc1, hc2, hc3, hz1, hz2]) rfl ⟨rfl, by
    repeat (first | exact g3 | refine G.alloc ?_ _ | refine G.setCell ?_ (by first | (simp; done) | (simp; omega)) _)⟩
set_option maxRecDepth 100000 in
set_option maxHeartbeats 1000000 in
theorem rB_5 (rk ra rb : Int) (rs : ByteArray) (c : Int) (k a b k' a' b' : Int) (s s' : ByteArray) (z : (k == 0) = false) (z' : (k' == 0) = false) (h1 : ∀ w, Calls Tryz.prog 27 #[V k a b s] w fun e w' => e = .returned (.bool true) ∧ G w w') (h2 : ∀ w, Calls Tryz.prog 27 #[V k' a' b' s'] w fun e w' => e = .returned (.bool true) ∧ G w w') (h3 : ∀ w, Calls Tryz.prog 45 #[.int .i64 5, V k a b s, V k' a' b' s'] w fun e w' => e = .returned (.tuple #[V rk ra rb rs, .int .i64 c]) ∧ G w w') (w : World) : Calls Tryz.prog 15 #[.int .i64 5, V k a b s, V k' a' b' s'] w fun e w' => e = .returned (.tuple #[V rk ra rb rs, .int .i64 c]) ∧ G w w' := by
  have H1 : Hid _ := h1
  have H2 : Hid _ := h2
  have H3 : Hid _ := h3
  clear h1 h2 h3
  go_enter Tryz.func15, Tryz.ntmps15
  go_wp2_with fail
  refine (H1.out _).mono ?_
  rintro e w1 ⟨rfl, hb1⟩
  have g1 : G w w1 := ((((G.refl w).alloc _).alloc _).alloc _).trans hb1
  obtain ⟨hc1, hf1⟩ := hb1.rules
  have hz1 : w.heap.size + 2 < w1.heap.size := by have := hb1.size; simp at this; omega
  have hz1a : w.heap.size < w1.heap.size := by omega
  have hz1b : w.heap.size + 1 < w1.heap.size := by omega
  go_wp2_with fail
  refine (H2.out _).mono ?_
  rintro e w2 ⟨rfl, hb2⟩
  have g2 : G w w2 := g1.trans hb2
  obtain ⟨hc2, hf2⟩ := hb2.rules
  have hz2 : w.heap.size + 2 < w2.heap.size := by have := hb2.size; omega
  have hz2a : w.heap.size < w2.heap.size := by omega
  have hz2b : w.heap.size + 1 < w2.heap.size := by omega
  go_wp2_with fail
  refine (H3.out _).mono ?_
  rintro e w3 ⟨rfl, hb3⟩
  have g3 : G w w3 := g2.trans hb3
  obtain ⟨hc3, hf3⟩ := hb3.rules
  go_wp2
  exact bodyPost_ret (v := .tuple #[V rk ra rb rs, .int .i64 c]) (by simp [results, Tryz.results15, go_sem, hc1, hc2, hc3, hz1, hz2]) rfl ⟨rfl, by
    repeat (first | exact g3 | refine G.alloc ?_ _ | refine G.setCell ?_ (by first | (simp; done) | (simp; omega)) _)⟩
end Go.Proofs.YtnoajhegcjoebabGreatDoor
