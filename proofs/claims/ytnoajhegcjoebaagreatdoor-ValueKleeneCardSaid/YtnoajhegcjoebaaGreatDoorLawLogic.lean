/- trellislaw1.logic, out of Binary. -/
import Derived.Test.YtnoajhegcjoebaaGreatDoorLogic
namespace Go.Proofs.YtnoajhegcjoebaaGreatDoor
open Go.RowKit

set_option maxRecDepth 100000 in
set_option maxHeartbeats 1000000 in
theorem lawlogic_0 (op k1 a1 b1 k2 a2 b2 : Int) (s1 s2 : ByteArray) (a3 b3 : Int) (s3 : ByteArray)
    (h3 : ∀ w, Calls Tryz.prog 14 #[.int .i64 op, V k1 a1 b1 s1, V k2 a2 b2 s2] w fun e w' => e = .returned (.tuple #[V 0 a3 b3 s3, .int .i64 0]) ∧ G w w') (w : World) :
    Calls Tryz.prog 22 #[.int .i64 op, V k1 a1 b1 s1, V k2 a2 b2 s2] w fun e w' => e = .returned (.tuple #[V 0 a3 b3 s3, .bool true]) ∧ G w w' := by
  have H3 : Hid _ := h3
  clear h3
  go_enter Tryz.func22, Tryz.ntmps22
  go_wp2_with fail
  refine (H3.out _).mono ?_
  rintro e w1 ⟨rfl, hb1⟩
  obtain ⟨hc1, hf1⟩ := hb1.rules
  have hz1 : w.heap.size + 2 < w1.heap.size := by have := hb1.size; simp at this; omega
  go_wp2
  go_region
  go_wp2
  exact bodyPost_ret (v := .tuple #[V 0 a3 b3 s3, .bool true]) (by simp [results, Tryz.results22, go_sem, hc1, hz1]) rfl ⟨rfl, by
    have g4 : G w w1 := ((((G.refl w).alloc _).alloc _).alloc _).trans hb1
    repeat (first | exact g4 | refine G.drew ?_ | refine G.alloc ?_ _ | refine G.setCell ?_ (by first | (simp; done) | (simp; omega)) _)⟩
set_option maxRecDepth 100000 in
set_option maxHeartbeats 1000000 in
theorem lawlogic_1 (op k1 a1 b1 k2 a2 b2 : Int) (s1 s2 : ByteArray) (a3 b3 : Int) (s3 : ByteArray)
    (h3 : ∀ w, Calls Tryz.prog 14 #[.int .i64 op, V k1 a1 b1 s1, V k2 a2 b2 s2] w fun e w' => e = .returned (.tuple #[V 1 a3 b3 s3, .int .i64 0]) ∧ G w w') (w : World) :
    Calls Tryz.prog 22 #[.int .i64 op, V k1 a1 b1 s1, V k2 a2 b2 s2] w fun e w' => e = .returned (.tuple #[V 1 a3 b3 s3, .bool true]) ∧ G w w' := by
  have H3 : Hid _ := h3
  clear h3
  go_enter Tryz.func22, Tryz.ntmps22
  go_wp2_with fail
  refine (H3.out _).mono ?_
  rintro e w1 ⟨rfl, hb1⟩
  obtain ⟨hc1, hf1⟩ := hb1.rules
  have hz1 : w.heap.size + 2 < w1.heap.size := by have := hb1.size; simp at this; omega
  go_wp2
  go_region
  go_wp2
  exact bodyPost_ret (v := .tuple #[V 1 a3 b3 s3, .bool true]) (by simp [results, Tryz.results22, go_sem, hc1, hz1]) rfl ⟨rfl, by
    have g4 : G w w1 := ((((G.refl w).alloc _).alloc _).alloc _).trans hb1
    repeat (first | exact g4 | refine G.drew ?_ | refine G.alloc ?_ _ | refine G.setCell ?_ (by first | (simp; done) | (simp; omega)) _)⟩
theorem three_b (n : Int) (h : n = 0 ∨ n = 1) (w : World) : Calls Tryz.prog 8 #[.int .i64 n] w fun e w' => e = .returned (V 1 n 0 E0) ∧ G w w' := by
  rcases h with rfl | rfl
  · exact three_0 w
  · exact three_1 w
theorem ll_12_00 (w : World) : Calls Tryz.prog 22 #[.int .i64 12, V 1 0 0 E0, V 1 0 0 E0] w fun e w' => e = .returned (.tuple #[V 1 0 0 E0, .bool true]) ∧ G w w' :=
  lawlogic_1 12 _ _ _ _ _ _ _ _ _ _ _ Bin_12_00 w
theorem ll_12_01 (w : World) : Calls Tryz.prog 22 #[.int .i64 12, V 1 0 0 E0, V 1 1 0 E0] w fun e w' => e = .returned (.tuple #[V 1 0 0 E0, .bool true]) ∧ G w w' :=
  lawlogic_1 12 _ _ _ _ _ _ _ _ _ _ _ Bin_12_01 w
theorem ll_12_02 (w : World) : Calls Tryz.prog 22 #[.int .i64 12, V 1 0 0 E0, V 0 0 0 E0] w fun e w' => e = .returned (.tuple #[V 1 0 0 E0, .bool true]) ∧ G w w' :=
  lawlogic_1 12 _ _ _ _ _ _ _ _ _ _ _ Bin_12_02 w
theorem ll_12_10 (w : World) : Calls Tryz.prog 22 #[.int .i64 12, V 1 1 0 E0, V 1 0 0 E0] w fun e w' => e = .returned (.tuple #[V 1 0 0 E0, .bool true]) ∧ G w w' :=
  lawlogic_1 12 _ _ _ _ _ _ _ _ _ _ _ Bin_12_10 w
theorem ll_12_11 (w : World) : Calls Tryz.prog 22 #[.int .i64 12, V 1 1 0 E0, V 1 1 0 E0] w fun e w' => e = .returned (.tuple #[V 1 1 0 E0, .bool true]) ∧ G w w' :=
  lawlogic_1 12 _ _ _ _ _ _ _ _ _ _ _ Bin_12_11 w
theorem ll_12_12 (w : World) : Calls Tryz.prog 22 #[.int .i64 12, V 1 1 0 E0, V 0 0 0 E0] w fun e w' => e = .returned (.tuple #[V 0 0 0 E0, .bool true]) ∧ G w w' :=
  lawlogic_0 12 _ _ _ _ _ _ _ _ _ _ _ Bin_12_12 w
theorem ll_12_20 (w : World) : Calls Tryz.prog 22 #[.int .i64 12, V 0 0 0 E0, V 1 0 0 E0] w fun e w' => e = .returned (.tuple #[V 1 0 0 E0, .bool true]) ∧ G w w' :=
  lawlogic_1 12 _ _ _ _ _ _ _ _ _ _ _ Bin_12_20 w
theorem ll_12_21 (w : World) : Calls Tryz.prog 22 #[.int .i64 12, V 0 0 0 E0, V 1 1 0 E0] w fun e w' => e = .returned (.tuple #[V 0 0 0 E0, .bool true]) ∧ G w w' :=
  lawlogic_0 12 _ _ _ _ _ _ _ _ _ _ _ Bin_12_21 w
theorem ll_12_22 (w : World) : Calls Tryz.prog 22 #[.int .i64 12, V 0 0 0 E0, V 0 0 0 E0] w fun e w' => e = .returned (.tuple #[V 0 0 0 E0, .bool true]) ∧ G w w' :=
  lawlogic_0 12 _ _ _ _ _ _ _ _ _ _ _ Bin_12_22 w
theorem ll_13_00 (w : World) : Calls Tryz.prog 22 #[.int .i64 13, V 1 0 0 E0, V 1 0 0 E0] w fun e w' => e = .returned (.tuple #[V 1 0 0 E0, .bool true]) ∧ G w w' :=
  lawlogic_1 13 _ _ _ _ _ _ _ _ _ _ _ Bin_13_00 w
theorem ll_13_01 (w : World) : Calls Tryz.prog 22 #[.int .i64 13, V 1 0 0 E0, V 1 1 0 E0] w fun e w' => e = .returned (.tuple #[V 1 1 0 E0, .bool true]) ∧ G w w' :=
  lawlogic_1 13 _ _ _ _ _ _ _ _ _ _ _ Bin_13_01 w
theorem ll_13_02 (w : World) : Calls Tryz.prog 22 #[.int .i64 13, V 1 0 0 E0, V 0 0 0 E0] w fun e w' => e = .returned (.tuple #[V 0 0 0 E0, .bool true]) ∧ G w w' :=
  lawlogic_0 13 _ _ _ _ _ _ _ _ _ _ _ Bin_13_02 w
theorem ll_13_10 (w : World) : Calls Tryz.prog 22 #[.int .i64 13, V 1 1 0 E0, V 1 0 0 E0] w fun e w' => e = .returned (.tuple #[V 1 1 0 E0, .bool true]) ∧ G w w' :=
  lawlogic_1 13 _ _ _ _ _ _ _ _ _ _ _ Bin_13_10 w
theorem ll_13_11 (w : World) : Calls Tryz.prog 22 #[.int .i64 13, V 1 1 0 E0, V 1 1 0 E0] w fun e w' => e = .returned (.tuple #[V 1 1 0 E0, .bool true]) ∧ G w w' :=
  lawlogic_1 13 _ _ _ _ _ _ _ _ _ _ _ Bin_13_11 w
theorem ll_13_12 (w : World) : Calls Tryz.prog 22 #[.int .i64 13, V 1 1 0 E0, V 0 0 0 E0] w fun e w' => e = .returned (.tuple #[V 1 1 0 E0, .bool true]) ∧ G w w' :=
  lawlogic_1 13 _ _ _ _ _ _ _ _ _ _ _ Bin_13_12 w
theorem ll_13_20 (w : World) : Calls Tryz.prog 22 #[.int .i64 13, V 0 0 0 E0, V 1 0 0 E0] w fun e w' => e = .returned (.tuple #[V 0 0 0 E0, .bool true]) ∧ G w w' :=
  lawlogic_0 13 _ _ _ _ _ _ _ _ _ _ _ Bin_13_20 w
theorem ll_13_21 (w : World) : Calls Tryz.prog 22 #[.int .i64 13, V 0 0 0 E0, V 1 1 0 E0] w fun e w' => e = .returned (.tuple #[V 1 1 0 E0, .bool true]) ∧ G w w' :=
  lawlogic_1 13 _ _ _ _ _ _ _ _ _ _ _ Bin_13_21 w
theorem ll_13_22 (w : World) : Calls Tryz.prog 22 #[.int .i64 13, V 0 0 0 E0, V 0 0 0 E0] w fun e w' => e = .returned (.tuple #[V 0 0 0 E0, .bool true]) ∧ G w w' :=
  lawlogic_0 13 _ _ _ _ _ _ _ _ _ _ _ Bin_13_22 w
theorem ll_14_00 (w : World) : Calls Tryz.prog 22 #[.int .i64 14, V 1 0 0 E0, V 1 0 0 E0] w fun e w' => e = .returned (.tuple #[V 1 0 0 E0, .bool true]) ∧ G w w' :=
  lawlogic_1 14 _ _ _ _ _ _ _ _ _ _ _ Bin_14_00 w
theorem ll_14_01 (w : World) : Calls Tryz.prog 22 #[.int .i64 14, V 1 0 0 E0, V 1 1 0 E0] w fun e w' => e = .returned (.tuple #[V 1 1 0 E0, .bool true]) ∧ G w w' :=
  lawlogic_1 14 _ _ _ _ _ _ _ _ _ _ _ Bin_14_01 w
theorem ll_14_02 (w : World) : Calls Tryz.prog 22 #[.int .i64 14, V 1 0 0 E0, V 0 0 0 E0] w fun e w' => e = .returned (.tuple #[V 0 0 0 E0, .bool true]) ∧ G w w' :=
  lawlogic_0 14 _ _ _ _ _ _ _ _ _ _ _ Bin_14_02 w
theorem ll_14_10 (w : World) : Calls Tryz.prog 22 #[.int .i64 14, V 1 1 0 E0, V 1 0 0 E0] w fun e w' => e = .returned (.tuple #[V 1 1 0 E0, .bool true]) ∧ G w w' :=
  lawlogic_1 14 _ _ _ _ _ _ _ _ _ _ _ Bin_14_10 w
theorem ll_14_11 (w : World) : Calls Tryz.prog 22 #[.int .i64 14, V 1 1 0 E0, V 1 1 0 E0] w fun e w' => e = .returned (.tuple #[V 1 0 0 E0, .bool true]) ∧ G w w' :=
  lawlogic_1 14 _ _ _ _ _ _ _ _ _ _ _ Bin_14_11 w
theorem ll_14_12 (w : World) : Calls Tryz.prog 22 #[.int .i64 14, V 1 1 0 E0, V 0 0 0 E0] w fun e w' => e = .returned (.tuple #[V 0 0 0 E0, .bool true]) ∧ G w w' :=
  lawlogic_0 14 _ _ _ _ _ _ _ _ _ _ _ Bin_14_12 w
theorem ll_14_20 (w : World) : Calls Tryz.prog 22 #[.int .i64 14, V 0 0 0 E0, V 1 0 0 E0] w fun e w' => e = .returned (.tuple #[V 0 0 0 E0, .bool true]) ∧ G w w' :=
  lawlogic_0 14 _ _ _ _ _ _ _ _ _ _ _ Bin_14_20 w
theorem ll_14_21 (w : World) : Calls Tryz.prog 22 #[.int .i64 14, V 0 0 0 E0, V 1 1 0 E0] w fun e w' => e = .returned (.tuple #[V 0 0 0 E0, .bool true]) ∧ G w w' :=
  lawlogic_0 14 _ _ _ _ _ _ _ _ _ _ _ Bin_14_21 w
theorem ll_14_22 (w : World) : Calls Tryz.prog 22 #[.int .i64 14, V 0 0 0 E0, V 0 0 0 E0] w fun e w' => e = .returned (.tuple #[V 0 0 0 E0, .bool true]) ∧ G w w' :=
  lawlogic_0 14 _ _ _ _ _ _ _ _ _ _ _ Bin_14_22 w
end Go.Proofs.YtnoajhegcjoebaaGreatDoor
