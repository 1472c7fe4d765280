/- norms: out of its answers. -/
import Derived.Test.YtnoajhegcjoebaaGreatDoorRing
namespace Go.Proofs.YtnoajhegcjoebaaGreatDoor
open Go.RowKit
attribute [local go_sem] eqV neqV

set_option maxRecDepth 100000 in
set_option maxHeartbeats 8000000 in
theorem norms_of (aA bA aB bB aP bP aC bC x y : Int) (hxy : wrap64 (x * y) = x * y)
    (h1 : ∀ w, Calls Tryz.prog 13 #[.int .i64 3, V 3 aA bA E0, V 3 aB bB E0] w fun e w' => e = .returned (.tuple #[V 3 aP bP E0, .bool true]) ∧ G w w')
    (h2 : ∀ w, Calls Tryz.prog 15 #[V 3 aA bA E0] w fun e w' => e = .returned (.tuple #[.int .i64 (x), .bool true]) ∧ G w w')
    (h3 : ∀ w, Calls Tryz.prog 15 #[V 3 aB bB E0] w fun e w' => e = .returned (.tuple #[.int .i64 (y), .bool true]) ∧ G w w')
    (h4 : ∀ w, Calls Tryz.prog 15 #[V 3 aP bP E0] w fun e w' => e = .returned (.tuple #[.int .i64 (x * y), .bool true]) ∧ G w w')
    (h5 : ∀ w, Calls Tryz.prog 21 #[.int .i64 5, V 3 aA bA E0] w fun e w' => e = .returned (.tuple #[V 3 aC bC E0, .int .i64 0]) ∧ G w w')
    (h6 : ∀ w, Calls Tryz.prog 13 #[.int .i64 3, V 3 aA bA E0, V 3 aC bC E0] w fun e w' => e = .returned (.tuple #[V 3 x 0 E0, .bool true]) ∧ G w w')
    (h7 : ∀ w, Calls Tryz.prog 13 #[.int .i64 3, V 3 0 1 E0, V 3 0 1 E0] w fun e w' => e = .returned (.tuple #[V 3 (-1) 0 E0, .bool true]) ∧ G w w')
    (w : World) : Calls Tryz.prog 11 #[V 3 aA bA E0, V 3 aB bB E0] w fun e w' => e = .returned (.bool true) ∧ G w w' := by
  have H1 : Hid _ := h1
  clear h1
  have H2 : Hid _ := h2
  clear h2
  have H3 : Hid _ := h3
  clear h3
  have H4 : Hid _ := h4
  clear h4
  have H5 : Hid _ := h5
  clear h5
  have H6 : Hid _ := h6
  clear h6
  have H7 : Hid _ := h7
  clear h7
  go_enter Tryz.func11, Tryz.ntmps11
  go_wp2_with fail
  refine (H1.out _).mono ?_
  rintro e w1 ⟨rfl, hb1⟩
  have g1 : G w w1 := (((G.refl w).alloc _).alloc _).trans hb1
  have c_b0_1 := G.cells (((G.refl (w.alloc _)).alloc _).trans hb1) (b := w.heap.size) (f := fun o => [Value.int IntKind.i64 3, Value.int IntKind.i64 aA, Value.int IntKind.i64 bA, Value.string E0][o]?) (by simp) (by simp)
  have z_b0_1 : w.heap.size < w1.heap.size := by have := hb1.size; simp at this; omega
  have c_b1_1 := G.cells hb1 (b := w.heap.size + 1) (f := fun o => [Value.int IntKind.i64 3, Value.int IntKind.i64 aB, Value.int IntKind.i64 bB, Value.string E0][o]?) (by simp) (by simp)
  have z_b1_1 : w.heap.size + 1 < w1.heap.size := by have := hb1.size; simp at this; omega
  clear hb1
  go_wp2_with fail
  refine (H2.out _).mono ?_
  rintro e w2 ⟨rfl, hb2⟩
  have s2 : G w1 w2 := ((G.refl w1).alloc _).trans hb2
  have c_b0_2 := G.cells s2 c_b0_1 z_b0_1
  have z_b0_2 := Nat.lt_of_lt_of_le z_b0_1 s2.size
  have c_b1_2 := G.cells s2 c_b1_1 z_b1_1
  have z_b1_2 := Nat.lt_of_lt_of_le z_b1_1 s2.size
  have c_b2_2 := G.cells hb2 (b := w1.heap.size) (f := fun o => [Value.int IntKind.i64 3, Value.int IntKind.i64 aP, Value.int IntKind.i64 bP, Value.string E0][o]?) (by simp) (by simp)
  have z_b2_2 : w1.heap.size < w2.heap.size := by have := hb2.size; simp at this; omega
  have g2 : G w w2 := g1.trans s2
  clear c_b0_1 z_b0_1 c_b1_1 z_b1_1 hb2 s2 g1
  go_wp2_with fail
  refine (H3.out _).mono ?_
  rintro e w3 ⟨rfl, hb3⟩
  have s3 : G w2 w3 := (G.refl w2).trans hb3
  have c_b0_3 := G.cells s3 c_b0_2 z_b0_2
  have z_b0_3 := Nat.lt_of_lt_of_le z_b0_2 s3.size
  have c_b1_3 := G.cells s3 c_b1_2 z_b1_2
  have z_b1_3 := Nat.lt_of_lt_of_le z_b1_2 s3.size
  have c_b2_3 := G.cells s3 c_b2_2 z_b2_2
  have z_b2_3 := Nat.lt_of_lt_of_le z_b2_2 s3.size
  have g3 : G w w3 := g2.trans s3
  clear c_b0_2 z_b0_2 c_b1_2 z_b1_2 c_b2_2 z_b2_2 hb3 s3 g2
  go_wp2_with fail
  refine (H4.out _).mono ?_
  rintro e w4 ⟨rfl, hb4⟩
  have s4 : G w3 w4 := (G.refl w3).trans hb4
  have c_b0_4 := G.cells s4 c_b0_3 z_b0_3
  have z_b0_4 := Nat.lt_of_lt_of_le z_b0_3 s4.size
  have c_b1_4 := G.cells s4 c_b1_3 z_b1_3
  have z_b1_4 := Nat.lt_of_lt_of_le z_b1_3 s4.size
  have c_b2_4 := G.cells s4 c_b2_3 z_b2_3
  have z_b2_4 := Nat.lt_of_lt_of_le z_b2_3 s4.size
  have g4 : G w w4 := g3.trans s4
  clear c_b0_3 z_b0_3 c_b1_3 z_b1_3 c_b2_3 z_b2_3 hb4 s4 g3
  go_wp2_with fail
  refine (H5.out _).mono ?_
  rintro e w5 ⟨rfl, hb5⟩
  have s5 : G w4 w5 := (G.refl w4).trans hb5
  have c_b0_5 := G.cells s5 c_b0_4 z_b0_4
  have z_b0_5 := Nat.lt_of_lt_of_le z_b0_4 s5.size
  have c_b1_5 := G.cells s5 c_b1_4 z_b1_4
  have z_b1_5 := Nat.lt_of_lt_of_le z_b1_4 s5.size
  have c_b2_5 := G.cells s5 c_b2_4 z_b2_4
  have z_b2_5 := Nat.lt_of_lt_of_le z_b2_4 s5.size
  have g5 : G w w5 := g4.trans s5
  clear c_b0_4 z_b0_4 c_b1_4 z_b1_4 c_b2_4 z_b2_4 hb5 s5 g4
  go_wp2_with fail
  refine (H6.out _).mono ?_
  rintro e w6 ⟨rfl, hb6⟩
  have s6 : G w5 w6 := ((G.refl w5).alloc _).trans hb6
  have c_b0_6 := G.cells s6 c_b0_5 z_b0_5
  have z_b0_6 := Nat.lt_of_lt_of_le z_b0_5 s6.size
  have c_b1_6 := G.cells s6 c_b1_5 z_b1_5
  have z_b1_6 := Nat.lt_of_lt_of_le z_b1_5 s6.size
  have c_b2_6 := G.cells s6 c_b2_5 z_b2_5
  have z_b2_6 := Nat.lt_of_lt_of_le z_b2_5 s6.size
  have c_b3_6 := G.cells hb6 (b := w5.heap.size) (f := fun o => [Value.int IntKind.i64 3, Value.int IntKind.i64 aC, Value.int IntKind.i64 bC, Value.string E0][o]?) (by simp) (by simp)
  have z_b3_6 : w5.heap.size < w6.heap.size := by have := hb6.size; simp at this; omega
  have g6 : G w w6 := g5.trans s6
  clear c_b0_5 z_b0_5 c_b1_5 z_b1_5 c_b2_5 z_b2_5 hb6 s6 g5
  go_wp2_with fail
  refine (H7.out _).mono ?_
  rintro e w7 ⟨rfl, hb7⟩
  have s7 : G w6 w7 := (((G.refl w6).alloc _).alloc _).trans hb7
  have c_b0_7 := G.cells s7 c_b0_6 z_b0_6
  have z_b0_7 := Nat.lt_of_lt_of_le z_b0_6 s7.size
  have c_b1_7 := G.cells s7 c_b1_6 z_b1_6
  have z_b1_7 := Nat.lt_of_lt_of_le z_b1_6 s7.size
  have c_b2_7 := G.cells s7 c_b2_6 z_b2_6
  have z_b2_7 := Nat.lt_of_lt_of_le z_b2_6 s7.size
  have c_b3_7 := G.cells s7 c_b3_6 z_b3_6
  have z_b3_7 := Nat.lt_of_lt_of_le z_b3_6 s7.size
  have c_b4_7 := G.cells (((G.refl (w6.alloc _)).alloc _).trans hb7) (b := w6.heap.size) (f := fun o => [Value.int IntKind.i64 3, Value.int IntKind.i64 x, Value.int IntKind.i64 0, Value.string E0][o]?) (by simp) (by simp)
  have z_b4_7 : w6.heap.size < w7.heap.size := by have := hb7.size; simp at this; omega
  have c_b5_7 := G.cells hb7 (b := w6.heap.size + 1) (f := fun o => [Value.int IntKind.i64 3, Value.int IntKind.i64 0, Value.int IntKind.i64 1, Value.string E0][o]?) (by simp) (by simp)
  have z_b5_7 : w6.heap.size + 1 < w7.heap.size := by have := hb7.size; simp at this; omega
  have g7 : G w w7 := g6.trans s7
  clear c_b0_6 z_b0_6 c_b1_6 z_b1_6 c_b2_6 z_b2_6 c_b3_6 z_b3_6 hb7 s7 g6
  go_wp2_with fail
  go_ret
  exact ⟨rfl, g7.alloc _⟩
end Go.Proofs.YtnoajhegcjoebaaGreatDoor
