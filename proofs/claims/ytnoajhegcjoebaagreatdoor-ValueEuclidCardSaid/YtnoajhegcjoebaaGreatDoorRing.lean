/- ring: out of twelve answers. -/
import Derived.Test.YtnoajhegcjoebaaGreatDoorDoes
namespace Go.Proofs.YtnoajhegcjoebaaGreatDoor
open Go.RowKit
attribute [local go_sem] eqV neqV

theorem new_cells {W w1 : World} {b : Nat} {cs : Array Value} {T : TypeId} (hb : G (W.alloc (.cells cs T)) w1) (e : b = W.heap.size) : ∀ o, w1.cell? ⟨b, o, none⟩ = cs.toList[o]? := by
  subst e
  exact G.cells hb (by simp) (by simp)
set_option maxRecDepth 100000 in
set_option maxHeartbeats 8000000 in
theorem ring_of (kA aA bA kB aB bB kC aC bC kS aS bS kL aL bL kX aX bX kY aY bY kU aU bU kW aW bW kP aP bP : Int)
    (h1 : ∀ w, Calls Tryz.prog 13 #[.int .i64 1, V kB aB bB E0, V kC aC bC E0] w fun e w' => e = .returned (.tuple #[V kS aS bS E0, .bool true]) ∧ G w w')
    (h2 : ∀ w, Calls Tryz.prog 13 #[.int .i64 3, V kA aA bA E0, V kS aS bS E0] w fun e w' => e = .returned (.tuple #[V kL aL bL E0, .bool true]) ∧ G w w')
    (h3 : ∀ w, Calls Tryz.prog 13 #[.int .i64 3, V kA aA bA E0, V kB aB bB E0] w fun e w' => e = .returned (.tuple #[V kX aX bX E0, .bool true]) ∧ G w w')
    (h4 : ∀ w, Calls Tryz.prog 13 #[.int .i64 3, V kA aA bA E0, V kC aC bC E0] w fun e w' => e = .returned (.tuple #[V kY aY bY E0, .bool true]) ∧ G w w')
    (h5 : ∀ w, Calls Tryz.prog 13 #[.int .i64 1, V kX aX bX E0, V kY aY bY E0] w fun e w' => e = .returned (.tuple #[V kL aL bL E0, .bool true]) ∧ G w w')
    (h6 : ∀ w, Calls Tryz.prog 13 #[.int .i64 3, V kS aS bS E0, V kA aA bA E0] w fun e w' => e = .returned (.tuple #[V kL aL bL E0, .bool true]) ∧ G w w')
    (h7 : ∀ w, Calls Tryz.prog 13 #[.int .i64 3, V kX aX bX E0, V kC aC bC E0] w fun e w' => e = .returned (.tuple #[V kU aU bU E0, .bool true]) ∧ G w w')
    (h8 : ∀ w, Calls Tryz.prog 13 #[.int .i64 3, V kB aB bB E0, V kC aC bC E0] w fun e w' => e = .returned (.tuple #[V kW aW bW E0, .bool true]) ∧ G w w')
    (h9 : ∀ w, Calls Tryz.prog 13 #[.int .i64 3, V kA aA bA E0, V kW aW bW E0] w fun e w' => e = .returned (.tuple #[V kU aU bU E0, .bool true]) ∧ G w w')
    (h10 : ∀ w, Calls Tryz.prog 13 #[.int .i64 1, V kA aA bA E0, V kB aB bB E0] w fun e w' => e = .returned (.tuple #[V kP aP bP E0, .bool true]) ∧ G w w')
    (h11 : ∀ w, Calls Tryz.prog 13 #[.int .i64 1, V kB aB bB E0, V kA aA bA E0] w fun e w' => e = .returned (.tuple #[V kP aP bP E0, .bool true]) ∧ G w w')
    (h12 : ∀ w, Calls Tryz.prog 13 #[.int .i64 2, V kP aP bP E0, V kB aB bB E0] w fun e w' => e = .returned (.tuple #[V kA aA bA E0, .bool true]) ∧ G w w') (w : World) :
    Calls Tryz.prog 10 #[V kA aA bA E0, V kB aB bB E0, V kC aC bC E0] w fun e w' => e = .returned (.bool true) ∧ G w w' := by
  have H1 : Hid _ := h1
  clear h1
  have H2 : Hid _ := h2
  clear h2
  have H3 : Hid _ := h3
  clear h3
  have H4 : Hid _ := h4
  clear h4
  have H5 : Hid _ := h5
  clear h5
  have H6 : Hid _ := h6
  clear h6
  have H7 : Hid _ := h7
  clear h7
  have H8 : Hid _ := h8
  clear h8
  have H9 : Hid _ := h9
  clear h9
  have H10 : Hid _ := h10
  clear h10
  have H11 : Hid _ := h11
  clear h11
  have H12 : Hid _ := h12
  clear h12
  go_enter Tryz.func10, Tryz.ntmps10
  go_wp2_with fail
  refine (H1.out _).mono ?_
  rintro e w1 ⟨rfl, hb1⟩
  have g1 : G w w1 := ((((G.refl w).alloc _).alloc _).alloc _).trans hb1
  have c_b0_1 := G.cells ((((G.refl (w.alloc _)).alloc _).alloc _).trans hb1) (b := w.heap.size) (f := fun o => [Value.int IntKind.i64 kA, Value.int IntKind.i64 aA, Value.int IntKind.i64 bA, Value.string E0][o]?) (by simp) (by simp)
  have z_b0_1 : w.heap.size < w1.heap.size := by have := hb1.size; simp at this; omega
  have c_b1_1 := G.cells (((G.refl ((w.alloc _).alloc _)).alloc _).trans hb1) (b := w.heap.size + 1) (f := fun o => [Value.int IntKind.i64 kB, Value.int IntKind.i64 aB, Value.int IntKind.i64 bB, Value.string E0][o]?) (by simp) (by simp)
  have z_b1_1 : w.heap.size + 1 < w1.heap.size := by have := hb1.size; simp at this; omega
  have c_b2_1 : ∀ o, w1.cell? ⟨w.heap.size + 1 + 1, o, none⟩ = [Value.int IntKind.i64 kC, Value.int IntKind.i64 aC, Value.int IntKind.i64 bC, Value.string E0][o]? := new_cells hb1 (by simp)
  have z_b2_1 : w.heap.size + 1 + 1 < w1.heap.size := by have := hb1.size; simp at this; omega
  clear hb1
  go_wp2_with fail
  refine (H2.out _).mono ?_
  rintro e w2 ⟨rfl, hb2⟩
  have s2 : G w1 w2 := ((G.refl w1).alloc _).trans hb2
  have c_b0_2 := G.cells s2 c_b0_1 z_b0_1
  have z_b0_2 := Nat.lt_of_lt_of_le z_b0_1 s2.size
  have c_b1_2 := G.cells s2 c_b1_1 z_b1_1
  have z_b1_2 := Nat.lt_of_lt_of_le z_b1_1 s2.size
  have c_b2_2 := G.cells s2 c_b2_1 z_b2_1
  have z_b2_2 := Nat.lt_of_lt_of_le z_b2_1 s2.size
  have c_b3_2 := G.cells hb2 (b := w1.heap.size) (f := fun o => [Value.int IntKind.i64 kS, Value.int IntKind.i64 aS, Value.int IntKind.i64 bS, Value.string E0][o]?) (by simp) (by simp)
  have z_b3_2 : w1.heap.size < w2.heap.size := by have := hb2.size; simp at this; omega
  have g2 : G w w2 := g1.trans s2
  clear c_b0_1 z_b0_1 c_b1_1 z_b1_1 c_b2_1 z_b2_1 hb2 s2 g1
  go_wp2_with fail
  refine (H3.out _).mono ?_
  rintro e w3 ⟨rfl, hb3⟩
  have s3 : G w2 w3 := ((G.refl w2).alloc _).trans hb3
  have c_b0_3 := G.cells s3 c_b0_2 z_b0_2
  have z_b0_3 := Nat.lt_of_lt_of_le z_b0_2 s3.size
  have c_b1_3 := G.cells s3 c_b1_2 z_b1_2
  have z_b1_3 := Nat.lt_of_lt_of_le z_b1_2 s3.size
  have c_b2_3 := G.cells s3 c_b2_2 z_b2_2
  have z_b2_3 := Nat.lt_of_lt_of_le z_b2_2 s3.size
  have c_b3_3 := G.cells s3 c_b3_2 z_b3_2
  have z_b3_3 := Nat.lt_of_lt_of_le z_b3_2 s3.size
  have c_b4_3 := G.cells hb3 (b := w2.heap.size) (f := fun o => [Value.int IntKind.i64 kL, Value.int IntKind.i64 aL, Value.int IntKind.i64 bL, Value.string E0][o]?) (by simp) (by simp)
  have z_b4_3 : w2.heap.size < w3.heap.size := by have := hb3.size; simp at this; omega
  have g3 : G w w3 := g2.trans s3
  clear c_b0_2 z_b0_2 c_b1_2 z_b1_2 c_b2_2 z_b2_2 c_b3_2 z_b3_2 hb3 s3 g2
  go_wp2_with fail
  refine (H4.out _).mono ?_
  rintro e w4 ⟨rfl, hb4⟩
  have s4 : G w3 w4 := ((G.refl w3).alloc _).trans hb4
  have c_b0_4 := G.cells s4 c_b0_3 z_b0_3
  have z_b0_4 := Nat.lt_of_lt_of_le z_b0_3 s4.size
  have c_b1_4 := G.cells s4 c_b1_3 z_b1_3
  have z_b1_4 := Nat.lt_of_lt_of_le z_b1_3 s4.size
  have c_b2_4 := G.cells s4 c_b2_3 z_b2_3
  have z_b2_4 := Nat.lt_of_lt_of_le z_b2_3 s4.size
  have c_b3_4 := G.cells s4 c_b3_3 z_b3_3
  have z_b3_4 := Nat.lt_of_lt_of_le z_b3_3 s4.size
  have c_b4_4 := G.cells s4 c_b4_3 z_b4_3
  have z_b4_4 := Nat.lt_of_lt_of_le z_b4_3 s4.size
  have c_b5_4 := G.cells hb4 (b := w3.heap.size) (f := fun o => [Value.int IntKind.i64 kX, Value.int IntKind.i64 aX, Value.int IntKind.i64 bX, Value.string E0][o]?) (by simp) (by simp)
  have z_b5_4 : w3.heap.size < w4.heap.size := by have := hb4.size; simp at this; omega
  have g4 : G w w4 := g3.trans s4
  clear c_b0_3 z_b0_3 c_b1_3 z_b1_3 c_b2_3 z_b2_3 c_b3_3 z_b3_3 c_b4_3 z_b4_3 hb4 s4 g3
  go_wp2_with fail
  refine (H5.out _).mono ?_
  rintro e w5 ⟨rfl, hb5⟩
  have s5 : G w4 w5 := ((G.refl w4).alloc _).trans hb5
  have c_b0_5 := G.cells s5 c_b0_4 z_b0_4
  have z_b0_5 := Nat.lt_of_lt_of_le z_b0_4 s5.size
  have c_b1_5 := G.cells s5 c_b1_4 z_b1_4
  have z_b1_5 := Nat.lt_of_lt_of_le z_b1_4 s5.size
  have c_b2_5 := G.cells s5 c_b2_4 z_b2_4
  have z_b2_5 := Nat.lt_of_lt_of_le z_b2_4 s5.size
  have c_b3_5 := G.cells s5 c_b3_4 z_b3_4
  have z_b3_5 := Nat.lt_of_lt_of_le z_b3_4 s5.size
  have c_b4_5 := G.cells s5 c_b4_4 z_b4_4
  have z_b4_5 := Nat.lt_of_lt_of_le z_b4_4 s5.size
  have c_b5_5 := G.cells s5 c_b5_4 z_b5_4
  have z_b5_5 := Nat.lt_of_lt_of_le z_b5_4 s5.size
  have c_b6_5 := G.cells hb5 (b := w4.heap.size) (f := fun o => [Value.int IntKind.i64 kY, Value.int IntKind.i64 aY, Value.int IntKind.i64 bY, Value.string E0][o]?) (by simp) (by simp)
  have z_b6_5 : w4.heap.size < w5.heap.size := by have := hb5.size; simp at this; omega
  have g5 : G w w5 := g4.trans s5
  clear c_b0_4 z_b0_4 c_b1_4 z_b1_4 c_b2_4 z_b2_4 c_b3_4 z_b3_4 c_b4_4 z_b4_4 c_b5_4 z_b5_4 hb5 s5 g4
  go_wp2_with fail
  refine (H6.out _).mono ?_
  rintro e w6 ⟨rfl, hb6⟩
  have s6 : G w5 w6 := ((G.refl w5).alloc _).trans hb6
  have c_b0_6 := G.cells s6 c_b0_5 z_b0_5
  have z_b0_6 := Nat.lt_of_lt_of_le z_b0_5 s6.size
  have c_b1_6 := G.cells s6 c_b1_5 z_b1_5
  have z_b1_6 := Nat.lt_of_lt_of_le z_b1_5 s6.size
  have c_b2_6 := G.cells s6 c_b2_5 z_b2_5
  have z_b2_6 := Nat.lt_of_lt_of_le z_b2_5 s6.size
  have c_b3_6 := G.cells s6 c_b3_5 z_b3_5
  have z_b3_6 := Nat.lt_of_lt_of_le z_b3_5 s6.size
  have c_b4_6 := G.cells s6 c_b4_5 z_b4_5
  have z_b4_6 := Nat.lt_of_lt_of_le z_b4_5 s6.size
  have c_b5_6 := G.cells s6 c_b5_5 z_b5_5
  have z_b5_6 := Nat.lt_of_lt_of_le z_b5_5 s6.size
  have c_b6_6 := G.cells s6 c_b6_5 z_b6_5
  have z_b6_6 := Nat.lt_of_lt_of_le z_b6_5 s6.size
  have c_b7_6 := G.cells hb6 (b := w5.heap.size) (f := fun o => [Value.int IntKind.i64 kL, Value.int IntKind.i64 aL, Value.int IntKind.i64 bL, Value.string E0][o]?) (by simp) (by simp)
  have z_b7_6 : w5.heap.size < w6.heap.size := by have := hb6.size; simp at this; omega
  have g6 : G w w6 := g5.trans s6
  clear c_b0_5 z_b0_5 c_b1_5 z_b1_5 c_b2_5 z_b2_5 c_b3_5 z_b3_5 c_b4_5 z_b4_5 c_b5_5 z_b5_5 c_b6_5 z_b6_5 hb6 s6 g5
  go_wp2_with fail
  refine (H7.out _).mono ?_
  rintro e w7 ⟨rfl, hb7⟩
  have s7 : G w6 w7 := ((G.refl w6).alloc _).trans hb7
  have c_b0_7 := G.cells s7 c_b0_6 z_b0_6
  have z_b0_7 := Nat.lt_of_lt_of_le z_b0_6 s7.size
  have c_b1_7 := G.cells s7 c_b1_6 z_b1_6
  have z_b1_7 := Nat.lt_of_lt_of_le z_b1_6 s7.size
  have c_b2_7 := G.cells s7 c_b2_6 z_b2_6
  have z_b2_7 := Nat.lt_of_lt_of_le z_b2_6 s7.size
  have c_b3_7 := G.cells s7 c_b3_6 z_b3_6
  have z_b3_7 := Nat.lt_of_lt_of_le z_b3_6 s7.size
  have c_b4_7 := G.cells s7 c_b4_6 z_b4_6
  have z_b4_7 := Nat.lt_of_lt_of_le z_b4_6 s7.size
  have c_b5_7 := G.cells s7 c_b5_6 z_b5_6
  have z_b5_7 := Nat.lt_of_lt_of_le z_b5_6 s7.size
  have c_b6_7 := G.cells s7 c_b6_6 z_b6_6
  have z_b6_7 := Nat.lt_of_lt_of_le z_b6_6 s7.size
  have c_b7_7 := G.cells s7 c_b7_6 z_b7_6
  have z_b7_7 := Nat.lt_of_lt_of_le z_b7_6 s7.size
  have c_b8_7 := G.cells hb7 (b := w6.heap.size) (f := fun o => [Value.int IntKind.i64 kL, Value.int IntKind.i64 aL, Value.int IntKind.i64 bL, Value.string E0][o]?) (by simp) (by simp)
  have z_b8_7 : w6.heap.size < w7.heap.size := by have := hb7.size; simp at this; omega
  have g7 : G w w7 := g6.trans s7
  clear c_b0_6 z_b0_6 c_b1_6 z_b1_6 c_b2_6 z_b2_6 c_b3_6 z_b3_6 c_b4_6 z_b4_6 c_b5_6 z_b5_6 c_b6_6 z_b6_6 c_b7_6 z_b7_6 hb7 s7 g6
  go_wp2_with fail
  refine (H8.out _).mono ?_
  rintro e w8 ⟨rfl, hb8⟩
  have s8 : G w7 w8 := ((G.refl w7).alloc _).trans hb8
  have c_b0_8 := G.cells s8 c_b0_7 z_b0_7
  have z_b0_8 := Nat.lt_of_lt_of_le z_b0_7 s8.size
  have c_b1_8 := G.cells s8 c_b1_7 z_b1_7
  have z_b1_8 := Nat.lt_of_lt_of_le z_b1_7 s8.size
  have c_b2_8 := G.cells s8 c_b2_7 z_b2_7
  have z_b2_8 := Nat.lt_of_lt_of_le z_b2_7 s8.size
  have c_b3_8 := G.cells s8 c_b3_7 z_b3_7
  have z_b3_8 := Nat.lt_of_lt_of_le z_b3_7 s8.size
  have c_b4_8 := G.cells s8 c_b4_7 z_b4_7
  have z_b4_8 := Nat.lt_of_lt_of_le z_b4_7 s8.size
  have c_b5_8 := G.cells s8 c_b5_7 z_b5_7
  have z_b5_8 := Nat.lt_of_lt_of_le z_b5_7 s8.size
  have c_b6_8 := G.cells s8 c_b6_7 z_b6_7
  have z_b6_8 := Nat.lt_of_lt_of_le z_b6_7 s8.size
  have c_b7_8 := G.cells s8 c_b7_7 z_b7_7
  have z_b7_8 := Nat.lt_of_lt_of_le z_b7_7 s8.size
  have c_b8_8 := G.cells s8 c_b8_7 z_b8_7
  have z_b8_8 := Nat.lt_of_lt_of_le z_b8_7 s8.size
  have c_b9_8 := G.cells hb8 (b := w7.heap.size) (f := fun o => [Value.int IntKind.i64 kU, Value.int IntKind.i64 aU, Value.int IntKind.i64 bU, Value.string E0][o]?) (by simp) (by simp)
  have z_b9_8 : w7.heap.size < w8.heap.size := by have := hb8.size; simp at this; omega
  have g8 : G w w8 := g7.trans s8
  clear c_b0_7 z_b0_7 c_b1_7 z_b1_7 c_b2_7 z_b2_7 c_b3_7 z_b3_7 c_b4_7 z_b4_7 c_b5_7 z_b5_7 c_b6_7 z_b6_7 c_b7_7 z_b7_7 c_b8_7 z_b8_7 hb8 s8 g7
  go_wp2_with fail
  refine (H9.out _).mono ?_
  rintro e w9 ⟨rfl, hb9⟩
  have s9 : G w8 w9 := ((G.refl w8).alloc _).trans hb9
  have c_b0_9 := G.cells s9 c_b0_8 z_b0_8
  have z_b0_9 := Nat.lt_of_lt_of_le z_b0_8 s9.size
  have c_b1_9 := G.cells s9 c_b1_8 z_b1_8
  have z_b1_9 := Nat.lt_of_lt_of_le z_b1_8 s9.size
  have c_b2_9 := G.cells s9 c_b2_8 z_b2_8
  have z_b2_9 := Nat.lt_of_lt_of_le z_b2_8 s9.size
  have c_b3_9 := G.cells s9 c_b3_8 z_b3_8
  have z_b3_9 := Nat.lt_of_lt_of_le z_b3_8 s9.size
  have c_b4_9 := G.cells s9 c_b4_8 z_b4_8
  have z_b4_9 := Nat.lt_of_lt_of_le z_b4_8 s9.size
  have c_b5_9 := G.cells s9 c_b5_8 z_b5_8
  have z_b5_9 := Nat.lt_of_lt_of_le z_b5_8 s9.size
  have c_b6_9 := G.cells s9 c_b6_8 z_b6_8
  have z_b6_9 := Nat.lt_of_lt_of_le z_b6_8 s9.size
  have c_b7_9 := G.cells s9 c_b7_8 z_b7_8
  have z_b7_9 := Nat.lt_of_lt_of_le z_b7_8 s9.size
  have c_b8_9 := G.cells s9 c_b8_8 z_b8_8
  have z_b8_9 := Nat.lt_of_lt_of_le z_b8_8 s9.size
  have c_b9_9 := G.cells s9 c_b9_8 z_b9_8
  have z_b9_9 := Nat.lt_of_lt_of_le z_b9_8 s9.size
  have c_b10_9 := G.cells hb9 (b := w8.heap.size) (f := fun o => [Value.int IntKind.i64 kW, Value.int IntKind.i64 aW, Value.int IntKind.i64 bW, Value.string E0][o]?) (by simp) (by simp)
  have z_b10_9 : w8.heap.size < w9.heap.size := by have := hb9.size; simp at this; omega
  have g9 : G w w9 := g8.trans s9
  clear c_b0_8 z_b0_8 c_b1_8 z_b1_8 c_b2_8 z_b2_8 c_b3_8 z_b3_8 c_b4_8 z_b4_8 c_b5_8 z_b5_8 c_b6_8 z_b6_8 c_b7_8 z_b7_8 c_b8_8 z_b8_8 c_b9_8 z_b9_8 hb9 s9 g8
  go_wp2_with fail
  refine (H10.out _).mono ?_
  rintro e w10 ⟨rfl, hb10⟩
  have s10 : G w9 w10 := ((G.refl w9).alloc _).trans hb10
  have c_b0_10 := G.cells s10 c_b0_9 z_b0_9
  have z_b0_10 := Nat.lt_of_lt_of_le z_b0_9 s10.size
  have c_b1_10 := G.cells s10 c_b1_9 z_b1_9
  have z_b1_10 := Nat.lt_of_lt_of_le z_b1_9 s10.size
  have c_b2_10 := G.cells s10 c_b2_9 z_b2_9
  have z_b2_10 := Nat.lt_of_lt_of_le z_b2_9 s10.size
  have c_b3_10 := G.cells s10 c_b3_9 z_b3_9
  have z_b3_10 := Nat.lt_of_lt_of_le z_b3_9 s10.size
  have c_b4_10 := G.cells s10 c_b4_9 z_b4_9
  have z_b4_10 := Nat.lt_of_lt_of_le z_b4_9 s10.size
  have c_b5_10 := G.cells s10 c_b5_9 z_b5_9
  have z_b5_10 := Nat.lt_of_lt_of_le z_b5_9 s10.size
  have c_b6_10 := G.cells s10 c_b6_9 z_b6_9
  have z_b6_10 := Nat.lt_of_lt_of_le z_b6_9 s10.size
  have c_b7_10 := G.cells s10 c_b7_9 z_b7_9
  have z_b7_10 := Nat.lt_of_lt_of_le z_b7_9 s10.size
  have c_b8_10 := G.cells s10 c_b8_9 z_b8_9
  have z_b8_10 := Nat.lt_of_lt_of_le z_b8_9 s10.size
  have c_b9_10 := G.cells s10 c_b9_9 z_b9_9
  have z_b9_10 := Nat.lt_of_lt_of_le z_b9_9 s10.size
  have c_b10_10 := G.cells s10 c_b10_9 z_b10_9
  have z_b10_10 := Nat.lt_of_lt_of_le z_b10_9 s10.size
  have c_b11_10 := G.cells hb10 (b := w9.heap.size) (f := fun o => [Value.int IntKind.i64 kU, Value.int IntKind.i64 aU, Value.int IntKind.i64 bU, Value.string E0][o]?) (by simp) (by simp)
  have z_b11_10 : w9.heap.size < w10.heap.size := by have := hb10.size; simp at this; omega
  have g10 : G w w10 := g9.trans s10
  clear c_b0_9 z_b0_9 c_b1_9 z_b1_9 c_b2_9 z_b2_9 c_b3_9 z_b3_9 c_b4_9 z_b4_9 c_b5_9 z_b5_9 c_b6_9 z_b6_9 c_b7_9 z_b7_9 c_b8_9 z_b8_9 c_b9_9 z_b9_9 c_b10_9 z_b10_9 hb10 s10 g9
  go_wp2_with fail
  refine (H11.out _).mono ?_
  rintro e w11 ⟨rfl, hb11⟩
  have s11 : G w10 w11 := ((G.refl w10).alloc _).trans hb11
  have c_b0_11 := G.cells s11 c_b0_10 z_b0_10
  have z_b0_11 := Nat.lt_of_lt_of_le z_b0_10 s11.size
  have c_b1_11 := G.cells s11 c_b1_10 z_b1_10
  have z_b1_11 := Nat.lt_of_lt_of_le z_b1_10 s11.size
  have c_b2_11 := G.cells s11 c_b2_10 z_b2_10
  have z_b2_11 := Nat.lt_of_lt_of_le z_b2_10 s11.size
  have c_b3_11 := G.cells s11 c_b3_10 z_b3_10
  have z_b3_11 := Nat.lt_of_lt_of_le z_b3_10 s11.size
  have c_b4_11 := G.cells s11 c_b4_10 z_b4_10
  have z_b4_11 := Nat.lt_of_lt_of_le z_b4_10 s11.size
  have c_b5_11 := G.cells s11 c_b5_10 z_b5_10
  have z_b5_11 := Nat.lt_of_lt_of_le z_b5_10 s11.size
  have c_b6_11 := G.cells s11 c_b6_10 z_b6_10
  have z_b6_11 := Nat.lt_of_lt_of_le z_b6_10 s11.size
  have c_b7_11 := G.cells s11 c_b7_10 z_b7_10
  have z_b7_11 := Nat.lt_of_lt_of_le z_b7_10 s11.size
  have c_b8_11 := G.cells s11 c_b8_10 z_b8_10
  have z_b8_11 := Nat.lt_of_lt_of_le z_b8_10 s11.size
  have c_b9_11 := G.cells s11 c_b9_10 z_b9_10
  have z_b9_11 := Nat.lt_of_lt_of_le z_b9_10 s11.size
  have c_b10_11 := G.cells s11 c_b10_10 z_b10_10
  have z_b10_11 := Nat.lt_of_lt_of_le z_b10_10 s11.size
  have c_b11_11 := G.cells s11 c_b11_10 z_b11_10
  have z_b11_11 := Nat.lt_of_lt_of_le z_b11_10 s11.size
  have c_b12_11 := G.cells hb11 (b := w10.heap.size) (f := fun o => [Value.int IntKind.i64 kP, Value.int IntKind.i64 aP, Value.int IntKind.i64 bP, Value.string E0][o]?) (by simp) (by simp)
  have z_b12_11 : w10.heap.size < w11.heap.size := by have := hb11.size; simp at this; omega
  have g11 : G w w11 := g10.trans s11
  clear c_b0_10 z_b0_10 c_b1_10 z_b1_10 c_b2_10 z_b2_10 c_b3_10 z_b3_10 c_b4_10 z_b4_10 c_b5_10 z_b5_10 c_b6_10 z_b6_10 c_b7_10 z_b7_10 c_b8_10 z_b8_10 c_b9_10 z_b9_10 c_b10_10 z_b10_10 c_b11_10 z_b11_10 hb11 s11 g10
  go_wp2_with fail
  refine (H12.out _).mono ?_
  rintro e w12 ⟨rfl, hb12⟩
  have s12 : G w11 w12 := ((G.refl w11).alloc _).trans hb12
  have c_b0_12 := G.cells s12 c_b0_11 z_b0_11
  have z_b0_12 := Nat.lt_of_lt_of_le z_b0_11 s12.size
  have c_b1_12 := G.cells s12 c_b1_11 z_b1_11
  have z_b1_12 := Nat.lt_of_lt_of_le z_b1_11 s12.size
  have c_b2_12 := G.cells s12 c_b2_11 z_b2_11
  have z_b2_12 := Nat.lt_of_lt_of_le z_b2_11 s12.size
  have c_b3_12 := G.cells s12 c_b3_11 z_b3_11
  have z_b3_12 := Nat.lt_of_lt_of_le z_b3_11 s12.size
  have c_b4_12 := G.cells s12 c_b4_11 z_b4_11
  have z_b4_12 := Nat.lt_of_lt_of_le z_b4_11 s12.size
  have c_b5_12 := G.cells s12 c_b5_11 z_b5_11
  have z_b5_12 := Nat.lt_of_lt_of_le z_b5_11 s12.size
  have c_b6_12 := G.cells s12 c_b6_11 z_b6_11
  have z_b6_12 := Nat.lt_of_lt_of_le z_b6_11 s12.size
  have c_b7_12 := G.cells s12 c_b7_11 z_b7_11
  have z_b7_12 := Nat.lt_of_lt_of_le z_b7_11 s12.size
  have c_b8_12 := G.cells s12 c_b8_11 z_b8_11
  have z_b8_12 := Nat.lt_of_lt_of_le z_b8_11 s12.size
  have c_b9_12 := G.cells s12 c_b9_11 z_b9_11
  have z_b9_12 := Nat.lt_of_lt_of_le z_b9_11 s12.size
  have c_b10_12 := G.cells s12 c_b10_11 z_b10_11
  have z_b10_12 := Nat.lt_of_lt_of_le z_b10_11 s12.size
  have c_b11_12 := G.cells s12 c_b11_11 z_b11_11
  have z_b11_12 := Nat.lt_of_lt_of_le z_b11_11 s12.size
  have c_b12_12 := G.cells s12 c_b12_11 z_b12_11
  have z_b12_12 := Nat.lt_of_lt_of_le z_b12_11 s12.size
  have c_b13_12 := G.cells hb12 (b := w11.heap.size) (f := fun o => [Value.int IntKind.i64 kP, Value.int IntKind.i64 aP, Value.int IntKind.i64 bP, Value.string E0][o]?) (by simp) (by simp)
  have z_b13_12 : w11.heap.size < w12.heap.size := by have := hb12.size; simp at this; omega
  have g12 : G w w12 := g11.trans s12
  clear c_b0_11 z_b0_11 c_b1_11 z_b1_11 c_b2_11 z_b2_11 c_b3_11 z_b3_11 c_b4_11 z_b4_11 c_b5_11 z_b5_11 c_b6_11 z_b6_11 c_b7_11 z_b7_11 c_b8_11 z_b8_11 c_b9_11 z_b9_11 c_b10_11 z_b10_11 c_b11_11 z_b11_11 c_b12_11 z_b12_11 hb12 s12 g11
  go_wp2_with fail
  go_ret
  exact ⟨rfl, g12.alloc _⟩
end Go.Proofs.YtnoajhegcjoebaaGreatDoor
