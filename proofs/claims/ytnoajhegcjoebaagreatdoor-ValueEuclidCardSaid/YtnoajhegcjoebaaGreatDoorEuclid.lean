/- ValueEuclid: out of its answers. -/
import Derived.Test.YtnoajhegcjoebaaGreatDoorRing
import Derived.Deep.QuietTactic
import Derived.BigQuiet
namespace Go.Proofs.YtnoajhegcjoebaaGreatDoor
open Go.RowKit
attribute [local go_sem] eqV neqV

set_option maxRecDepth 100000 in
set_option maxHeartbeats 4000000 in
theorem euclid_zero (a b c d A B : Int)
    (h1 : ∀ w, Calls Tryz.prog 9 #[.int .i64 a, .int .i64 b, .int .i64 16777216] w fun e w' => e = .returned (V 3 A B E0) ∧ G w w')
    (h2 : ∀ w, Calls Tryz.prog 9 #[.int .i64 c, .int .i64 d, .int .i64 16777216] w fun e w' => e = .returned (V 3 0 0 E0) ∧ G w w')
    (h3 : ∀ w, Calls Tryz.prog 14 #[.int .i64 5, V 3 A B E0, V 3 0 0 E0] w fun e w' => e = .returned (.tuple #[V 0 0 0 E0, .int .i64 12]) ∧ G w w')
    (h4 : ∀ w, Calls Tryz.prog 14 #[.int .i64 4, V 3 A B E0, V 3 0 0 E0] w fun e w' => e = .returned (.tuple #[V 0 0 0 E0, .int .i64 12]) ∧ G w w')
    (w : World) : Calls Tryz.prog 5 #[.int .i64 a, .int .i64 b, .int .i64 c, .int .i64 d] w fun e w' => e = .returned (.bool true) ∧ G w w' := by
  have H1 : Hid _ := h1
  clear h1
  have H2 : Hid _ := h2
  clear h2
  have H3 : Hid _ := h3
  clear h3
  have H4 : Hid _ := h4
  clear h4
  go_enter Tryz.func5, Tryz.ntmps5
  go_wp2_with fail
  refine (H1.out _).mono ?_
  rintro e w1 ⟨rfl, hb1⟩
  have g1 : G w w1 := (G.refl w).trans hb1
  clear hb1
  go_wp2_with fail
  refine (H2.out _).mono ?_
  rintro e w2 ⟨rfl, hb2⟩
  have s2 : G w1 w2 := ((G.refl w1).alloc _).trans hb2
  have c_b0_2 := G.cells hb2 (b := w1.heap.size) (f := fun o => [Value.int IntKind.i64 3, Value.int IntKind.i64 A, Value.int IntKind.i64 B, Value.string E0][o]?) (by simp) (by simp)
  have z_b0_2 : w1.heap.size < w2.heap.size := by have := hb2.size; simp at this; omega
  have g2 : G w w2 := g1.trans s2
  clear  hb2 s2 g1
  go_wp2_with fail
  refine (H3.out _).mono ?_
  rintro e w3 ⟨rfl, hb3⟩
  have s3 : G w2 w3 := ((G.refl w2).alloc _).trans hb3
  have c_b0_3 := G.cells s3 c_b0_2 z_b0_2
  have z_b0_3 := Nat.lt_of_lt_of_le z_b0_2 s3.size
  have c_b1_3 := G.cells hb3 (b := w2.heap.size) (f := fun o => [Value.int IntKind.i64 3, Value.int IntKind.i64 0, Value.int IntKind.i64 0, Value.string E0][o]?) (by simp) (by simp)
  have z_b1_3 : w2.heap.size < w3.heap.size := by have := hb3.size; simp at this; omega
  have g3 : G w w3 := g2.trans s3
  clear c_b0_2 z_b0_2 hb3 s3 g2
  go_wp2_with fail
  refine (H4.out _).mono ?_
  rintro e w4 ⟨rfl, hb4⟩
  have s4 : G w3 w4 := ((G.refl w3).alloc _).trans hb4
  have c_b0_4 := G.cells s4 c_b0_3 z_b0_3
  have z_b0_4 := Nat.lt_of_lt_of_le z_b0_3 s4.size
  have c_b1_4 := G.cells s4 c_b1_3 z_b1_3
  have z_b1_4 := Nat.lt_of_lt_of_le z_b1_3 s4.size
  have c_b2_4 := G.cells hb4 (b := w3.heap.size) (f := fun o => [Value.int IntKind.i64 0, Value.int IntKind.i64 0, Value.int IntKind.i64 0, Value.string E0][o]?) (by simp) (by simp)
  have z_b2_4 : w3.heap.size < w4.heap.size := by have := hb4.size; simp at this; omega
  have g4 : G w w4 := g3.trans s4
  clear c_b0_3 z_b0_3 c_b1_3 z_b1_3 hb4 s4 g3
  go_wp2_with fail
  go_ret
  exact ⟨rfl, g4.alloc _⟩
set_option maxRecDepth 100000 in
set_option maxHeartbeats 8000000 in
theorem euclid_of (a b c d A B C E r1 r2 t1 t2 p q N K : Int) (hy : (C == 0) = false ∨ ((C == 0) = true ∧ (E == 0) = false)) (hN : wrap64 (2 * N) = 2 * N) (hK : decide (K < 2 * N) = false)
    (h1 : ∀ w, Calls Tryz.prog 9 #[.int .i64 a, .int .i64 b, .int .i64 16777216] w fun e w' => e = .returned (V 3 A B E0) ∧ G w w')
    (h2 : ∀ w, Calls Tryz.prog 9 #[.int .i64 c, .int .i64 d, .int .i64 16777216] w fun e w' => e = .returned (V 3 C E E0) ∧ G w w')
    (h3 : ∀ w, Calls Tryz.prog 14 #[.int .i64 5, V 3 A B E0, V 3 C E E0] w fun e w' => e = .returned (.tuple #[V 3 r1 r2 E0, .int .i64 0]) ∧ G w w')
    (h4 : ∀ w, Calls Tryz.prog 15 #[V 3 r1 r2 E0] w fun e w' => e = .returned (.tuple #[.int .i64 N, .bool true]) ∧ G w w')
    (h5 : ∀ w, Calls Tryz.prog 15 #[V 3 C E E0] w fun e w' => e = .returned (.tuple #[.int .i64 K, .bool true]) ∧ G w w')
    (h6 : ∀ w, Calls Tryz.prog 13 #[.int .i64 2, V 3 A B E0, V 3 r1 r2 E0] w fun e w' => e = .returned (.tuple #[V 3 t1 t2 E0, .bool true]) ∧ G w w')
    (h7 : ∀ w, Calls Tryz.prog 13 #[.int .i64 4, V 3 t1 t2 E0, V 3 C E E0] w fun e w' => e = .returned (.tuple #[V 3 p q E0, .bool true]) ∧ G w w')
    (h8 : ∀ w, Calls Tryz.prog 13 #[.int .i64 3, V 3 p q E0, V 3 C E E0] w fun e w' => e = .returned (.tuple #[V 3 t1 t2 E0, .bool true]) ∧ G w w')
    (h9 : ∀ w, Calls Tryz.prog 13 #[.int .i64 1, V 3 t1 t2 E0, V 3 r1 r2 E0] w fun e w' => e = .returned (.tuple #[V 3 A B E0, .bool true]) ∧ G w w')
    (h10 : ∀ w, Calls Tryz.prog 16 #[.int .i64 a, .int .i64 c] w fun e w' => e = .returned (.bool true) ∧ G w w')
    (w : World) : Calls Tryz.prog 5 #[.int .i64 a, .int .i64 b, .int .i64 c, .int .i64 d] w fun e w' => e = .returned (.bool true) ∧ G w w' := by
  have H1 : Hid _ := h1
  clear h1
  have H2 : Hid _ := h2
  clear h2
  have H3 : Hid _ := h3
  clear h3
  have H4 : Hid _ := h4
  clear h4
  have H5 : Hid _ := h5
  clear h5
  have H6 : Hid _ := h6
  clear h6
  have H7 : Hid _ := h7
  clear h7
  have H8 : Hid _ := h8
  clear h8
  have H9 : Hid _ := h9
  clear h9
  have H10 : Hid _ := h10
  clear h10
  rcases hy with hy | ⟨hy, hy2⟩
  all_goals
    go_enter Tryz.func5, Tryz.ntmps5
    go_wp2_with fail
    refine (H1.out _).mono ?_
    rintro e w1 ⟨rfl, hb1⟩
    have g1 : G w w1 := (G.refl w).trans hb1
    clear hb1
    go_wp2_with fail
    refine (H2.out _).mono ?_
    rintro e w2 ⟨rfl, hb2⟩
    have s2 : G w1 w2 := ((G.refl w1).alloc _).trans hb2
    have c_b0_2 := G.cells hb2 (b := w1.heap.size) (f := fun o => [Value.int IntKind.i64 3, Value.int IntKind.i64 A, Value.int IntKind.i64 B, Value.string E0][o]?) (by simp) (by simp)
    have z_b0_2 : w1.heap.size < w2.heap.size := by have := hb2.size; simp at this; omega
    have g2 : G w w2 := g1.trans s2
    clear  hb2 s2 g1
    go_wp2_with fail
    refine (H3.out _).mono ?_
    rintro e w3 ⟨rfl, hb3⟩
    have s3 : G w2 w3 := ((G.refl w2).alloc _).trans hb3
    have c_b0_3 := G.cells s3 c_b0_2 z_b0_2
    have z_b0_3 := Nat.lt_of_lt_of_le z_b0_2 s3.size
    have c_b1_3 := G.cells hb3 (b := w2.heap.size) (f := fun o => [Value.int IntKind.i64 3, Value.int IntKind.i64 C, Value.int IntKind.i64 E, Value.string E0][o]?) (by simp) (by simp)
    have z_b1_3 : w2.heap.size < w3.heap.size := by have := hb3.size; simp at this; omega
    have g3 : G w w3 := g2.trans s3
    clear c_b0_2 z_b0_2 hb3 s3 g2
    go_wp2_with fail
    refine (H4.out _).mono ?_
    rintro e w4 ⟨rfl, hb4⟩
    have s4 : G w3 w4 := ((G.refl w3).alloc _).trans hb4
    have c_b0_4 := G.cells s4 c_b0_3 z_b0_3
    have z_b0_4 := Nat.lt_of_lt_of_le z_b0_3 s4.size
    have c_b1_4 := G.cells s4 c_b1_3 z_b1_3
    have z_b1_4 := Nat.lt_of_lt_of_le z_b1_3 s4.size
    have c_b2_4 := G.cells hb4 (b := w3.heap.size) (f := fun o => [Value.int IntKind.i64 3, Value.int IntKind.i64 r1, Value.int IntKind.i64 r2, Value.string E0][o]?) (by simp) (by simp)
    have z_b2_4 : w3.heap.size < w4.heap.size := by have := hb4.size; simp at this; omega
    have g4 : G w w4 := g3.trans s4
    clear c_b0_3 z_b0_3 c_b1_3 z_b1_3 hb4 s4 g3
    go_wp2_with fail
    refine (H5.out _).mono ?_
    rintro e w5 ⟨rfl, hb5⟩
    have s5 : G w4 w5 := (G.refl w4).trans hb5
    have c_b0_5 := G.cells s5 c_b0_4 z_b0_4
    have z_b0_5 := Nat.lt_of_lt_of_le z_b0_4 s5.size
    have c_b1_5 := G.cells s5 c_b1_4 z_b1_4
    have z_b1_5 := Nat.lt_of_lt_of_le z_b1_4 s5.size
    have c_b2_5 := G.cells s5 c_b2_4 z_b2_4
    have z_b2_5 := Nat.lt_of_lt_of_le z_b2_4 s5.size
    have g5 : G w w5 := g4.trans s5
    clear c_b0_4 z_b0_4 c_b1_4 z_b1_4 c_b2_4 z_b2_4 hb5 s5 g4
    go_wp2_with fail
    refine (H6.out _).mono ?_
    rintro e w6 ⟨rfl, hb6⟩
    have s6 : G w5 w6 := (G.refl w5).trans hb6
    have c_b0_6 := G.cells s6 c_b0_5 z_b0_5
    have z_b0_6 := Nat.lt_of_lt_of_le z_b0_5 s6.size
    have c_b1_6 := G.cells s6 c_b1_5 z_b1_5
    have z_b1_6 := Nat.lt_of_lt_of_le z_b1_5 s6.size
    have c_b2_6 := G.cells s6 c_b2_5 z_b2_5
    have z_b2_6 := Nat.lt_of_lt_of_le z_b2_5 s6.size
    have g6 : G w w6 := g5.trans s6
    clear c_b0_5 z_b0_5 c_b1_5 z_b1_5 c_b2_5 z_b2_5 hb6 s6 g5
    go_wp2_with fail
    refine (H7.out _).mono ?_
    rintro e w7 ⟨rfl, hb7⟩
    have s7 : G w6 w7 := ((G.refl w6).alloc _).trans hb7
    have c_b0_7 := G.cells s7 c_b0_6 z_b0_6
    have z_b0_7 := Nat.lt_of_lt_of_le z_b0_6 s7.size
    have c_b1_7 := G.cells s7 c_b1_6 z_b1_6
    have z_b1_7 := Nat.lt_of_lt_of_le z_b1_6 s7.size
    have c_b2_7 := G.cells s7 c_b2_6 z_b2_6
    have z_b2_7 := Nat.lt_of_lt_of_le z_b2_6 s7.size
    have c_b3_7 := G.cells hb7 (b := w6.heap.size) (f := fun o => [Value.int IntKind.i64 3, Value.int IntKind.i64 t1, Value.int IntKind.i64 t2, Value.string E0][o]?) (by simp) (by simp)
    have z_b3_7 : w6.heap.size < w7.heap.size := by have := hb7.size; simp at this; omega
    have g7 : G w w7 := g6.trans s7
    clear c_b0_6 z_b0_6 c_b1_6 z_b1_6 c_b2_6 z_b2_6 hb7 s7 g6
    go_wp2_with fail
    refine (H8.out _).mono ?_
    rintro e w8 ⟨rfl, hb8⟩
    have s8 : G w7 w8 := ((G.refl w7).alloc _).trans hb8
    have c_b0_8 := G.cells s8 c_b0_7 z_b0_7
    have z_b0_8 := Nat.lt_of_lt_of_le z_b0_7 s8.size
    have c_b1_8 := G.cells s8 c_b1_7 z_b1_7
    have z_b1_8 := Nat.lt_of_lt_of_le z_b1_7 s8.size
    have c_b2_8 := G.cells s8 c_b2_7 z_b2_7
    have z_b2_8 := Nat.lt_of_lt_of_le z_b2_7 s8.size
    have c_b3_8 := G.cells s8 c_b3_7 z_b3_7
    have z_b3_8 := Nat.lt_of_lt_of_le z_b3_7 s8.size
    have c_b4_8 := G.cells hb8 (b := w7.heap.size) (f := fun o => [Value.int IntKind.i64 3, Value.int IntKind.i64 p, Value.int IntKind.i64 q, Value.string E0][o]?) (by simp) (by simp)
    have z_b4_8 : w7.heap.size < w8.heap.size := by have := hb8.size; simp at this; omega
    have g8 : G w w8 := g7.trans s8
    clear c_b0_7 z_b0_7 c_b1_7 z_b1_7 c_b2_7 z_b2_7 c_b3_7 z_b3_7 hb8 s8 g7
    go_wp2_with fail
    refine (H9.out _).mono ?_
    rintro e w9 ⟨rfl, hb9⟩
    have s9 : G w8 w9 := ((G.refl w8).alloc _).trans hb9
    have c_b0_9 := G.cells s9 c_b0_8 z_b0_8
    have z_b0_9 := Nat.lt_of_lt_of_le z_b0_8 s9.size
    have c_b1_9 := G.cells s9 c_b1_8 z_b1_8
    have z_b1_9 := Nat.lt_of_lt_of_le z_b1_8 s9.size
    have c_b2_9 := G.cells s9 c_b2_8 z_b2_8
    have z_b2_9 := Nat.lt_of_lt_of_le z_b2_8 s9.size
    have c_b3_9 := G.cells s9 c_b3_8 z_b3_8
    have z_b3_9 := Nat.lt_of_lt_of_le z_b3_8 s9.size
    have c_b4_9 := G.cells s9 c_b4_8 z_b4_8
    have z_b4_9 := Nat.lt_of_lt_of_le z_b4_8 s9.size
    have c_b5_9 := G.cells hb9 (b := w8.heap.size) (f := fun o => [Value.int IntKind.i64 3, Value.int IntKind.i64 t1, Value.int IntKind.i64 t2, Value.string E0][o]?) (by simp) (by simp)
    have z_b5_9 : w8.heap.size < w9.heap.size := by have := hb9.size; simp at this; omega
    have g9 : G w w9 := g8.trans s9
    clear c_b0_8 z_b0_8 c_b1_8 z_b1_8 c_b2_8 z_b2_8 c_b3_8 z_b3_8 c_b4_8 z_b4_8 hb9 s9 g8
    go_wp2_with fail
    refine (H10.out _).mono ?_
    rintro e w10 ⟨rfl, hb10⟩
    have s10 : G w9 w10 := ((G.refl w9).alloc _).trans hb10
    have c_b0_10 := G.cells s10 c_b0_9 z_b0_9
    have z_b0_10 := Nat.lt_of_lt_of_le z_b0_9 s10.size
    have c_b1_10 := G.cells s10 c_b1_9 z_b1_9
    have z_b1_10 := Nat.lt_of_lt_of_le z_b1_9 s10.size
    have c_b2_10 := G.cells s10 c_b2_9 z_b2_9
    have z_b2_10 := Nat.lt_of_lt_of_le z_b2_9 s10.size
    have c_b3_10 := G.cells s10 c_b3_9 z_b3_9
    have z_b3_10 := Nat.lt_of_lt_of_le z_b3_9 s10.size
    have c_b4_10 := G.cells s10 c_b4_9 z_b4_9
    have z_b4_10 := Nat.lt_of_lt_of_le z_b4_9 s10.size
    have c_b5_10 := G.cells s10 c_b5_9 z_b5_9
    have z_b5_10 := Nat.lt_of_lt_of_le z_b5_9 s10.size
    have c_b6_10 := G.cells hb10 (b := w9.heap.size) (f := fun o => [Value.int IntKind.i64 3, Value.int IntKind.i64 A, Value.int IntKind.i64 B, Value.string E0][o]?) (by simp) (by simp)
    have z_b6_10 : w9.heap.size < w10.heap.size := by have := hb10.size; simp at this; omega
    have g10 : G w w10 := g9.trans s10
    clear c_b0_9 z_b0_9 c_b1_9 z_b1_9 c_b2_9 z_b2_9 c_b3_9 z_b3_9 c_b4_9 z_b4_9 c_b5_9 z_b5_9 hb10 s10 g9
    go_wp2_with fail
    go_ret
    exact ⟨rfl, g10⟩
end Go.Proofs.YtnoajhegcjoebaaGreatDoor
