/- Division of whole numbers; the law's 'wholes'. -/
import Derived.Test.YtnoajhegcjoebaaGreatDoorArithW
import Derived.Test.YtnoajhegcjoebaaGreatDoorRingVals
import Derived.Deep.QuietTactic
import Derived.BigQuiet
namespace Go.Proofs.YtnoajhegcjoebaaGreatDoor
open Go.RowKit
attribute [local go_sem] eqV neqV

theorem G.drewN {a w : World} (h : G a w) (n : Nat) : G a (w.drewN n) := ⟨h.os, h.tape, h.output, h.size, h.block⟩
theorem tdiv_i64 (a b : Int) (ha : I64 a) (hb : b ≠ 0) (h : ¬ (a = -9223372036854775808 ∧ b = -1)) : I64 (a.tdiv b) := by
  obtain ⟨h1, h2⟩ := ha
  have e : (a.tdiv b).natAbs = a.natAbs / b.natAbs := Int.natAbs_tdiv a b
  by_cases c1 : b = 1
  · subst c1; rw [Int.tdiv_one]; exact ⟨h1, h2⟩
  · by_cases c2 : b = -1
    · subst c2
      have : a.tdiv (-1) = -a := by rw [Int.tdiv_neg, Int.tdiv_one]
      rw [this]
      have : a ≠ -9223372036854775808 := fun e => h ⟨e, rfl⟩
      constructor <;> omega
    · have hb2 : 2 ≤ b.natAbs := by omega
      have : a.natAbs / b.natAbs ≤ a.natAbs / 2 := Nat.div_le_div_left hb2 (by decide)
      have : a.natAbs / 2 ≤ 4611686018427387904 := by omega
      constructor <;> omega
theorem tmod_i64 (a b : Int) (ha : I64 a) : I64 (a.tmod b) := by
  obtain ⟨h1, h2⟩ := ha
  have e : (a.tmod b).natAbs = a.natAbs % b.natAbs := Int.natAbs_tmod a b
  have : a.natAbs % b.natAbs ≤ a.natAbs := Nat.mod_le _ _
  have s : 0 ≤ a → 0 ≤ a.tmod b := fun h => Int.tmod_nonneg b h
  by_cases c : 0 ≤ a
  · have := s c; constructor <;> omega
  · have h3 : (-a).tmod b = -(a.tmod b) := Int.neg_tmod a b
    have h4 := Int.tmod_nonneg b (show 0 ≤ -a by omega)
    constructor <;> omega
theorem w64 {n : Int} (h : I64 n) : wrap64 n = n := by obtain ⟨h1, h2⟩ := h; unfold wrap64; omega

set_option maxRecDepth 100000 in
set_option maxHeartbeats 400000 in
theorem divWhole_ok (a b q : Int) (_hb' : ¬ b = 0) (h : (a == -9223372036854775808) = false ∨ (b == -1) = false) (hw : wrap64 (a.tdiv b) = q) (w : World) : Calls Tryz.prog 75 #[.int .i64 a, .int .i64 b] w fun e w' => e = .returned (.tuple #[IW q, .int .i64 0]) ∧ w' = w := by
  rcases h with h | h
  · go_enter Tryz.func75, Tryz.ntmps75
    go_wp2
    go_ret2
    exact ⟨rfl, rfl⟩
  · by_cases c : a = -9223372036854775808
    · have c' : (a == -9223372036854775808) = true := by simpa using c
      clear c
      go_enter Tryz.func75, Tryz.ntmps75
      go_wp2
      go_ret2
      exact ⟨rfl, rfl⟩
    · have c' : (a == -9223372036854775808) = false := by simpa using c
      clear c
      go_enter Tryz.func75, Tryz.ntmps75
      go_wp2
      go_ret2
      exact ⟨rfl, rfl⟩
set_option maxRecDepth 100000 in
set_option maxHeartbeats 400000 in
theorem divWhole_range (w : World) : Calls Tryz.prog 75 #[.int .i64 (-9223372036854775808), .int .i64 (-1)] w fun e w' => e = .returned (.tuple #[.nilIface, .int .i64 11]) ∧ w' = w := by
  go_enter Tryz.func75, Tryz.ntmps75
  go_wp2
  go_ret2
  exact ⟨rfl, rfl⟩
set_option maxRecDepth 100000 in
set_option maxHeartbeats 400000 in
theorem wa_div (a b : Int) (r : Value) (c : Int) (hb : (b == 0) = false) (h : ∀ w, Calls Tryz.prog 75 #[.int .i64 a, .int .i64 b] w fun e w' => e = .returned (.tuple #[r, .int .i64 c]) ∧ w' = w) (w : World) : Calls Tryz.prog 55 #[.int .i64 4, .int .i64 a, .int .i64 b] w fun e w' => e = .returned (.tuple #[r, .int .i64 c]) ∧ G w w' := by
  have H : Hid _ := h
  clear h
  go_enter Tryz.func55, Tryz.ntmps55
  go_wp2_with fail
  refine (H.out _).mono ?_
  rintro e w1 ⟨rfl, rfl⟩
  go_wp2
  go_ret2
  exact ⟨rfl, G.refl _⟩
set_option maxRecDepth 100000 in
set_option maxHeartbeats 400000 in
theorem wa_mod (a b r : Int) (hb : (b == 0) = false) (_hb' : ¬ b = 0) (hr : a.tmod b = r) (w : World) : Calls Tryz.prog 55 #[.int .i64 5, .int .i64 a, .int .i64 b] w fun e w' => e = .returned (.tuple #[IW r, .int .i64 0]) ∧ G w w' := by
  go_enter Tryz.func55, Tryz.ntmps55
  go_wp2
  go_ret2
  exact ⟨rfl, G.refl _⟩
set_option maxRecDepth 100000 in
set_option maxHeartbeats 400000 in
theorem wa_zero (op a : Int) (ho : op = 4 ∨ op = 5) (w : World) : Calls Tryz.prog 55 #[.int .i64 op, .int .i64 a, .int .i64 0] w fun e w' => e = .returned (.tuple #[.nilIface, .int .i64 12]) ∧ G w w' := by
  have n1 : (op == 1) = false := by simp; omega
  have n2 : (op == 2) = false := by simp; omega
  have n3 : (op == 3) = false := by simp; omega
  clear ho
  go_enter Tryz.func55, Tryz.ntmps55
  go_wp2
  go_ret2
  exact ⟨rfl, G.refl _⟩
/-- Binary on two whole numbers, out of wholeArithmetic's answer. -/
theorem Bw_ok (op : Int) (ho : 1 ≤ op) (ho' : op ≤ 5) (a b n : Int) (h : ∀ w, Calls Tryz.prog 55 #[.int .i64 op, .int .i64 a, .int .i64 b] w fun e w' => e = .returned (.tuple #[IW n, .int .i64 0]) ∧ G w w') (w : World) :
    Calls Tryz.prog 14 #[.int .i64 op, V 2 a 0 E0, V 2 b 0 E0] w fun e w' => e = .returned (.tuple #[V 2 n 0 E0, .int .i64 0]) ∧ G w w' :=
  Binary_of op _ _ _ _ _ _ _ _ _ _ _ 0 0 _ _ _ _ ho (by omega) (item_whole a) (item_whole b) (binary_arith op ho ho' _ _ _ _ (isNull_whole a) (isNull_whole b) (arith_ww op a b _ _ h)) (answer_whole n) w
theorem Bw_err (op : Int) (ho : 1 ≤ op) (ho' : op ≤ 5) (a b c : Int) (hc : (c != 0) = true) (h : ∀ w, Calls Tryz.prog 55 #[.int .i64 op, .int .i64 a, .int .i64 b] w fun e w' => e = .returned (.tuple #[.nilIface, .int .i64 c]) ∧ G w w') (w : World) :
    Calls Tryz.prog 14 #[.int .i64 op, V 2 a 0 E0, V 2 b 0 E0] w fun e w' => e = .returned (.tuple #[V 0 0 0 E0, .int .i64 c]) ∧ G w w' :=
  Binary_of op _ _ _ _ _ _ _ _ _ _ _ c c _ _ _ _ ho (by omega) (item_whole a) (item_whole b) (binary_arith op ho ho' _ _ _ _ (isNull_whole a) (isNull_whole b) (arith_ww op a b _ _ h)) (answer_err _ c hc) w

set_option maxRecDepth 100000 in
set_option maxHeartbeats 400000 in
theorem size_any (n : Int) (h1 : -9223372036854775808 < n) (h2 : n ≤ 9223372036854775807) (w : World) : Calls Tryz.prog 26 #[.int .i64 n] w fun e w' => e = .returned (.int .i64 (n.natAbs : Int)) ∧ w' = w := by
  by_cases c : n < 0
  · have e : ((n.natAbs : Nat) : Int) = -n := by omega
    rw [e]
    go_enter Tryz.func26, Tryz.ntmps26
    go_wp2
    go_ret
    exact ⟨rfl, rfl⟩
  · have e : ((n.natAbs : Nat) : Int) = n := by omega
    rw [e]
    go_enter Tryz.func26, Tryz.ntmps26
    go_wp2
    go_ret
    exact ⟨rfl, rfl⟩
set_option maxRecDepth 100000 in
set_option maxHeartbeats 2000000 in
theorem wholes_zero (a : Int) (h1 : ∀ w, Calls Tryz.prog 14 #[.int .i64 4, V 2 a 0 E0, V 2 0 0 E0] w fun e w' => e = .returned (.tuple #[V 0 0 0 E0, .int .i64 12]) ∧ G w w')(h2 : ∀ w, Calls Tryz.prog 14 #[.int .i64 5, V 2 a 0 E0, V 2 0 0 E0] w fun e w' => e = .returned (.tuple #[V 0 0 0 E0, .int .i64 12]) ∧ G w w') (w : World) : Calls Tryz.prog 16 #[.int .i64 a, .int .i64 0] w fun e w' => e = .returned (.bool true) ∧ G w w' := by
  have H1 : Hid _ := h1; have H2 : Hid _ := h2
  clear h1 h2
  go_enter Tryz.func16, Tryz.ntmps16
  go_wp2_with fail
  refine (H1.out _).mono ?_
  rintro e w1 ⟨rfl, hb1⟩
  have g1 : G w w1 := (((G.refl w).alloc _).alloc _).trans hb1
  have c_b0_1 := G.cells (((G.refl (w.alloc _)).alloc _).trans hb1) (b := w.heap.size) (f := fun o => [Value.int IntKind.i64 2, Value.int IntKind.i64 a, Value.int IntKind.i64 0, Value.string E0][o]?) (by simp) (by simp)
  have z_b0_1 : w.heap.size < w1.heap.size := by have := hb1.size; simp at this; omega
  have c_b1_1 := G.cells hb1 (b := w.heap.size + 1) (f := fun o => [Value.int IntKind.i64 2, Value.int IntKind.i64 0, Value.int IntKind.i64 0, Value.string E0][o]?) (by simp) (by simp)
  have z_b1_1 : w.heap.size + 1 < w1.heap.size := by have := hb1.size; simp at this; omega
  clear hb1
  go_wp2_with fail
  refine (H2.out _).mono ?_
  rintro e w2 ⟨rfl, hb2⟩
  have s2 : G w1 w2 := ((G.refl w1).alloc _).trans hb2
  have c_b0_2 := G.cells s2 c_b0_1 z_b0_1
  have z_b0_2 := Nat.lt_of_lt_of_le z_b0_1 s2.size
  have c_b1_2 := G.cells s2 c_b1_1 z_b1_1
  have z_b1_2 := Nat.lt_of_lt_of_le z_b1_1 s2.size
  have c_b2_2 := G.cells hb2 (b := w1.heap.size) (f := fun o => [Value.int IntKind.i64 0, Value.int IntKind.i64 0, Value.int IntKind.i64 0, Value.string E0][o]?) (by simp) (by simp)
  have z_b2_2 : w1.heap.size < w2.heap.size := by have := hb2.size; simp at this; omega
  have g2 : G w w2 := g1.trans s2
  clear c_b0_1 z_b0_1 c_b1_1 z_b1_1 hb2 s2 g1
  go_wp2_with fail
  go_ret
  exact ⟨rfl, g2.alloc _⟩
set_option maxRecDepth 100000 in
set_option maxHeartbeats 2000000 in
theorem wholes_edge  (h1 : ∀ w, Calls Tryz.prog 14 #[.int .i64 4, V 2 (-9223372036854775808) 0 E0, V 2 (-1) 0 E0] w fun e w' => e = .returned (.tuple #[V 0 0 0 E0, .int .i64 11]) ∧ G w w')(h2 : ∀ w, Calls Tryz.prog 14 #[.int .i64 5, V 2 (-9223372036854775808) 0 E0, V 2 (-1) 0 E0] w fun e w' => e = .returned (.tuple #[V 2 0 0 E0, .int .i64 0]) ∧ G w w') (w : World) : Calls Tryz.prog 16 #[.int .i64 (-9223372036854775808), .int .i64 (-1)] w fun e w' => e = .returned (.bool true) ∧ G w w' := by
  have H1 : Hid _ := h1; have H2 : Hid _ := h2
  clear h1 h2
  go_enter Tryz.func16, Tryz.ntmps16
  go_wp2_with fail
  refine (H1.out _).mono ?_
  rintro e w1 ⟨rfl, hb1⟩
  have g1 : G w w1 := (((G.refl w).alloc _).alloc _).trans hb1
  have c_b0_1 := G.cells (((G.refl (w.alloc _)).alloc _).trans hb1) (b := w.heap.size) (f := fun o => [Value.int IntKind.i64 2, Value.int IntKind.i64 (-9223372036854775808), Value.int IntKind.i64 0, Value.string E0][o]?) (by simp) (by simp)
  have z_b0_1 : w.heap.size < w1.heap.size := by have := hb1.size; simp at this; omega
  have c_b1_1 := G.cells hb1 (b := w.heap.size + 1) (f := fun o => [Value.int IntKind.i64 2, Value.int IntKind.i64 (-1), Value.int IntKind.i64 0, Value.string E0][o]?) (by simp) (by simp)
  have z_b1_1 : w.heap.size + 1 < w1.heap.size := by have := hb1.size; simp at this; omega
  clear hb1
  go_wp2_with fail
  refine (H2.out _).mono ?_
  rintro e w2 ⟨rfl, hb2⟩
  have s2 : G w1 w2 := ((G.refl w1).alloc _).trans hb2
  have c_b0_2 := G.cells s2 c_b0_1 z_b0_1
  have z_b0_2 := Nat.lt_of_lt_of_le z_b0_1 s2.size
  have c_b1_2 := G.cells s2 c_b1_1 z_b1_1
  have z_b1_2 := Nat.lt_of_lt_of_le z_b1_1 s2.size
  have c_b2_2 := G.cells hb2 (b := w1.heap.size) (f := fun o => [Value.int IntKind.i64 0, Value.int IntKind.i64 0, Value.int IntKind.i64 0, Value.string E0][o]?) (by simp) (by simp)
  have z_b2_2 : w1.heap.size < w2.heap.size := by have := hb2.size; simp at this; omega
  have g2 : G w w2 := g1.trans s2
  clear c_b0_1 z_b0_1 c_b1_1 z_b1_1 hb2 s2 g1
  go_wp2_with fail
  go_ret
  exact ⟨rfl, g2.alloc _⟩
set_option maxRecDepth 100000 in
set_option maxHeartbeats 2000000 in
theorem wholes_r0_min (a q : Int) (h1 : ∀ w, Calls Tryz.prog 14 #[.int .i64 4, V 2 a 0 E0, V 2 (-9223372036854775808) 0 E0] w fun e w' => e = .returned (.tuple #[V 2 q 0 E0, .int .i64 0]) ∧ G w w')(h2 : ∀ w, Calls Tryz.prog 14 #[.int .i64 5, V 2 a 0 E0, V 2 (-9223372036854775808) 0 E0] w fun e w' => e = .returned (.tuple #[V 2 0 0 E0, .int .i64 0]) ∧ G w w') (edge : (a == -9223372036854775808) = false ∨ ((a == -9223372036854775808) = true ∧ True)) (wa : wrap64 a = a) (s3 : q * (-9223372036854775808) = a)  (w : World) : Calls Tryz.prog 16 #[.int .i64 a, .int .i64 (-9223372036854775808)] w fun e w' => e = .returned (.bool true) ∧ G w w' := by
  have wr0 : IntKind.i64.wrap 0 = 0 := by decide
  rcases edge with E | ⟨E, E2⟩
  all_goals
    have H1 : Hid _ := h1; have H2 : Hid _ := h2
    clear h1 h2
    go_enter Tryz.func16, Tryz.ntmps16
    go_wp2_with fail
    refine (H1.out _).mono ?_
    rintro e w1 ⟨rfl, hb1⟩
    have g1 : G w w1 := (((G.refl w).alloc _).alloc _).trans hb1
    have c_b0_1 := G.cells (((G.refl (w.alloc _)).alloc _).trans hb1) (b := w.heap.size) (f := fun o => [Value.int IntKind.i64 2, Value.int IntKind.i64 a, Value.int IntKind.i64 0, Value.string E0][o]?) (by simp) (by simp)
    have z_b0_1 : w.heap.size < w1.heap.size := by have := hb1.size; simp at this; omega
    have c_b1_1 := G.cells hb1 (b := w.heap.size + 1) (f := fun o => [Value.int IntKind.i64 2, Value.int IntKind.i64 (-9223372036854775808), Value.int IntKind.i64 0, Value.string E0][o]?) (by simp) (by simp)
    have z_b1_1 : w.heap.size + 1 < w1.heap.size := by have := hb1.size; simp at this; omega
    clear hb1
    go_wp2_with fail
    refine (H2.out _).mono ?_
    rintro e w2 ⟨rfl, hb2⟩
    have s2 : G w1 w2 := ((G.refl w1).alloc _).trans hb2
    have c_b0_2 := G.cells s2 c_b0_1 z_b0_1
    have z_b0_2 := Nat.lt_of_lt_of_le z_b0_1 s2.size
    have c_b1_2 := G.cells s2 c_b1_1 z_b1_1
    have z_b1_2 := Nat.lt_of_lt_of_le z_b1_1 s2.size
    have c_b2_2 := G.cells hb2 (b := w1.heap.size) (f := fun o => [Value.int IntKind.i64 2, Value.int IntKind.i64 q, Value.int IntKind.i64 0, Value.string E0][o]?) (by simp) (by simp)
    have z_b2_2 : w1.heap.size < w2.heap.size := by have := hb2.size; simp at this; omega
    have g2 : G w w2 := g1.trans s2
    clear c_b0_1 z_b0_1 c_b1_1 z_b1_1 hb2 s2 g1
    go_wp2_with fail
    generalize hw3 : w2.alloc _ = w3
    have s3 : G w2 w3 := hw3 ▸ (G.refl w2).alloc _
    have c_b0_3 := G.cells s3 c_b0_2 z_b0_2
    have z_b0_3 := Nat.lt_of_lt_of_le z_b0_2 s3.size
    have c_b1_3 := G.cells s3 c_b1_2 z_b1_2
    have z_b1_3 := Nat.lt_of_lt_of_le z_b1_2 s3.size
    have c_b2_3 := G.cells s3 c_b2_2 z_b2_2
    have z_b2_3 := Nat.lt_of_lt_of_le z_b2_2 s3.size
    have c_b3_3 : ∀ o, w3.cell? ⟨w2.heap.size, o, none⟩ = [Value.int IntKind.i64 2, Value.int IntKind.i64 0, Value.int IntKind.i64 0, Value.string E0][o]? := by subst hw3; simp
    have z_b3_3 : w2.heap.size < w3.heap.size := by subst hw3; simp
    have g3 : G w w3 := g2.trans s3
    clear c_b0_2 z_b0_2 c_b1_2 z_b1_2 c_b2_2 z_b2_2 hw3 s3 g2
    go_quiet (fail)
    go_wp2
    go_ret
    exact ⟨rfl, G.drewN g3 _⟩
set_option maxRecDepth 100000 in
set_option maxHeartbeats 2000000 in
theorem wholes_r0_not (a b q : Int) (h1 : ∀ w, Calls Tryz.prog 14 #[.int .i64 4, V 2 a 0 E0, V 2 b 0 E0] w fun e w' => e = .returned (.tuple #[V 2 q 0 E0, .int .i64 0]) ∧ G w w')(h2 : ∀ w, Calls Tryz.prog 14 #[.int .i64 5, V 2 a 0 E0, V 2 b 0 E0] w fun e w' => e = .returned (.tuple #[V 2 0 0 E0, .int .i64 0]) ∧ G w w') (b0 : (b == 0) = false) (edge : (a == -9223372036854775808) = false ∨ ((a == -9223372036854775808) = true ∧ (b == -1) = false)) (wa : wrap64 a = a) (s3 : q * b = a)  (bm : (b == -9223372036854775808) = false) (l1 : 0 < (b.natAbs : Int)) (hs : ∀ w, Calls Tryz.prog 26 #[.int .i64 b] w fun e w' => e = .returned (.int .i64 (b.natAbs : Int)) ∧ w' = w) (w : World) : Calls Tryz.prog 16 #[.int .i64 a, .int .i64 b] w fun e w' => e = .returned (.bool true) ∧ G w w' := by
  have wr0 : IntKind.i64.wrap 0 = 0 := by decide
  have HZ : Hid _ := hs
  clear hs
  generalize (b.natAbs : Int) = n at *
  rcases edge with E | ⟨E, E2⟩
  all_goals
    have H1 : Hid _ := h1; have H2 : Hid _ := h2
    clear h1 h2
    go_enter Tryz.func16, Tryz.ntmps16
    go_wp2_with fail
    refine (H1.out _).mono ?_
    rintro e w1 ⟨rfl, hb1⟩
    have g1 : G w w1 := (((G.refl w).alloc _).alloc _).trans hb1
    have c_b0_1 := G.cells (((G.refl (w.alloc _)).alloc _).trans hb1) (b := w.heap.size) (f := fun o => [Value.int IntKind.i64 2, Value.int IntKind.i64 a, Value.int IntKind.i64 0, Value.string E0][o]?) (by simp) (by simp)
    have z_b0_1 : w.heap.size < w1.heap.size := by have := hb1.size; simp at this; omega
    have c_b1_1 := G.cells hb1 (b := w.heap.size + 1) (f := fun o => [Value.int IntKind.i64 2, Value.int IntKind.i64 b, Value.int IntKind.i64 0, Value.string E0][o]?) (by simp) (by simp)
    have z_b1_1 : w.heap.size + 1 < w1.heap.size := by have := hb1.size; simp at this; omega
    clear hb1
    go_wp2_with fail
    refine (H2.out _).mono ?_
    rintro e w2 ⟨rfl, hb2⟩
    have s2 : G w1 w2 := ((G.refl w1).alloc _).trans hb2
    have c_b0_2 := G.cells s2 c_b0_1 z_b0_1
    have z_b0_2 := Nat.lt_of_lt_of_le z_b0_1 s2.size
    have c_b1_2 := G.cells s2 c_b1_1 z_b1_1
    have z_b1_2 := Nat.lt_of_lt_of_le z_b1_1 s2.size
    have c_b2_2 := G.cells hb2 (b := w1.heap.size) (f := fun o => [Value.int IntKind.i64 2, Value.int IntKind.i64 q, Value.int IntKind.i64 0, Value.string E0][o]?) (by simp) (by simp)
    have z_b2_2 : w1.heap.size < w2.heap.size := by have := hb2.size; simp at this; omega
    have g2 : G w w2 := g1.trans s2
    clear c_b0_1 z_b0_1 c_b1_1 z_b1_1 hb2 s2 g1
    go_wp2_with fail
    generalize hw3 : w2.alloc _ = w3
    have s3 : G w2 w3 := hw3 ▸ (G.refl w2).alloc _
    have c_b0_3 := G.cells s3 c_b0_2 z_b0_2
    have z_b0_3 := Nat.lt_of_lt_of_le z_b0_2 s3.size
    have c_b1_3 := G.cells s3 c_b1_2 z_b1_2
    have z_b1_3 := Nat.lt_of_lt_of_le z_b1_2 s3.size
    have c_b2_3 := G.cells s3 c_b2_2 z_b2_2
    have z_b2_3 := Nat.lt_of_lt_of_le z_b2_2 s3.size
    have c_b3_3 : ∀ o, w3.cell? ⟨w2.heap.size, o, none⟩ = [Value.int IntKind.i64 2, Value.int IntKind.i64 0, Value.int IntKind.i64 0, Value.string E0][o]? := by subst hw3; simp
    have z_b3_3 : w2.heap.size < w3.heap.size := by subst hw3; simp
    have g3 : G w w3 := g2.trans s3
    clear c_b0_2 z_b0_2 c_b1_2 z_b1_2 c_b2_2 z_b2_2 hw3 s3 g2
    have HS : Hid (∀ W, G w3 W → (∀ (o : Nat), W.cell? { block := w2.heap.size, off := o } = [Value.int IntKind.i64 2, Value.int IntKind.i64 0, Value.int IntKind.i64 0, Value.string E0][o]?) ∧ G w3 W) := fun W h => ⟨G.cells h c_b3_3 z_b3_3, h⟩
    go_region_held3 (fun W => (∀ (o : Nat), W.cell? { block := w2.heap.size, off := o } = [Value.int IntKind.i64 2, Value.int IntKind.i64 0, Value.int IntKind.i64 0, Value.string E0][o]?) ∧ G w3 W) ((exact HS.out _ (by repeat (first | exact G.refl _ | refine G.drew ?_ | refine G.alloc ?_ _ | refine G.trans ?_ (by assumption))))) (first | (go_at_call 26; refine (HZ.out _).mono ?_; rintro e wy ⟨rfl, rfl⟩) | fail)
    rename_i hH
    have hG2 := hH.2
    go_wp2
    go_ret
    exact ⟨by first | rfl | simp, g3.trans hG2⟩
set_option maxRecDepth 100000 in
set_option maxHeartbeats 2000000 in
theorem wholes_rm_min (a q r : Int) (h1 : ∀ w, Calls Tryz.prog 14 #[.int .i64 4, V 2 a 0 E0, V 2 (-9223372036854775808) 0 E0] w fun e w' => e = .returned (.tuple #[V 2 q 0 E0, .int .i64 0]) ∧ G w w')(h2 : ∀ w, Calls Tryz.prog 14 #[.int .i64 5, V 2 a 0 E0, V 2 (-9223372036854775808) 0 E0] w fun e w' => e = .returned (.tuple #[V 2 r 0 E0, .int .i64 0]) ∧ G w w') (edge : (a == -9223372036854775808) = false ∨ ((a == -9223372036854775808) = true ∧ True)) (wa : wrap64 a = a) (s1 : wrap64 (q * (-9223372036854775808)) = q * (-9223372036854775808)) (s3 : q * (-9223372036854775808) + r = a) (r1 : r < 0) (r2 : a < 0) (w : World) : Calls Tryz.prog 16 #[.int .i64 a, .int .i64 (-9223372036854775808)] w fun e w' => e = .returned (.bool true) ∧ G w w' := by
  have r4 : (r != 0) = true := by simp; omega
  rcases edge with E | ⟨E, E2⟩
  all_goals
    have H1 : Hid _ := h1; have H2 : Hid _ := h2
    clear h1 h2
    go_enter Tryz.func16, Tryz.ntmps16
    go_wp2_with fail
    refine (H1.out _).mono ?_
    rintro e w1 ⟨rfl, hb1⟩
    have g1 : G w w1 := (((G.refl w).alloc _).alloc _).trans hb1
    have c_b0_1 := G.cells (((G.refl (w.alloc _)).alloc _).trans hb1) (b := w.heap.size) (f := fun o => [Value.int IntKind.i64 2, Value.int IntKind.i64 a, Value.int IntKind.i64 0, Value.string E0][o]?) (by simp) (by simp)
    have z_b0_1 : w.heap.size < w1.heap.size := by have := hb1.size; simp at this; omega
    have c_b1_1 := G.cells hb1 (b := w.heap.size + 1) (f := fun o => [Value.int IntKind.i64 2, Value.int IntKind.i64 (-9223372036854775808), Value.int IntKind.i64 0, Value.string E0][o]?) (by simp) (by simp)
    have z_b1_1 : w.heap.size + 1 < w1.heap.size := by have := hb1.size; simp at this; omega
    clear hb1
    go_wp2_with fail
    refine (H2.out _).mono ?_
    rintro e w2 ⟨rfl, hb2⟩
    have s2 : G w1 w2 := ((G.refl w1).alloc _).trans hb2
    have c_b0_2 := G.cells s2 c_b0_1 z_b0_1
    have z_b0_2 := Nat.lt_of_lt_of_le z_b0_1 s2.size
    have c_b1_2 := G.cells s2 c_b1_1 z_b1_1
    have z_b1_2 := Nat.lt_of_lt_of_le z_b1_1 s2.size
    have c_b2_2 := G.cells hb2 (b := w1.heap.size) (f := fun o => [Value.int IntKind.i64 2, Value.int IntKind.i64 q, Value.int IntKind.i64 0, Value.string E0][o]?) (by simp) (by simp)
    have z_b2_2 : w1.heap.size < w2.heap.size := by have := hb2.size; simp at this; omega
    have g2 : G w w2 := g1.trans s2
    clear c_b0_1 z_b0_1 c_b1_1 z_b1_1 hb2 s2 g1
    go_wp2_with fail
    generalize hw3 : w2.alloc _ = w3
    have s3 : G w2 w3 := hw3 ▸ (G.refl w2).alloc _
    have c_b0_3 := G.cells s3 c_b0_2 z_b0_2
    have z_b0_3 := Nat.lt_of_lt_of_le z_b0_2 s3.size
    have c_b1_3 := G.cells s3 c_b1_2 z_b1_2
    have z_b1_3 := Nat.lt_of_lt_of_le z_b1_2 s3.size
    have c_b2_3 := G.cells s3 c_b2_2 z_b2_2
    have z_b2_3 := Nat.lt_of_lt_of_le z_b2_2 s3.size
    have c_b3_3 : ∀ o, w3.cell? ⟨w2.heap.size, o, none⟩ = [Value.int IntKind.i64 2, Value.int IntKind.i64 r, Value.int IntKind.i64 0, Value.string E0][o]? := by subst hw3; simp
    have z_b3_3 : w2.heap.size < w3.heap.size := by subst hw3; simp
    have g3 : G w w3 := g2.trans s3
    clear c_b0_2 z_b0_2 c_b1_2 z_b1_2 c_b2_2 z_b2_2 hw3 s3 g2
    go_quiet (fail)
    go_wp2
    go_ret
    exact ⟨rfl, G.drewN g3 _⟩
set_option maxRecDepth 100000 in
set_option maxHeartbeats 2000000 in
theorem wholes_rm_not (a b q r : Int) (h1 : ∀ w, Calls Tryz.prog 14 #[.int .i64 4, V 2 a 0 E0, V 2 b 0 E0] w fun e w' => e = .returned (.tuple #[V 2 q 0 E0, .int .i64 0]) ∧ G w w')(h2 : ∀ w, Calls Tryz.prog 14 #[.int .i64 5, V 2 a 0 E0, V 2 b 0 E0] w fun e w' => e = .returned (.tuple #[V 2 r 0 E0, .int .i64 0]) ∧ G w w') (b0 : (b == 0) = false) (edge : (a == -9223372036854775808) = false ∨ ((a == -9223372036854775808) = true ∧ (b == -1) = false)) (wa : wrap64 a = a) (s1 : wrap64 (q * b) = q * b) (s3 : q * b + r = a) (r1 : r < 0) (r2 : a < 0) (bm : (b == -9223372036854775808) = false) (l1 : r < (b.natAbs : Int)) (l2 : -r < (b.natAbs : Int)) (hs : ∀ w, Calls Tryz.prog 26 #[.int .i64 b] w fun e w' => e = .returned (.int .i64 (b.natAbs : Int)) ∧ w' = w) (l3 : IntKind.i64.wrap (-r) = -r) (w : World) : Calls Tryz.prog 16 #[.int .i64 a, .int .i64 b] w fun e w' => e = .returned (.bool true) ∧ G w w' := by
  have r4 : (r != 0) = true := by simp; omega
  have HZ : Hid _ := hs
  clear hs
  generalize (b.natAbs : Int) = n at *
  rcases edge with E | ⟨E, E2⟩
  all_goals
    have H1 : Hid _ := h1; have H2 : Hid _ := h2
    clear h1 h2
    go_enter Tryz.func16, Tryz.ntmps16
    go_wp2_with fail
    refine (H1.out _).mono ?_
    rintro e w1 ⟨rfl, hb1⟩
    have g1 : G w w1 := (((G.refl w).alloc _).alloc _).trans hb1
    have c_b0_1 := G.cells (((G.refl (w.alloc _)).alloc _).trans hb1) (b := w.heap.size) (f := fun o => [Value.int IntKind.i64 2, Value.int IntKind.i64 a, Value.int IntKind.i64 0, Value.string E0][o]?) (by simp) (by simp)
    have z_b0_1 : w.heap.size < w1.heap.size := by have := hb1.size; simp at this; omega
    have c_b1_1 := G.cells hb1 (b := w.heap.size + 1) (f := fun o => [Value.int IntKind.i64 2, Value.int IntKind.i64 b, Value.int IntKind.i64 0, Value.string E0][o]?) (by simp) (by simp)
    have z_b1_1 : w.heap.size + 1 < w1.heap.size := by have := hb1.size; simp at this; omega
    clear hb1
    go_wp2_with fail
    refine (H2.out _).mono ?_
    rintro e w2 ⟨rfl, hb2⟩
    have s2 : G w1 w2 := ((G.refl w1).alloc _).trans hb2
    have c_b0_2 := G.cells s2 c_b0_1 z_b0_1
    have z_b0_2 := Nat.lt_of_lt_of_le z_b0_1 s2.size
    have c_b1_2 := G.cells s2 c_b1_1 z_b1_1
    have z_b1_2 := Nat.lt_of_lt_of_le z_b1_1 s2.size
    have c_b2_2 := G.cells hb2 (b := w1.heap.size) (f := fun o => [Value.int IntKind.i64 2, Value.int IntKind.i64 q, Value.int IntKind.i64 0, Value.string E0][o]?) (by simp) (by simp)
    have z_b2_2 : w1.heap.size < w2.heap.size := by have := hb2.size; simp at this; omega
    have g2 : G w w2 := g1.trans s2
    clear c_b0_1 z_b0_1 c_b1_1 z_b1_1 hb2 s2 g1
    go_wp2_with fail
    generalize hw3 : w2.alloc _ = w3
    have s3 : G w2 w3 := hw3 ▸ (G.refl w2).alloc _
    have c_b0_3 := G.cells s3 c_b0_2 z_b0_2
    have z_b0_3 := Nat.lt_of_lt_of_le z_b0_2 s3.size
    have c_b1_3 := G.cells s3 c_b1_2 z_b1_2
    have z_b1_3 := Nat.lt_of_lt_of_le z_b1_2 s3.size
    have c_b2_3 := G.cells s3 c_b2_2 z_b2_2
    have z_b2_3 := Nat.lt_of_lt_of_le z_b2_2 s3.size
    have c_b3_3 : ∀ o, w3.cell? ⟨w2.heap.size, o, none⟩ = [Value.int IntKind.i64 2, Value.int IntKind.i64 r, Value.int IntKind.i64 0, Value.string E0][o]? := by subst hw3; simp
    have z_b3_3 : w2.heap.size < w3.heap.size := by subst hw3; simp
    have g3 : G w w3 := g2.trans s3
    clear c_b0_2 z_b0_2 c_b1_2 z_b1_2 c_b2_2 z_b2_2 hw3 s3 g2
    have HS : Hid (∀ W, G w3 W → (∀ (o : Nat), W.cell? { block := w2.heap.size, off := o } = [Value.int IntKind.i64 2, Value.int IntKind.i64 r, Value.int IntKind.i64 0, Value.string E0][o]?) ∧ G w3 W) := fun W h => ⟨G.cells h c_b3_3 z_b3_3, h⟩
    go_region_held3 (fun W => (∀ (o : Nat), W.cell? { block := w2.heap.size, off := o } = [Value.int IntKind.i64 2, Value.int IntKind.i64 r, Value.int IntKind.i64 0, Value.string E0][o]?) ∧ G w3 W) ((exact HS.out _ (by repeat (first | exact G.refl _ | refine G.drew ?_ | refine G.alloc ?_ _ | refine G.trans ?_ (by assumption))))) (first | (go_at_call 26; refine (HZ.out _).mono ?_; rintro e wy ⟨rfl, rfl⟩) | fail)
    rename_i hH
    have hG2 := hH.2
    go_wp2
    go_ret
    exact ⟨by first | rfl | simp, g3.trans hG2⟩
set_option maxRecDepth 100000 in
set_option maxHeartbeats 2000000 in
theorem wholes_rp_min (a q r : Int) (h1 : ∀ w, Calls Tryz.prog 14 #[.int .i64 4, V 2 a 0 E0, V 2 (-9223372036854775808) 0 E0] w fun e w' => e = .returned (.tuple #[V 2 q 0 E0, .int .i64 0]) ∧ G w w')(h2 : ∀ w, Calls Tryz.prog 14 #[.int .i64 5, V 2 a 0 E0, V 2 (-9223372036854775808) 0 E0] w fun e w' => e = .returned (.tuple #[V 2 r 0 E0, .int .i64 0]) ∧ G w w') (edge : (a == -9223372036854775808) = false ∨ ((a == -9223372036854775808) = true ∧ True)) (wa : wrap64 a = a) (s1 : wrap64 (q * (-9223372036854775808)) = q * (-9223372036854775808)) (s3 : q * (-9223372036854775808) + r = a) (r0 : ¬ r = 0) (r1 : ¬ r < 0) (r2 : ¬ a < 0) (w : World) : Calls Tryz.prog 16 #[.int .i64 a, .int .i64 (-9223372036854775808)] w fun e w' => e = .returned (.bool true) ∧ G w w' := by
  have rb : decide (r < 0) = false := by simp; omega
  have ab : decide (a < 0) = false := by simp; omega
  have r4 : (r != 0) = true := by simp; omega
  rcases edge with E | ⟨E, E2⟩
  all_goals
    have H1 : Hid _ := h1; have H2 : Hid _ := h2
    clear h1 h2
    go_enter Tryz.func16, Tryz.ntmps16
    go_wp2_with fail
    refine (H1.out _).mono ?_
    rintro e w1 ⟨rfl, hb1⟩
    have g1 : G w w1 := (((G.refl w).alloc _).alloc _).trans hb1
    have c_b0_1 := G.cells (((G.refl (w.alloc _)).alloc _).trans hb1) (b := w.heap.size) (f := fun o => [Value.int IntKind.i64 2, Value.int IntKind.i64 a, Value.int IntKind.i64 0, Value.string E0][o]?) (by simp) (by simp)
    have z_b0_1 : w.heap.size < w1.heap.size := by have := hb1.size; simp at this; omega
    have c_b1_1 := G.cells hb1 (b := w.heap.size + 1) (f := fun o => [Value.int IntKind.i64 2, Value.int IntKind.i64 (-9223372036854775808), Value.int IntKind.i64 0, Value.string E0][o]?) (by simp) (by simp)
    have z_b1_1 : w.heap.size + 1 < w1.heap.size := by have := hb1.size; simp at this; omega
    clear hb1
    go_wp2_with fail
    refine (H2.out _).mono ?_
    rintro e w2 ⟨rfl, hb2⟩
    have s2 : G w1 w2 := ((G.refl w1).alloc _).trans hb2
    have c_b0_2 := G.cells s2 c_b0_1 z_b0_1
    have z_b0_2 := Nat.lt_of_lt_of_le z_b0_1 s2.size
    have c_b1_2 := G.cells s2 c_b1_1 z_b1_1
    have z_b1_2 := Nat.lt_of_lt_of_le z_b1_1 s2.size
    have c_b2_2 := G.cells hb2 (b := w1.heap.size) (f := fun o => [Value.int IntKind.i64 2, Value.int IntKind.i64 q, Value.int IntKind.i64 0, Value.string E0][o]?) (by simp) (by simp)
    have z_b2_2 : w1.heap.size < w2.heap.size := by have := hb2.size; simp at this; omega
    have g2 : G w w2 := g1.trans s2
    clear c_b0_1 z_b0_1 c_b1_1 z_b1_1 hb2 s2 g1
    go_wp2_with fail
    generalize hw3 : w2.alloc _ = w3
    have s3 : G w2 w3 := hw3 ▸ (G.refl w2).alloc _
    have c_b0_3 := G.cells s3 c_b0_2 z_b0_2
    have z_b0_3 := Nat.lt_of_lt_of_le z_b0_2 s3.size
    have c_b1_3 := G.cells s3 c_b1_2 z_b1_2
    have z_b1_3 := Nat.lt_of_lt_of_le z_b1_2 s3.size
    have c_b2_3 := G.cells s3 c_b2_2 z_b2_2
    have z_b2_3 := Nat.lt_of_lt_of_le z_b2_2 s3.size
    have c_b3_3 : ∀ o, w3.cell? ⟨w2.heap.size, o, none⟩ = [Value.int IntKind.i64 2, Value.int IntKind.i64 r, Value.int IntKind.i64 0, Value.string E0][o]? := by subst hw3; simp
    have z_b3_3 : w2.heap.size < w3.heap.size := by subst hw3; simp
    have g3 : G w w3 := g2.trans s3
    clear c_b0_2 z_b0_2 c_b1_2 z_b1_2 c_b2_2 z_b2_2 hw3 s3 g2
    go_quiet (fail)
    go_wp2
    go_ret
    exact ⟨rfl, G.drewN g3 _⟩
set_option maxRecDepth 100000 in
set_option maxHeartbeats 2000000 in
theorem wholes_rp_not (a b q r : Int) (h1 : ∀ w, Calls Tryz.prog 14 #[.int .i64 4, V 2 a 0 E0, V 2 b 0 E0] w fun e w' => e = .returned (.tuple #[V 2 q 0 E0, .int .i64 0]) ∧ G w w')(h2 : ∀ w, Calls Tryz.prog 14 #[.int .i64 5, V 2 a 0 E0, V 2 b 0 E0] w fun e w' => e = .returned (.tuple #[V 2 r 0 E0, .int .i64 0]) ∧ G w w') (b0 : (b == 0) = false) (edge : (a == -9223372036854775808) = false ∨ ((a == -9223372036854775808) = true ∧ (b == -1) = false)) (wa : wrap64 a = a) (s1 : wrap64 (q * b) = q * b) (s3 : q * b + r = a) (r0 : ¬ r = 0) (r1 : ¬ r < 0) (r2 : ¬ a < 0) (bm : (b == -9223372036854775808) = false) (l1 : r < (b.natAbs : Int)) (l2 : -r < (b.natAbs : Int)) (hs : ∀ w, Calls Tryz.prog 26 #[.int .i64 b] w fun e w' => e = .returned (.int .i64 (b.natAbs : Int)) ∧ w' = w) (l3 : IntKind.i64.wrap (-r) = -r) (w : World) : Calls Tryz.prog 16 #[.int .i64 a, .int .i64 b] w fun e w' => e = .returned (.bool true) ∧ G w w' := by
  have rb : decide (r < 0) = false := by simp; omega
  have ab : decide (a < 0) = false := by simp; omega
  have r4 : (r != 0) = true := by simp; omega
  have HZ : Hid _ := hs
  clear hs
  generalize (b.natAbs : Int) = n at *
  rcases edge with E | ⟨E, E2⟩
  all_goals
    have H1 : Hid _ := h1; have H2 : Hid _ := h2
    clear h1 h2
    go_enter Tryz.func16, Tryz.ntmps16
    go_wp2_with fail
    refine (H1.out _).mono ?_
    rintro e w1 ⟨rfl, hb1⟩
    have g1 : G w w1 := (((G.refl w).alloc _).alloc _).trans hb1
    have c_b0_1 := G.cells (((G.refl (w.alloc _)).alloc _).trans hb1) (b := w.heap.size) (f := fun o => [Value.int IntKind.i64 2, Value.int IntKind.i64 a, Value.int IntKind.i64 0, Value.string E0][o]?) (by simp) (by simp)
    have z_b0_1 : w.heap.size < w1.heap.size := by have := hb1.size; simp at this; omega
    have c_b1_1 := G.cells hb1 (b := w.heap.size + 1) (f := fun o => [Value.int IntKind.i64 2, Value.int IntKind.i64 b, Value.int IntKind.i64 0, Value.string E0][o]?) (by simp) (by simp)
    have z_b1_1 : w.heap.size + 1 < w1.heap.size := by have := hb1.size; simp at this; omega
    clear hb1
    go_wp2_with fail
    refine (H2.out _).mono ?_
    rintro e w2 ⟨rfl, hb2⟩
    have s2 : G w1 w2 := ((G.refl w1).alloc _).trans hb2
    have c_b0_2 := G.cells s2 c_b0_1 z_b0_1
    have z_b0_2 := Nat.lt_of_lt_of_le z_b0_1 s2.size
    have c_b1_2 := G.cells s2 c_b1_1 z_b1_1
    have z_b1_2 := Nat.lt_of_lt_of_le z_b1_1 s2.size
    have c_b2_2 := G.cells hb2 (b := w1.heap.size) (f := fun o => [Value.int IntKind.i64 2, Value.int IntKind.i64 q, Value.int IntKind.i64 0, Value.string E0][o]?) (by simp) (by simp)
    have z_b2_2 : w1.heap.size < w2.heap.size := by have := hb2.size; simp at this; omega
    have g2 : G w w2 := g1.trans s2
    clear c_b0_1 z_b0_1 c_b1_1 z_b1_1 hb2 s2 g1
    go_wp2_with fail
    generalize hw3 : w2.alloc _ = w3
    have s3 : G w2 w3 := hw3 ▸ (G.refl w2).alloc _
    have c_b0_3 := G.cells s3 c_b0_2 z_b0_2
    have z_b0_3 := Nat.lt_of_lt_of_le z_b0_2 s3.size
    have c_b1_3 := G.cells s3 c_b1_2 z_b1_2
    have z_b1_3 := Nat.lt_of_lt_of_le z_b1_2 s3.size
    have c_b2_3 := G.cells s3 c_b2_2 z_b2_2
    have z_b2_3 := Nat.lt_of_lt_of_le z_b2_2 s3.size
    have c_b3_3 : ∀ o, w3.cell? ⟨w2.heap.size, o, none⟩ = [Value.int IntKind.i64 2, Value.int IntKind.i64 r, Value.int IntKind.i64 0, Value.string E0][o]? := by subst hw3; simp
    have z_b3_3 : w2.heap.size < w3.heap.size := by subst hw3; simp
    have g3 : G w w3 := g2.trans s3
    clear c_b0_2 z_b0_2 c_b1_2 z_b1_2 c_b2_2 z_b2_2 hw3 s3 g2
    have HS : Hid (∀ W, G w3 W → (∀ (o : Nat), W.cell? { block := w2.heap.size, off := o } = [Value.int IntKind.i64 2, Value.int IntKind.i64 r, Value.int IntKind.i64 0, Value.string E0][o]?) ∧ G w3 W) := fun W h => ⟨G.cells h c_b3_3 z_b3_3, h⟩
    go_region_held3 (fun W => (∀ (o : Nat), W.cell? { block := w2.heap.size, off := o } = [Value.int IntKind.i64 2, Value.int IntKind.i64 r, Value.int IntKind.i64 0, Value.string E0][o]?) ∧ G w3 W) ((exact HS.out _ (by repeat (first | exact G.refl _ | refine G.drew ?_ | refine G.alloc ?_ _ | refine G.trans ?_ (by assumption))))) (first | (go_at_call 26; refine (HZ.out _).mono ?_; rintro e wy ⟨rfl, rfl⟩) | fail)
    rename_i hH
    have hG2 := hH.2
    go_wp2
    go_ret
    exact ⟨by first | rfl | simp, g3.trans hG2⟩
end Go.Proofs.YtnoajhegcjoebaaGreatDoor
