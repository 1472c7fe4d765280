/- Whole numbers: sums, differences, products within int64. -/
import Derived.Test.YtnoajhegcjoebabGreatDoorFaces
import Derived.Test.YtnoajhegcjoebabGreatDoorAsserts
import Derived.Test.YtnoajhegcjoebabGreatDoorNums
namespace Go.Proofs.YtnoajhegcjoebabGreatDoor
open Go.RowKit
attribute [local go_sem] as_whole_null as_whole_str as_whole_whole as_cpx_null as_cpx_str as_cpx_whole as_truth_null as_str_null as_node_null as_edge_null as_null_null

abbrev IW (n : Int) : Value := .iface 126 (.int .i64 n)
set_option maxRecDepth 100000 in
set_option maxHeartbeats 400000 in
theorem isNull_whole (n : Int) (w : World) : Calls Tryz.prog 82 #[.iface 126 (.int .i64 n)] w fun e w' => e = .returned (.bool false) ∧ G w w' := by
  go_enter Tryz.func82, Tryz.ntmps82
  go_wp2
  go_ret
  exact ⟨rfl, by repeat (first | exact G.refl _ | refine G.alloc ?_ _ | refine G.setCell ?_ (by simp) _)⟩
set_option maxRecDepth 100000 in
set_option maxHeartbeats 400000 in
theorem isNull_cpx (p q : Nat) (w : World) : Calls Tryz.prog 82 #[.iface 127 (.complex .f64 p q)] w fun e w' => e = .returned (.bool false) ∧ G w w' := by
  go_enter Tryz.func82, Tryz.ntmps82
  go_wp2
  go_ret
  exact ⟨rfl, by repeat (first | exact G.refl _ | refine G.alloc ?_ _ | refine G.setCell ?_ (by simp) _)⟩
set_option maxHeartbeats 400000 in
theorem addWhole_ok (a b : Int) (h : I64 (a + b)) (w : World) : Calls Tryz.prog 154 #[.int .i64 a, .int .i64 b] w fun e w' => e = .returned (.tuple #[IW (a + b), .int .i64 0]) ∧ w' = w := by
  obtain ⟨h1, h2⟩ := h
  by_cases c : 0 < b
  · have c1 : a < a + b := by omega
    go_enter Tryz.func154, Tryz.ntmps154
    go_wp2
    go_ret2
    exact ⟨rfl, rfl⟩
  · have c1 : ¬ a < a + b := by omega
    go_enter Tryz.func154, Tryz.ntmps154
    go_wp2
    go_ret2
    exact ⟨rfl, rfl⟩
set_option maxHeartbeats 400000 in
theorem subWhole_ok (a b : Int) (h : I64 (a - b)) (w : World) : Calls Tryz.prog 155 #[.int .i64 a, .int .i64 b] w fun e w' => e = .returned (.tuple #[IW (a - b), .int .i64 0]) ∧ w' = w := by
  obtain ⟨h1, h2⟩ := h
  by_cases c : 0 < b
  · have c1 : a - b < a := by omega
    go_enter Tryz.func155, Tryz.ntmps155
    go_wp2
    go_ret2
    exact ⟨rfl, rfl⟩
  · have c1 : ¬ a - b < a := by omega
    go_enter Tryz.func155, Tryz.ntmps155
    go_wp2
    go_ret2
    exact ⟨rfl, rfl⟩
theorem tdiv_back (a b : Int) (h : a ≠ 0) : (a * b).tdiv a = b := Int.mul_tdiv_cancel_left b h
set_option maxRecDepth 100000 in
set_option maxHeartbeats 400000 in
theorem mulWhole_ok (a b : Int) (h : I64 (a * b)) (hb : I64 b) (w : World) : Calls Tryz.prog 156 #[.int .i64 a, .int .i64 b] w fun e w' => e = .returned (.tuple #[IW (a * b), .int .i64 0]) ∧ w' = w := by
  obtain ⟨h1, h2⟩ := h
  obtain ⟨h3, h4⟩ := hb
  by_cases c : a = 0
  · subst c
    go_enter Tryz.func156, Tryz.ntmps156
    go_wp2
    go_ret2
    exact ⟨by simp, rfl⟩
  · have z : (a == 0) = false := by simpa using c
    have d := tdiv_back a b c
    have hw : wrap64 (a * b) = a * b := by unfold wrap64; omega
    have hw2 : wrap64 b = b := by unfold wrap64; omega
    by_cases c2 : a = -1
    · have n : (b == -9223372036854775808) = false := by subst c2; simp; omega
      subst c2
      go_enter Tryz.func156, Tryz.ntmps156
      go_wp2
      go_ret2
      exact ⟨by simp, rfl⟩
    · have n : (a == -1) = false := by simpa using c2
      go_enter Tryz.func156, Tryz.ntmps156
      go_wp2
      go_ret2
      exact ⟨rfl, rfl⟩
set_option maxHeartbeats 400000 in
theorem wa_add (a b : Int) (h : I64 (a + b)) (w : World) : Calls Tryz.prog 122 #[.int .i64 1, .int .i64 a, .int .i64 b] w fun e w' => e = .returned (.tuple #[IW (a + b), .int .i64 0]) ∧ G w w' := by
  have H : Hid (I64 (a + b)) := h
  clear h
  go_enter Tryz.func122, Tryz.ntmps122
  go_wp2_with fail
  refine (addWhole_ok a b H.out _).mono ?_
  rintro e w1 ⟨rfl, rfl⟩
  go_wp2
  go_ret2
  exact ⟨rfl, G.refl _⟩
set_option maxHeartbeats 400000 in
theorem wa_sub (a b : Int) (h : I64 (a - b)) (w : World) : Calls Tryz.prog 122 #[.int .i64 2, .int .i64 a, .int .i64 b] w fun e w' => e = .returned (.tuple #[IW (a - b), .int .i64 0]) ∧ G w w' := by
  have H : Hid (I64 (a - b)) := h
  clear h
  go_enter Tryz.func122, Tryz.ntmps122
  go_wp2_with fail
  refine (subWhole_ok a b H.out _).mono ?_
  rintro e w1 ⟨rfl, rfl⟩
  go_wp2
  go_ret2
  exact ⟨rfl, G.refl _⟩
set_option maxHeartbeats 400000 in
theorem wa_mul (a b : Int) (h : I64 (a * b)) (hb : I64 b) (w : World) : Calls Tryz.prog 122 #[.int .i64 3, .int .i64 a, .int .i64 b] w fun e w' => e = .returned (.tuple #[IW (a * b), .int .i64 0]) ∧ G w w' := by
  have H : Hid (I64 (a * b)) := h
  clear h
  go_enter Tryz.func122, Tryz.ntmps122
  go_wp2_with fail
  refine (mulWhole_ok a b H.out hb _).mono ?_
  rintro e w1 ⟨rfl, rfl⟩
  go_wp2
  go_ret2
  exact ⟨rfl, G.refl _⟩
set_option maxRecDepth 100000 in
set_option maxHeartbeats 400000 in
theorem arith_ww (op a b : Int) (r : Value) (c : Int) (h : ∀ w, Calls Tryz.prog 122 #[.int .i64 op, .int .i64 a, .int .i64 b] w fun e w' => e = .returned (.tuple #[r, .int .i64 c]) ∧ G w w') (w : World) :
    Calls Tryz.prog 87 #[.int .i64 op, IW a, IW b] w fun e w' => e = .returned (.tuple #[r, .int .i64 c]) ∧ G w w' := by
  have H : Hid _ := h
  clear h
  go_enter Tryz.func87, Tryz.ntmps87
  go_wp2_with fail
  refine (H.out _).mono ?_
  rintro e w1 ⟨rfl, hb1⟩
  go_wp2
  go_ret2
  exact ⟨rfl, hb1⟩
set_option maxRecDepth 100000 in
set_option maxHeartbeats 1000000 in
theorem binary_arith (op : Int) (ho : 1 ≤ op) (ho' : op ≤ 5) (x y r : Value) (c : Int) (hx : ∀ w, Calls Tryz.prog 82 #[x] w fun e w' => e = .returned (.bool false) ∧ G w w') (hy : ∀ w, Calls Tryz.prog 82 #[y] w fun e w' => e = .returned (.bool false) ∧ G w w')
    (h : ∀ w, Calls Tryz.prog 87 #[.int .i64 op, x, y] w fun e w' => e = .returned (.tuple #[r, .int .i64 c]) ∧ G w w') (w : World) :
    Calls Tryz.prog 39 #[.int .i64 op, x, y] w fun e w' => e = .returned (.tuple #[r, .int .i64 c]) ∧ G w w' := by
  have H : Hid _ := h; have HX : Hid _ := hx; have HY : Hid _ := hy
  clear h hx hy
  have n12 : (op == 12) = false := by simp; omega
  have n13 : (op == 13) = false := by simp; omega
  have n14 : (op == 14) = false := by simp; omega
  have n6 : (op == 6) = false := by simp; omega
  have n7 : (op == 7) = false := by simp; omega
  have n8 : (op == 8) = false := by simp; omega
  have n9 : (op == 9) = false := by simp; omega
  have n10 : (op == 10) = false := by simp; omega
  have n11 : (op == 11) = false := by simp; omega
  have n15 : (op == 15) = false := by simp; omega
  have n17 : (op == 17) = false := by simp; omega
  have n18 : (op == 18) = false := by simp; omega
  have n16 : (op == 16) = false := by simp; omega
  go_enter Tryz.func39, Tryz.ntmps39
  go_wp2_with fail
  refine (HX.out _).mono ?_
  rintro e w1 ⟨rfl, hb1⟩
  go_wp2_with fail
  refine (HY.out _).mono ?_
  rintro e w2 ⟨rfl, hb2⟩
  go_wp2_with fail
  refine (H.out _).mono ?_
  rintro e w3 ⟨rfl, hb3⟩
  go_wp2
  go_ret2
  exact ⟨rfl, hb1.trans (hb2.trans hb3)⟩
/-- Binary on two whole numbers. -/
theorem Bw_add (a b : Int) (h : I64 (a + b)) (w : World) : Calls Tryz.prog 14 #[.int .i64 1, V 2 a 0 E0, V 2 b 0 E0] w fun e w' => e = .returned (.tuple #[V 2 (a + b) 0 E0, .int .i64 0]) ∧ G w w' :=
  Binary_of 1 _ _ _ _ _ _ _ _ _ _ _ 0 0 _ _ _ _ (by decide) (by decide) (item_whole a) (item_whole b) (binary_arith 1 (by decide) (by decide) _ _ _ _ (isNull_whole a) (isNull_whole b) (arith_ww 1 a b _ _ (wa_add a b h))) (answer_whole (a + b)) w
/-- Binary on two whole numbers. -/
theorem Bw_sub (a b : Int) (h : I64 (a - b)) (w : World) : Calls Tryz.prog 14 #[.int .i64 2, V 2 a 0 E0, V 2 b 0 E0] w fun e w' => e = .returned (.tuple #[V 2 (a - b) 0 E0, .int .i64 0]) ∧ G w w' :=
  Binary_of 2 _ _ _ _ _ _ _ _ _ _ _ 0 0 _ _ _ _ (by decide) (by decide) (item_whole a) (item_whole b) (binary_arith 2 (by decide) (by decide) _ _ _ _ (isNull_whole a) (isNull_whole b) (arith_ww 2 a b _ _ (wa_sub a b h))) (answer_whole (a - b)) w
/-- Binary on two whole numbers. -/
theorem Bw_mul (a b : Int) (h : I64 (a * b)) (hb : I64 b) (w : World) : Calls Tryz.prog 14 #[.int .i64 3, V 2 a 0 E0, V 2 b 0 E0] w fun e w' => e = .returned (.tuple #[V 2 (a * b) 0 E0, .int .i64 0]) ∧ G w w' :=
  Binary_of 3 _ _ _ _ _ _ _ _ _ _ _ 0 0 _ _ _ _ (by decide) (by decide) (item_whole a) (item_whole b) (binary_arith 3 (by decide) (by decide) _ _ _ _ (isNull_whole a) (isNull_whole b) (arith_ww 3 a b _ _ (wa_mul a b h hb))) (answer_whole (a * b)) w
end Go.Proofs.YtnoajhegcjoebabGreatDoor
