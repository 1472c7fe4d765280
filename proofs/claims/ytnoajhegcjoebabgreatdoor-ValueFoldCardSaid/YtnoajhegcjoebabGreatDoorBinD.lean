/- value.binary: the dispatch; the logic. -/
import Derived.Test.YtnoajhegcjoebabGreatDoorBinP
namespace Go.Proofs.YtnoajhegcjoebabGreatDoor
open Go.RowKit Go.Lib Go.Shelf
attribute [local go_sem] as_null_null as_null_truth as_truth_null as_truth_truth

/-- A truth as a value. -/
def tI (q : Bool) : Int := if q then 1 else 0
theorem answer_truth (q : Bool) (w : World) : Calls Tryz.prog 33 #[.iface 101 (.bool q), .int .i64 0] w fun e w' => e = .returned (.tuple #[V 1 (tI q) 0 E0, .int .i64 0]) ∧ G w w' := by
  cases q
  · exact answer_ff w
  · exact answer_tt w
set_option maxRecDepth 100000 in
set_option maxHeartbeats 1000000 in
theorem bin_null1 (op : Int) (x y : Value) (n12 : (op == 12) = false) (n13 : (op == 13) = false) (n14 : (op == 14) = false) (hx : ∀ w, Calls Tryz.prog 82 #[x] w fun e w' => e = .returned (.bool true) ∧ G w w') (w : World) :
    Calls Tryz.prog 39 #[.int .i64 op, x, y] w fun e w' => e = .returned (.tuple #[.iface 100 (.agg #[]), .int .i64 0]) ∧ G w w' := by
  have HX : Hid _ := hx
  clear hx
  go_enter Tryz.func39, Tryz.ntmps39
  go_wp2_with fail
  refine (HX.out _).mono ?_
  rintro e w1 ⟨rfl, hb1⟩
  go_wp2
  go_ret2
  exact ⟨rfl, hb1⟩
set_option maxRecDepth 100000 in
set_option maxHeartbeats 1000000 in
theorem bin_null2 (op : Int) (x y : Value) (n12 : (op == 12) = false) (n13 : (op == 13) = false) (n14 : (op == 14) = false) (hx : ∀ w, Calls Tryz.prog 82 #[x] w fun e w' => e = .returned (.bool false) ∧ G w w') (hy : ∀ w, Calls Tryz.prog 82 #[y] w fun e w' => e = .returned (.bool true) ∧ G w w') (w : World) :
    Calls Tryz.prog 39 #[.int .i64 op, x, y] w fun e w' => e = .returned (.tuple #[.iface 100 (.agg #[]), .int .i64 0]) ∧ G w w' := by
  have HX : Hid _ := hx
  have HY : Hid _ := hy
  clear hx hy
  go_enter Tryz.func39, Tryz.ntmps39
  go_wp2_with fail
  refine (HX.out _).mono ?_
  rintro e w1 ⟨rfl, hb1⟩
  go_wp2_with fail
  refine (HY.out _).mono ?_
  rintro e w2 ⟨rfl, hb2⟩
  go_wp2
  go_ret2
  exact ⟨rfl, hb1.trans hb2⟩
set_option maxRecDepth 100000 in
set_option maxHeartbeats 1000000 in
theorem bin_6 (Rdy0 : World → Prop) (hG0 : ∀ W W1, Rdy0 W → G W W1 → Rdy0 W1) (q : Bool) (x y : Value) (hx : ∀ w, Calls Tryz.prog 82 #[x] w fun e w' => e = .returned (.bool false) ∧ G w w') (hy : ∀ w, Calls Tryz.prog 82 #[y] w fun e w' => e = .returned (.bool false) ∧ G w w')
    (h : ∀ w, Rdy0 w → Calls Tryz.prog 83 #[x, y] w fun e w' => e = .returned (.bool q) ∧ G w w') (w : World) (hR : Rdy0 w) :
    Calls Tryz.prog 39 #[.int .i64 6, x, y] w fun e w' => e = .returned (.tuple #[.iface 101 (.bool q), .int .i64 0]) ∧ G w w' := by
  have H : Hid _ := h
  have HX : Hid _ := hx
  have HY : Hid _ := hy
  clear hx hy h
  go_enter Tryz.func39, Tryz.ntmps39
  go_wp2_with fail
  refine (HX.out _).mono ?_
  rintro e w1 ⟨rfl, hb1⟩
  go_wp2_with fail
  refine (HY.out _).mono ?_
  rintro e w2 ⟨rfl, hb2⟩
  go_wp2_with fail
  refine (H.out _ (hG0 _ _ hR (hb1.trans hb2))).mono ?_
  rintro e w3 ⟨rfl, hb3⟩
  go_wp2
  go_ret2
  exact ⟨rfl, (hb1.trans hb2).trans hb3⟩
set_option maxRecDepth 100000 in
set_option maxHeartbeats 1000000 in
theorem bin_7 (Rdy0 : World → Prop) (hG0 : ∀ W W1, Rdy0 W → G W W1 → Rdy0 W1) (q : Bool) (x y : Value) (hx : ∀ w, Calls Tryz.prog 82 #[x] w fun e w' => e = .returned (.bool false) ∧ G w w') (hy : ∀ w, Calls Tryz.prog 82 #[y] w fun e w' => e = .returned (.bool false) ∧ G w w')
    (h : ∀ w, Rdy0 w → Calls Tryz.prog 83 #[x, y] w fun e w' => e = .returned (.bool q) ∧ G w w') (w : World) (hR : Rdy0 w) :
    Calls Tryz.prog 39 #[.int .i64 7, x, y] w fun e w' => e = .returned (.tuple #[.iface 101 (.bool (!q)), .int .i64 0]) ∧ G w w' := by
  have H : Hid _ := h
  have HX : Hid _ := hx
  have HY : Hid _ := hy
  clear hx hy h
  go_enter Tryz.func39, Tryz.ntmps39
  go_wp2_with fail
  refine (HX.out _).mono ?_
  rintro e w1 ⟨rfl, hb1⟩
  go_wp2_with fail
  refine (HY.out _).mono ?_
  rintro e w2 ⟨rfl, hb2⟩
  go_wp2_with fail
  refine (H.out _ (hG0 _ _ hR (hb1.trans hb2))).mono ?_
  rintro e w3 ⟨rfl, hb3⟩
  go_wp2
  go_ret2
  exact ⟨rfl, (hb1.trans hb2).trans hb3⟩
set_option maxRecDepth 100000 in
set_option maxHeartbeats 1000000 in
theorem bin_8 (Rdy0 : World → Prop) (hG0 : ∀ W W1, Rdy0 W → G W W1 → Rdy0 W1) (r : Value) (x y : Value) (hx : ∀ w, Calls Tryz.prog 82 #[x] w fun e w' => e = .returned (.bool false) ∧ G w w') (hy : ∀ w, Calls Tryz.prog 82 #[y] w fun e w' => e = .returned (.bool false) ∧ G w w')
    (h : ∀ w, Rdy0 w → Calls Tryz.prog 84 #[.int .i64 8, x, y] w fun e w' => e = .returned (r) ∧ G w w') (w : World) (hR : Rdy0 w) :
    Calls Tryz.prog 39 #[.int .i64 8, x, y] w fun e w' => e = .returned (.tuple #[r, .int .i64 0]) ∧ G w w' := by
  have H : Hid _ := h
  have HX : Hid _ := hx
  have HY : Hid _ := hy
  clear hx hy h
  go_enter Tryz.func39, Tryz.ntmps39
  go_wp2_with fail
  refine (HX.out _).mono ?_
  rintro e w1 ⟨rfl, hb1⟩
  go_wp2_with fail
  refine (HY.out _).mono ?_
  rintro e w2 ⟨rfl, hb2⟩
  go_wp2_with fail
  refine (H.out _ (hG0 _ _ hR (hb1.trans hb2))).mono ?_
  rintro e w3 ⟨rfl, hb3⟩
  go_wp2
  go_ret2
  exact ⟨rfl, (hb1.trans hb2).trans hb3⟩
set_option maxRecDepth 100000 in
set_option maxHeartbeats 1000000 in
theorem bin_9 (Rdy0 : World → Prop) (hG0 : ∀ W W1, Rdy0 W → G W W1 → Rdy0 W1) (r : Value) (x y : Value) (hx : ∀ w, Calls Tryz.prog 82 #[x] w fun e w' => e = .returned (.bool false) ∧ G w w') (hy : ∀ w, Calls Tryz.prog 82 #[y] w fun e w' => e = .returned (.bool false) ∧ G w w')
    (h : ∀ w, Rdy0 w → Calls Tryz.prog 84 #[.int .i64 9, x, y] w fun e w' => e = .returned (r) ∧ G w w') (w : World) (hR : Rdy0 w) :
    Calls Tryz.prog 39 #[.int .i64 9, x, y] w fun e w' => e = .returned (.tuple #[r, .int .i64 0]) ∧ G w w' := by
  have H : Hid _ := h
  have HX : Hid _ := hx
  have HY : Hid _ := hy
  clear hx hy h
  go_enter Tryz.func39, Tryz.ntmps39
  go_wp2_with fail
  refine (HX.out _).mono ?_
  rintro e w1 ⟨rfl, hb1⟩
  go_wp2_with fail
  refine (HY.out _).mono ?_
  rintro e w2 ⟨rfl, hb2⟩
  go_wp2_with fail
  refine (H.out _ (hG0 _ _ hR (hb1.trans hb2))).mono ?_
  rintro e w3 ⟨rfl, hb3⟩
  go_wp2
  go_ret2
  exact ⟨rfl, (hb1.trans hb2).trans hb3⟩
set_option maxRecDepth 100000 in
set_option maxHeartbeats 1000000 in
theorem bin_10 (Rdy0 : World → Prop) (hG0 : ∀ W W1, Rdy0 W → G W W1 → Rdy0 W1) (r : Value) (x y : Value) (hx : ∀ w, Calls Tryz.prog 82 #[x] w fun e w' => e = .returned (.bool false) ∧ G w w') (hy : ∀ w, Calls Tryz.prog 82 #[y] w fun e w' => e = .returned (.bool false) ∧ G w w')
    (h : ∀ w, Rdy0 w → Calls Tryz.prog 84 #[.int .i64 10, x, y] w fun e w' => e = .returned (r) ∧ G w w') (w : World) (hR : Rdy0 w) :
    Calls Tryz.prog 39 #[.int .i64 10, x, y] w fun e w' => e = .returned (.tuple #[r, .int .i64 0]) ∧ G w w' := by
  have H : Hid _ := h
  have HX : Hid _ := hx
  have HY : Hid _ := hy
  clear hx hy h
  go_enter Tryz.func39, Tryz.ntmps39
  go_wp2_with fail
  refine (HX.out _).mono ?_
  rintro e w1 ⟨rfl, hb1⟩
  go_wp2_with fail
  refine (HY.out _).mono ?_
  rintro e w2 ⟨rfl, hb2⟩
  go_wp2_with fail
  refine (H.out _ (hG0 _ _ hR (hb1.trans hb2))).mono ?_
  rintro e w3 ⟨rfl, hb3⟩
  go_wp2
  go_ret2
  exact ⟨rfl, (hb1.trans hb2).trans hb3⟩
set_option maxRecDepth 100000 in
set_option maxHeartbeats 1000000 in
theorem bin_11 (Rdy0 : World → Prop) (hG0 : ∀ W W1, Rdy0 W → G W W1 → Rdy0 W1) (r : Value) (x y : Value) (hx : ∀ w, Calls Tryz.prog 82 #[x] w fun e w' => e = .returned (.bool false) ∧ G w w') (hy : ∀ w, Calls Tryz.prog 82 #[y] w fun e w' => e = .returned (.bool false) ∧ G w w')
    (h : ∀ w, Rdy0 w → Calls Tryz.prog 84 #[.int .i64 11, x, y] w fun e w' => e = .returned (r) ∧ G w w') (w : World) (hR : Rdy0 w) :
    Calls Tryz.prog 39 #[.int .i64 11, x, y] w fun e w' => e = .returned (.tuple #[r, .int .i64 0]) ∧ G w w' := by
  have H : Hid _ := h
  have HX : Hid _ := hx
  have HY : Hid _ := hy
  clear hx hy h
  go_enter Tryz.func39, Tryz.ntmps39
  go_wp2_with fail
  refine (HX.out _).mono ?_
  rintro e w1 ⟨rfl, hb1⟩
  go_wp2_with fail
  refine (HY.out _).mono ?_
  rintro e w2 ⟨rfl, hb2⟩
  go_wp2_with fail
  refine (H.out _ (hG0 _ _ hR (hb1.trans hb2))).mono ?_
  rintro e w3 ⟨rfl, hb3⟩
  go_wp2
  go_ret2
  exact ⟨rfl, (hb1.trans hb2).trans hb3⟩
set_option maxRecDepth 100000 in
set_option maxHeartbeats 1000000 in
theorem bin_15 (Rdy0 : World → Prop) (hG0 : ∀ W W1, Rdy0 W → G W W1 → Rdy0 W1) (r : Value) (c : Int) (x y : Value) (hx : ∀ w, Calls Tryz.prog 82 #[x] w fun e w' => e = .returned (.bool false) ∧ G w w') (hy : ∀ w, Calls Tryz.prog 82 #[y] w fun e w' => e = .returned (.bool false) ∧ G w w')
    (h : ∀ w, Rdy0 w → Calls Tryz.prog 85 #[.int .i64 15, x, y] w fun e w' => e = .returned (.tuple #[r, .int .i64 c]) ∧ G w w') (w : World) (hR : Rdy0 w) :
    Calls Tryz.prog 39 #[.int .i64 15, x, y] w fun e w' => e = .returned (.tuple #[r, .int .i64 c]) ∧ G w w' := by
  have H : Hid _ := h
  have HX : Hid _ := hx
  have HY : Hid _ := hy
  clear hx hy h
  go_enter Tryz.func39, Tryz.ntmps39
  go_wp2_with fail
  refine (HX.out _).mono ?_
  rintro e w1 ⟨rfl, hb1⟩
  go_wp2_with fail
  refine (HY.out _).mono ?_
  rintro e w2 ⟨rfl, hb2⟩
  go_wp2_with fail
  refine (H.out _ (hG0 _ _ hR (hb1.trans hb2))).mono ?_
  rintro e w3 ⟨rfl, hb3⟩
  go_wp2
  go_ret2
  exact ⟨rfl, (hb1.trans hb2).trans hb3⟩
set_option maxRecDepth 100000 in
set_option maxHeartbeats 1000000 in
theorem bin_17 (Rdy0 : World → Prop) (hG0 : ∀ W W1, Rdy0 W → G W W1 → Rdy0 W1) (r : Value) (c : Int) (x y : Value) (hx : ∀ w, Calls Tryz.prog 82 #[x] w fun e w' => e = .returned (.bool false) ∧ G w w') (hy : ∀ w, Calls Tryz.prog 82 #[y] w fun e w' => e = .returned (.bool false) ∧ G w w')
    (h : ∀ w, Rdy0 w → Calls Tryz.prog 85 #[.int .i64 17, x, y] w fun e w' => e = .returned (.tuple #[r, .int .i64 c]) ∧ G w w') (w : World) (hR : Rdy0 w) :
    Calls Tryz.prog 39 #[.int .i64 17, x, y] w fun e w' => e = .returned (.tuple #[r, .int .i64 c]) ∧ G w w' := by
  have H : Hid _ := h
  have HX : Hid _ := hx
  have HY : Hid _ := hy
  clear hx hy h
  go_enter Tryz.func39, Tryz.ntmps39
  go_wp2_with fail
  refine (HX.out _).mono ?_
  rintro e w1 ⟨rfl, hb1⟩
  go_wp2_with fail
  refine (HY.out _).mono ?_
  rintro e w2 ⟨rfl, hb2⟩
  go_wp2_with fail
  refine (H.out _ (hG0 _ _ hR (hb1.trans hb2))).mono ?_
  rintro e w3 ⟨rfl, hb3⟩
  go_wp2
  go_ret2
  exact ⟨rfl, (hb1.trans hb2).trans hb3⟩
set_option maxRecDepth 100000 in
set_option maxHeartbeats 1000000 in
theorem bin_18 (Rdy0 : World → Prop) (hG0 : ∀ W W1, Rdy0 W → G W W1 → Rdy0 W1) (r : Value) (c : Int) (x y : Value) (hx : ∀ w, Calls Tryz.prog 82 #[x] w fun e w' => e = .returned (.bool false) ∧ G w w') (hy : ∀ w, Calls Tryz.prog 82 #[y] w fun e w' => e = .returned (.bool false) ∧ G w w')
    (h : ∀ w, Rdy0 w → Calls Tryz.prog 85 #[.int .i64 18, x, y] w fun e w' => e = .returned (.tuple #[r, .int .i64 c]) ∧ G w w') (w : World) (hR : Rdy0 w) :
    Calls Tryz.prog 39 #[.int .i64 18, x, y] w fun e w' => e = .returned (.tuple #[r, .int .i64 c]) ∧ G w w' := by
  have H : Hid _ := h
  have HX : Hid _ := hx
  have HY : Hid _ := hy
  clear hx hy h
  go_enter Tryz.func39, Tryz.ntmps39
  go_wp2_with fail
  refine (HX.out _).mono ?_
  rintro e w1 ⟨rfl, hb1⟩
  go_wp2_with fail
  refine (HY.out _).mono ?_
  rintro e w2 ⟨rfl, hb2⟩
  go_wp2_with fail
  refine (H.out _ (hG0 _ _ hR (hb1.trans hb2))).mono ?_
  rintro e w3 ⟨rfl, hb3⟩
  go_wp2
  go_ret2
  exact ⟨rfl, (hb1.trans hb2).trans hb3⟩
set_option maxRecDepth 100000 in
set_option maxHeartbeats 1000000 in
theorem bin_16 (Rdy0 : World → Prop) (hG0 : ∀ W W1, Rdy0 W → G W W1 → Rdy0 W1) (r : Value) (c : Int) (x y : Value) (hx : ∀ w, Calls Tryz.prog 82 #[x] w fun e w' => e = .returned (.bool false) ∧ G w w') (hy : ∀ w, Calls Tryz.prog 82 #[y] w fun e w' => e = .returned (.bool false) ∧ G w w')
    (h : ∀ w, Rdy0 w → Calls Tryz.prog 86 #[x, y] w fun e w' => e = .returned (.tuple #[r, .int .i64 c]) ∧ G w w') (w : World) (hR : Rdy0 w) :
    Calls Tryz.prog 39 #[.int .i64 16, x, y] w fun e w' => e = .returned (.tuple #[r, .int .i64 c]) ∧ G w w' := by
  have H : Hid _ := h
  have HX : Hid _ := hx
  have HY : Hid _ := hy
  clear hx hy h
  go_enter Tryz.func39, Tryz.ntmps39
  go_wp2_with fail
  refine (HX.out _).mono ?_
  rintro e w1 ⟨rfl, hb1⟩
  go_wp2_with fail
  refine (HY.out _).mono ?_
  rintro e w2 ⟨rfl, hb2⟩
  go_wp2_with fail
  refine (H.out _ (hG0 _ _ hR (hb1.trans hb2))).mono ?_
  rintro e w3 ⟨rfl, hb3⟩
  go_wp2
  go_ret2
  exact ⟨rfl, (hb1.trans hb2).trans hb3⟩
set_option maxRecDepth 100000 in
set_option maxHeartbeats 1000000 in
theorem bin_12 (Rdy0 : World → Prop) (_hG0 : ∀ W W1, Rdy0 W → G W W1 → Rdy0 W1) (r : Value) (c : Int) (x y : Value) 
    (h : ∀ w, Rdy0 w → Calls Tryz.prog 81 #[.int .i64 12, x, y] w fun e w' => e = .returned (.tuple #[r, .int .i64 c]) ∧ G w w') (w : World) (hR : Rdy0 w) :
    Calls Tryz.prog 39 #[.int .i64 12, x, y] w fun e w' => e = .returned (.tuple #[r, .int .i64 c]) ∧ G w w' := by
  have H : Hid _ := h
  clear h
  go_enter Tryz.func39, Tryz.ntmps39
  go_wp2_with fail
  refine (H.out _ hR).mono ?_
  rintro e w3 ⟨rfl, hb3⟩
  go_wp2
  go_ret2
  exact ⟨rfl, hb3⟩
set_option maxRecDepth 100000 in
set_option maxHeartbeats 1000000 in
theorem bin_13 (Rdy0 : World → Prop) (_hG0 : ∀ W W1, Rdy0 W → G W W1 → Rdy0 W1) (r : Value) (c : Int) (x y : Value) 
    (h : ∀ w, Rdy0 w → Calls Tryz.prog 81 #[.int .i64 13, x, y] w fun e w' => e = .returned (.tuple #[r, .int .i64 c]) ∧ G w w') (w : World) (hR : Rdy0 w) :
    Calls Tryz.prog 39 #[.int .i64 13, x, y] w fun e w' => e = .returned (.tuple #[r, .int .i64 c]) ∧ G w w' := by
  have H : Hid _ := h
  clear h
  go_enter Tryz.func39, Tryz.ntmps39
  go_wp2_with fail
  refine (H.out _ hR).mono ?_
  rintro e w3 ⟨rfl, hb3⟩
  go_wp2
  go_ret2
  exact ⟨rfl, hb3⟩
set_option maxRecDepth 100000 in
set_option maxHeartbeats 1000000 in
theorem bin_14 (Rdy0 : World → Prop) (_hG0 : ∀ W W1, Rdy0 W → G W W1 → Rdy0 W1) (r : Value) (c : Int) (x y : Value) 
    (h : ∀ w, Rdy0 w → Calls Tryz.prog 81 #[.int .i64 14, x, y] w fun e w' => e = .returned (.tuple #[r, .int .i64 c]) ∧ G w w') (w : World) (hR : Rdy0 w) :
    Calls Tryz.prog 39 #[.int .i64 14, x, y] w fun e w' => e = .returned (.tuple #[r, .int .i64 c]) ∧ G w w' := by
  have H : Hid _ := h
  clear h
  go_enter Tryz.func39, Tryz.ntmps39
  go_wp2_with fail
  refine (H.out _ hR).mono ?_
  rintro e w3 ⟨rfl, hb3⟩
  go_wp2
  go_ret2
  exact ⟨rfl, hb3⟩
set_option maxRecDepth 100000 in
set_option maxHeartbeats 400000 in
theorem sure_0 (w : World) : Calls Tryz.prog 114 #[.iface 101 (.bool false)] w fun e w' => e = .returned (.tuple #[.int .i64 (-1), .bool true]) ∧ G w w' := by
  go_enter Tryz.func114, Tryz.ntmps114
  go_wp2
  go_ret2
  exact ⟨rfl, by repeat (first | exact G.refl _ | refine G.alloc ?_ _ | refine G.setCell ?_ (by simp) _)⟩
set_option maxHeartbeats 400000 in
theorem of_sure_0 (w : World) : Calls Tryz.prog 115 #[.int .i64 (-1)] w fun e w' => e = .returned (.iface 101 (.bool false)) ∧ G w w' := by
  go_enter Tryz.func115, Tryz.ntmps115
  go_wp2
  go_ret
  exact ⟨rfl, G.refl _⟩
set_option maxRecDepth 100000 in
set_option maxHeartbeats 400000 in
theorem sure_1 (w : World) : Calls Tryz.prog 114 #[.iface 101 (.bool true)] w fun e w' => e = .returned (.tuple #[.int .i64 1, .bool true]) ∧ G w w' := by
  go_enter Tryz.func114, Tryz.ntmps114
  go_wp2
  go_ret2
  exact ⟨rfl, by repeat (first | exact G.refl _ | refine G.alloc ?_ _ | refine G.setCell ?_ (by simp) _)⟩
set_option maxHeartbeats 400000 in
theorem of_sure_1 (w : World) : Calls Tryz.prog 115 #[.int .i64 1] w fun e w' => e = .returned (.iface 101 (.bool true)) ∧ G w w' := by
  go_enter Tryz.func115, Tryz.ntmps115
  go_wp2
  go_ret
  exact ⟨rfl, G.refl _⟩
set_option maxRecDepth 100000 in
set_option maxHeartbeats 400000 in
theorem sure_2 (w : World) : Calls Tryz.prog 114 #[.iface 100 (.agg #[])] w fun e w' => e = .returned (.tuple #[.int .i64 0, .bool true]) ∧ G w w' := by
  go_enter Tryz.func114, Tryz.ntmps114
  go_wp2
  go_ret2
  exact ⟨rfl, by repeat (first | exact G.refl _ | refine G.alloc ?_ _ | refine G.setCell ?_ (by simp) _)⟩
set_option maxHeartbeats 400000 in
theorem of_sure_2 (w : World) : Calls Tryz.prog 115 #[.int .i64 0] w fun e w' => e = .returned (.iface 100 (.agg #[])) ∧ G w w' := by
  go_enter Tryz.func115, Tryz.ntmps115
  go_wp2
  go_ret
  exact ⟨rfl, G.refl _⟩
set_option maxRecDepth 100000 in
set_option maxHeartbeats 400000 in
theorem sure_no (k a b : Int) (s : ByteArray) (hok : okV k a b s = true) (hk : 2 ≤ k) (w : World) : Calls Tryz.prog 114 #[itemV k a b s] w fun e w' => e = .returned (.tuple #[.int .i64 0, .bool false]) ∧ G w w' := by
  have h1 := an_null k a b s hok (by omega)
  have h2 := an_truth k a b s hok (by omega)
  generalize itemV k a b s = x at h1 h2
  clear hok hk
  go_enter Tryz.func114, Tryz.ntmps114
  go_wp2
  go_ret2
  exact ⟨rfl, G.refl _⟩
set_option maxRecDepth 100000 in
set_option maxHeartbeats 400000 in
theorem lno1 (op : Int) (x y : Value) (m n : Int) (q : Bool) (hx : ∀ w, Calls Tryz.prog 114 #[x] w fun e w' => e = .returned (.tuple #[.int .i64 m, .bool false]) ∧ G w w') (hy : ∀ w, Calls Tryz.prog 114 #[y] w fun e w' => e = .returned (.tuple #[.int .i64 n, .bool q]) ∧ G w w') (w : World) :
    Calls Tryz.prog 81 #[.int .i64 op, x, y] w fun e w' => e = .returned (.tuple #[.nilIface, .int .i64 10]) ∧ G w w' := by
  have HX : Hid _ := hx
  have HY : Hid _ := hy
  clear hx hy
  go_enter Tryz.func81, Tryz.ntmps81
  go_wp2_with fail
  refine (HX.out _).mono ?_
  rintro e w1 ⟨rfl, hb1⟩
  go_wp2_with fail
  refine (HY.out _).mono ?_
  rintro e w2 ⟨rfl, hb2⟩
  go_wp2
  go_ret2
  exact ⟨rfl, hb1.trans hb2⟩
set_option maxRecDepth 100000 in
set_option maxHeartbeats 400000 in
theorem lno2 (op : Int) (x y : Value) (m n : Int) (hx : ∀ w, Calls Tryz.prog 114 #[x] w fun e w' => e = .returned (.tuple #[.int .i64 m, .bool true]) ∧ G w w') (hy : ∀ w, Calls Tryz.prog 114 #[y] w fun e w' => e = .returned (.tuple #[.int .i64 n, .bool false]) ∧ G w w') (w : World) :
    Calls Tryz.prog 81 #[.int .i64 op, x, y] w fun e w' => e = .returned (.tuple #[.nilIface, .int .i64 10]) ∧ G w w' := by
  have HX : Hid _ := hx
  have HY : Hid _ := hy
  clear hx hy
  go_enter Tryz.func81, Tryz.ntmps81
  go_wp2_with fail
  refine (HX.out _).mono ?_
  rintro e w1 ⟨rfl, hb1⟩
  go_wp2_with fail
  refine (HY.out _).mono ?_
  rintro e w2 ⟨rfl, hb2⟩
  go_wp2
  go_ret2
  exact ⟨rfl, hb1.trans hb2⟩
set_option maxHeartbeats 400000 in
theorem log_12_00 (w : World) : Calls Tryz.prog 81 #[.int .i64 12, .iface 101 (.bool false), .iface 101 (.bool false)] w fun e w' => e = .returned (.tuple #[.iface 101 (.bool false), .int .i64 0]) ∧ G w w' := by
  go_enter Tryz.func81, Tryz.ntmps81
  go_wp2_with fail
  refine (sure_0 _).mono ?_
  rintro e w1 ⟨rfl, hb1⟩
  go_wp2_with fail
  refine (sure_0 _).mono ?_
  rintro e w2 ⟨rfl, hb2⟩
  go_wp2_with fail
  refine (of_sure_0 _).mono ?_
  rintro e w3 ⟨rfl, hb3⟩
  go_wp2
  go_ret2
  exact ⟨rfl, (hb1.trans hb2).trans hb3⟩
set_option maxHeartbeats 400000 in
theorem log_12_01 (w : World) : Calls Tryz.prog 81 #[.int .i64 12, .iface 101 (.bool false), .iface 101 (.bool true)] w fun e w' => e = .returned (.tuple #[.iface 101 (.bool false), .int .i64 0]) ∧ G w w' := by
  go_enter Tryz.func81, Tryz.ntmps81
  go_wp2_with fail
  refine (sure_0 _).mono ?_
  rintro e w1 ⟨rfl, hb1⟩
  go_wp2_with fail
  refine (sure_1 _).mono ?_
  rintro e w2 ⟨rfl, hb2⟩
  go_wp2_with fail
  refine (of_sure_0 _).mono ?_
  rintro e w3 ⟨rfl, hb3⟩
  go_wp2
  go_ret2
  exact ⟨rfl, (hb1.trans hb2).trans hb3⟩
set_option maxHeartbeats 400000 in
theorem log_12_02 (w : World) : Calls Tryz.prog 81 #[.int .i64 12, .iface 101 (.bool false), .iface 100 (.agg #[])] w fun e w' => e = .returned (.tuple #[.iface 101 (.bool false), .int .i64 0]) ∧ G w w' := by
  go_enter Tryz.func81, Tryz.ntmps81
  go_wp2_with fail
  refine (sure_0 _).mono ?_
  rintro e w1 ⟨rfl, hb1⟩
  go_wp2_with fail
  refine (sure_2 _).mono ?_
  rintro e w2 ⟨rfl, hb2⟩
  go_wp2_with fail
  refine (of_sure_0 _).mono ?_
  rintro e w3 ⟨rfl, hb3⟩
  go_wp2
  go_ret2
  exact ⟨rfl, (hb1.trans hb2).trans hb3⟩
set_option maxHeartbeats 400000 in
theorem log_12_10 (w : World) : Calls Tryz.prog 81 #[.int .i64 12, .iface 101 (.bool true), .iface 101 (.bool false)] w fun e w' => e = .returned (.tuple #[.iface 101 (.bool false), .int .i64 0]) ∧ G w w' := by
  go_enter Tryz.func81, Tryz.ntmps81
  go_wp2_with fail
  refine (sure_1 _).mono ?_
  rintro e w1 ⟨rfl, hb1⟩
  go_wp2_with fail
  refine (sure_0 _).mono ?_
  rintro e w2 ⟨rfl, hb2⟩
  go_wp2_with fail
  refine (of_sure_0 _).mono ?_
  rintro e w3 ⟨rfl, hb3⟩
  go_wp2
  go_ret2
  exact ⟨rfl, (hb1.trans hb2).trans hb3⟩
set_option maxHeartbeats 400000 in
theorem log_12_11 (w : World) : Calls Tryz.prog 81 #[.int .i64 12, .iface 101 (.bool true), .iface 101 (.bool true)] w fun e w' => e = .returned (.tuple #[.iface 101 (.bool true), .int .i64 0]) ∧ G w w' := by
  go_enter Tryz.func81, Tryz.ntmps81
  go_wp2_with fail
  refine (sure_1 _).mono ?_
  rintro e w1 ⟨rfl, hb1⟩
  go_wp2_with fail
  refine (sure_1 _).mono ?_
  rintro e w2 ⟨rfl, hb2⟩
  go_wp2_with fail
  refine (of_sure_1 _).mono ?_
  rintro e w3 ⟨rfl, hb3⟩
  go_wp2
  go_ret2
  exact ⟨rfl, (hb1.trans hb2).trans hb3⟩
set_option maxHeartbeats 400000 in
theorem log_12_12 (w : World) : Calls Tryz.prog 81 #[.int .i64 12, .iface 101 (.bool true), .iface 100 (.agg #[])] w fun e w' => e = .returned (.tuple #[.iface 100 (.agg #[]), .int .i64 0]) ∧ G w w' := by
  go_enter Tryz.func81, Tryz.ntmps81
  go_wp2_with fail
  refine (sure_1 _).mono ?_
  rintro e w1 ⟨rfl, hb1⟩
  go_wp2_with fail
  refine (sure_2 _).mono ?_
  rintro e w2 ⟨rfl, hb2⟩
  go_wp2_with fail
  refine (of_sure_2 _).mono ?_
  rintro e w3 ⟨rfl, hb3⟩
  go_wp2
  go_ret2
  exact ⟨rfl, (hb1.trans hb2).trans hb3⟩
set_option maxHeartbeats 400000 in
theorem log_12_20 (w : World) : Calls Tryz.prog 81 #[.int .i64 12, .iface 100 (.agg #[]), .iface 101 (.bool false)] w fun e w' => e = .returned (.tuple #[.iface 101 (.bool false), .int .i64 0]) ∧ G w w' := by
  go_enter Tryz.func81, Tryz.ntmps81
  go_wp2_with fail
  refine (sure_2 _).mono ?_
  rintro e w1 ⟨rfl, hb1⟩
  go_wp2_with fail
  refine (sure_0 _).mono ?_
  rintro e w2 ⟨rfl, hb2⟩
  go_wp2_with fail
  refine (of_sure_0 _).mono ?_
  rintro e w3 ⟨rfl, hb3⟩
  go_wp2
  go_ret2
  exact ⟨rfl, (hb1.trans hb2).trans hb3⟩
set_option maxHeartbeats 400000 in
theorem log_12_21 (w : World) : Calls Tryz.prog 81 #[.int .i64 12, .iface 100 (.agg #[]), .iface 101 (.bool true)] w fun e w' => e = .returned (.tuple #[.iface 100 (.agg #[]), .int .i64 0]) ∧ G w w' := by
  go_enter Tryz.func81, Tryz.ntmps81
  go_wp2_with fail
  refine (sure_2 _).mono ?_
  rintro e w1 ⟨rfl, hb1⟩
  go_wp2_with fail
  refine (sure_1 _).mono ?_
  rintro e w2 ⟨rfl, hb2⟩
  go_wp2_with fail
  refine (of_sure_2 _).mono ?_
  rintro e w3 ⟨rfl, hb3⟩
  go_wp2
  go_ret2
  exact ⟨rfl, (hb1.trans hb2).trans hb3⟩
set_option maxHeartbeats 400000 in
theorem log_12_22 (w : World) : Calls Tryz.prog 81 #[.int .i64 12, .iface 100 (.agg #[]), .iface 100 (.agg #[])] w fun e w' => e = .returned (.tuple #[.iface 100 (.agg #[]), .int .i64 0]) ∧ G w w' := by
  go_enter Tryz.func81, Tryz.ntmps81
  go_wp2_with fail
  refine (sure_2 _).mono ?_
  rintro e w1 ⟨rfl, hb1⟩
  go_wp2_with fail
  refine (sure_2 _).mono ?_
  rintro e w2 ⟨rfl, hb2⟩
  go_wp2_with fail
  refine (of_sure_2 _).mono ?_
  rintro e w3 ⟨rfl, hb3⟩
  go_wp2
  go_ret2
  exact ⟨rfl, (hb1.trans hb2).trans hb3⟩
set_option maxHeartbeats 400000 in
theorem log_13_00 (w : World) : Calls Tryz.prog 81 #[.int .i64 13, .iface 101 (.bool false), .iface 101 (.bool false)] w fun e w' => e = .returned (.tuple #[.iface 101 (.bool false), .int .i64 0]) ∧ G w w' := by
  go_enter Tryz.func81, Tryz.ntmps81
  go_wp2_with fail
  refine (sure_0 _).mono ?_
  rintro e w1 ⟨rfl, hb1⟩
  go_wp2_with fail
  refine (sure_0 _).mono ?_
  rintro e w2 ⟨rfl, hb2⟩
  go_wp2_with fail
  refine (of_sure_0 _).mono ?_
  rintro e w3 ⟨rfl, hb3⟩
  go_wp2
  go_ret2
  exact ⟨rfl, (hb1.trans hb2).trans hb3⟩
set_option maxHeartbeats 400000 in
theorem log_13_01 (w : World) : Calls Tryz.prog 81 #[.int .i64 13, .iface 101 (.bool false), .iface 101 (.bool true)] w fun e w' => e = .returned (.tuple #[.iface 101 (.bool true), .int .i64 0]) ∧ G w w' := by
  go_enter Tryz.func81, Tryz.ntmps81
  go_wp2_with fail
  refine (sure_0 _).mono ?_
  rintro e w1 ⟨rfl, hb1⟩
  go_wp2_with fail
  refine (sure_1 _).mono ?_
  rintro e w2 ⟨rfl, hb2⟩
  go_wp2_with fail
  refine (of_sure_1 _).mono ?_
  rintro e w3 ⟨rfl, hb3⟩
  go_wp2
  go_ret2
  exact ⟨rfl, (hb1.trans hb2).trans hb3⟩
set_option maxHeartbeats 400000 in
theorem log_13_02 (w : World) : Calls Tryz.prog 81 #[.int .i64 13, .iface 101 (.bool false), .iface 100 (.agg #[])] w fun e w' => e = .returned (.tuple #[.iface 100 (.agg #[]), .int .i64 0]) ∧ G w w' := by
  go_enter Tryz.func81, Tryz.ntmps81
  go_wp2_with fail
  refine (sure_0 _).mono ?_
  rintro e w1 ⟨rfl, hb1⟩
  go_wp2_with fail
  refine (sure_2 _).mono ?_
  rintro e w2 ⟨rfl, hb2⟩
  go_wp2_with fail
  refine (of_sure_2 _).mono ?_
  rintro e w3 ⟨rfl, hb3⟩
  go_wp2
  go_ret2
  exact ⟨rfl, (hb1.trans hb2).trans hb3⟩
set_option maxHeartbeats 400000 in
theorem log_13_10 (w : World) : Calls Tryz.prog 81 #[.int .i64 13, .iface 101 (.bool true), .iface 101 (.bool false)] w fun e w' => e = .returned (.tuple #[.iface 101 (.bool true), .int .i64 0]) ∧ G w w' := by
  go_enter Tryz.func81, Tryz.ntmps81
  go_wp2_with fail
  refine (sure_1 _).mono ?_
  rintro e w1 ⟨rfl, hb1⟩
  go_wp2_with fail
  refine (sure_0 _).mono ?_
  rintro e w2 ⟨rfl, hb2⟩
  go_wp2_with fail
  refine (of_sure_1 _).mono ?_
  rintro e w3 ⟨rfl, hb3⟩
  go_wp2
  go_ret2
  exact ⟨rfl, (hb1.trans hb2).trans hb3⟩
set_option maxHeartbeats 400000 in
theorem log_13_11 (w : World) : Calls Tryz.prog 81 #[.int .i64 13, .iface 101 (.bool true), .iface 101 (.bool true)] w fun e w' => e = .returned (.tuple #[.iface 101 (.bool true), .int .i64 0]) ∧ G w w' := by
  go_enter Tryz.func81, Tryz.ntmps81
  go_wp2_with fail
  refine (sure_1 _).mono ?_
  rintro e w1 ⟨rfl, hb1⟩
  go_wp2_with fail
  refine (sure_1 _).mono ?_
  rintro e w2 ⟨rfl, hb2⟩
  go_wp2_with fail
  refine (of_sure_1 _).mono ?_
  rintro e w3 ⟨rfl, hb3⟩
  go_wp2
  go_ret2
  exact ⟨rfl, (hb1.trans hb2).trans hb3⟩
set_option maxHeartbeats 400000 in
theorem log_13_12 (w : World) : Calls Tryz.prog 81 #[.int .i64 13, .iface 101 (.bool true), .iface 100 (.agg #[])] w fun e w' => e = .returned (.tuple #[.iface 101 (.bool true), .int .i64 0]) ∧ G w w' := by
  go_enter Tryz.func81, Tryz.ntmps81
  go_wp2_with fail
  refine (sure_1 _).mono ?_
  rintro e w1 ⟨rfl, hb1⟩
  go_wp2_with fail
  refine (sure_2 _).mono ?_
  rintro e w2 ⟨rfl, hb2⟩
  go_wp2_with fail
  refine (of_sure_1 _).mono ?_
  rintro e w3 ⟨rfl, hb3⟩
  go_wp2
  go_ret2
  exact ⟨rfl, (hb1.trans hb2).trans hb3⟩
set_option maxHeartbeats 400000 in
theorem log_13_20 (w : World) : Calls Tryz.prog 81 #[.int .i64 13, .iface 100 (.agg #[]), .iface 101 (.bool false)] w fun e w' => e = .returned (.tuple #[.iface 100 (.agg #[]), .int .i64 0]) ∧ G w w' := by
  go_enter Tryz.func81, Tryz.ntmps81
  go_wp2_with fail
  refine (sure_2 _).mono ?_
  rintro e w1 ⟨rfl, hb1⟩
  go_wp2_with fail
  refine (sure_0 _).mono ?_
  rintro e w2 ⟨rfl, hb2⟩
  go_wp2_with fail
  refine (of_sure_2 _).mono ?_
  rintro e w3 ⟨rfl, hb3⟩
  go_wp2
  go_ret2
  exact ⟨rfl, (hb1.trans hb2).trans hb3⟩
set_option maxHeartbeats 400000 in
theorem log_13_21 (w : World) : Calls Tryz.prog 81 #[.int .i64 13, .iface 100 (.agg #[]), .iface 101 (.bool true)] w fun e w' => e = .returned (.tuple #[.iface 101 (.bool true), .int .i64 0]) ∧ G w w' := by
  go_enter Tryz.func81, Tryz.ntmps81
  go_wp2_with fail
  refine (sure_2 _).mono ?_
  rintro e w1 ⟨rfl, hb1⟩
  go_wp2_with fail
  refine (sure_1 _).mono ?_
  rintro e w2 ⟨rfl, hb2⟩
  go_wp2_with fail
  refine (of_sure_1 _).mono ?_
  rintro e w3 ⟨rfl, hb3⟩
  go_wp2
  go_ret2
  exact ⟨rfl, (hb1.trans hb2).trans hb3⟩
set_option maxHeartbeats 400000 in
theorem log_13_22 (w : World) : Calls Tryz.prog 81 #[.int .i64 13, .iface 100 (.agg #[]), .iface 100 (.agg #[])] w fun e w' => e = .returned (.tuple #[.iface 100 (.agg #[]), .int .i64 0]) ∧ G w w' := by
  go_enter Tryz.func81, Tryz.ntmps81
  go_wp2_with fail
  refine (sure_2 _).mono ?_
  rintro e w1 ⟨rfl, hb1⟩
  go_wp2_with fail
  refine (sure_2 _).mono ?_
  rintro e w2 ⟨rfl, hb2⟩
  go_wp2_with fail
  refine (of_sure_2 _).mono ?_
  rintro e w3 ⟨rfl, hb3⟩
  go_wp2
  go_ret2
  exact ⟨rfl, (hb1.trans hb2).trans hb3⟩
set_option maxHeartbeats 400000 in
theorem log_14_00 (w : World) : Calls Tryz.prog 81 #[.int .i64 14, .iface 101 (.bool false), .iface 101 (.bool false)] w fun e w' => e = .returned (.tuple #[.iface 101 (.bool false), .int .i64 0]) ∧ G w w' := by
  go_enter Tryz.func81, Tryz.ntmps81
  go_wp2_with fail
  refine (sure_0 _).mono ?_
  rintro e w1 ⟨rfl, hb1⟩
  go_wp2_with fail
  refine (sure_0 _).mono ?_
  rintro e w2 ⟨rfl, hb2⟩
  go_wp2_with fail
  refine (of_sure_0 _).mono ?_
  rintro e w3 ⟨rfl, hb3⟩
  go_wp2
  go_ret2
  exact ⟨rfl, (hb1.trans hb2).trans hb3⟩
set_option maxHeartbeats 400000 in
theorem log_14_01 (w : World) : Calls Tryz.prog 81 #[.int .i64 14, .iface 101 (.bool false), .iface 101 (.bool true)] w fun e w' => e = .returned (.tuple #[.iface 101 (.bool true), .int .i64 0]) ∧ G w w' := by
  go_enter Tryz.func81, Tryz.ntmps81
  go_wp2_with fail
  refine (sure_0 _).mono ?_
  rintro e w1 ⟨rfl, hb1⟩
  go_wp2_with fail
  refine (sure_1 _).mono ?_
  rintro e w2 ⟨rfl, hb2⟩
  go_wp2_with fail
  refine (of_sure_1 _).mono ?_
  rintro e w3 ⟨rfl, hb3⟩
  go_wp2
  go_ret2
  exact ⟨rfl, (hb1.trans hb2).trans hb3⟩
set_option maxHeartbeats 400000 in
theorem log_14_02 (w : World) : Calls Tryz.prog 81 #[.int .i64 14, .iface 101 (.bool false), .iface 100 (.agg #[])] w fun e w' => e = .returned (.tuple #[.iface 100 (.agg #[]), .int .i64 0]) ∧ G w w' := by
  go_enter Tryz.func81, Tryz.ntmps81
  go_wp2_with fail
  refine (sure_0 _).mono ?_
  rintro e w1 ⟨rfl, hb1⟩
  go_wp2_with fail
  refine (sure_2 _).mono ?_
  rintro e w2 ⟨rfl, hb2⟩
  go_wp2_with fail
  refine (of_sure_2 _).mono ?_
  rintro e w3 ⟨rfl, hb3⟩
  go_wp2
  go_ret2
  exact ⟨rfl, (hb1.trans hb2).trans hb3⟩
set_option maxHeartbeats 400000 in
theorem log_14_10 (w : World) : Calls Tryz.prog 81 #[.int .i64 14, .iface 101 (.bool true), .iface 101 (.bool false)] w fun e w' => e = .returned (.tuple #[.iface 101 (.bool true), .int .i64 0]) ∧ G w w' := by
  go_enter Tryz.func81, Tryz.ntmps81
  go_wp2_with fail
  refine (sure_1 _).mono ?_
  rintro e w1 ⟨rfl, hb1⟩
  go_wp2_with fail
  refine (sure_0 _).mono ?_
  rintro e w2 ⟨rfl, hb2⟩
  go_wp2_with fail
  refine (of_sure_1 _).mono ?_
  rintro e w3 ⟨rfl, hb3⟩
  go_wp2
  go_ret2
  exact ⟨rfl, (hb1.trans hb2).trans hb3⟩
set_option maxHeartbeats 400000 in
theorem log_14_11 (w : World) : Calls Tryz.prog 81 #[.int .i64 14, .iface 101 (.bool true), .iface 101 (.bool true)] w fun e w' => e = .returned (.tuple #[.iface 101 (.bool false), .int .i64 0]) ∧ G w w' := by
  go_enter Tryz.func81, Tryz.ntmps81
  go_wp2_with fail
  refine (sure_1 _).mono ?_
  rintro e w1 ⟨rfl, hb1⟩
  go_wp2_with fail
  refine (sure_1 _).mono ?_
  rintro e w2 ⟨rfl, hb2⟩
  go_wp2_with fail
  refine (of_sure_0 _).mono ?_
  rintro e w3 ⟨rfl, hb3⟩
  go_wp2
  go_ret2
  exact ⟨rfl, (hb1.trans hb2).trans hb3⟩
set_option maxHeartbeats 400000 in
theorem log_14_12 (w : World) : Calls Tryz.prog 81 #[.int .i64 14, .iface 101 (.bool true), .iface 100 (.agg #[])] w fun e w' => e = .returned (.tuple #[.iface 100 (.agg #[]), .int .i64 0]) ∧ G w w' := by
  go_enter Tryz.func81, Tryz.ntmps81
  go_wp2_with fail
  refine (sure_1 _).mono ?_
  rintro e w1 ⟨rfl, hb1⟩
  go_wp2_with fail
  refine (sure_2 _).mono ?_
  rintro e w2 ⟨rfl, hb2⟩
  go_wp2_with fail
  refine (of_sure_2 _).mono ?_
  rintro e w3 ⟨rfl, hb3⟩
  go_wp2
  go_ret2
  exact ⟨rfl, (hb1.trans hb2).trans hb3⟩
set_option maxHeartbeats 400000 in
theorem log_14_20 (w : World) : Calls Tryz.prog 81 #[.int .i64 14, .iface 100 (.agg #[]), .iface 101 (.bool false)] w fun e w' => e = .returned (.tuple #[.iface 100 (.agg #[]), .int .i64 0]) ∧ G w w' := by
  go_enter Tryz.func81, Tryz.ntmps81
  go_wp2_with fail
  refine (sure_2 _).mono ?_
  rintro e w1 ⟨rfl, hb1⟩
  go_wp2_with fail
  refine (sure_0 _).mono ?_
  rintro e w2 ⟨rfl, hb2⟩
  go_wp2_with fail
  refine (of_sure_2 _).mono ?_
  rintro e w3 ⟨rfl, hb3⟩
  go_wp2
  go_ret2
  exact ⟨rfl, (hb1.trans hb2).trans hb3⟩
set_option maxHeartbeats 400000 in
theorem log_14_21 (w : World) : Calls Tryz.prog 81 #[.int .i64 14, .iface 100 (.agg #[]), .iface 101 (.bool true)] w fun e w' => e = .returned (.tuple #[.iface 100 (.agg #[]), .int .i64 0]) ∧ G w w' := by
  go_enter Tryz.func81, Tryz.ntmps81
  go_wp2_with fail
  refine (sure_2 _).mono ?_
  rintro e w1 ⟨rfl, hb1⟩
  go_wp2_with fail
  refine (sure_1 _).mono ?_
  rintro e w2 ⟨rfl, hb2⟩
  go_wp2_with fail
  refine (of_sure_2 _).mono ?_
  rintro e w3 ⟨rfl, hb3⟩
  go_wp2
  go_ret2
  exact ⟨rfl, (hb1.trans hb2).trans hb3⟩
set_option maxHeartbeats 400000 in
theorem log_14_22 (w : World) : Calls Tryz.prog 81 #[.int .i64 14, .iface 100 (.agg #[]), .iface 100 (.agg #[])] w fun e w' => e = .returned (.tuple #[.iface 100 (.agg #[]), .int .i64 0]) ∧ G w w' := by
  go_enter Tryz.func81, Tryz.ntmps81
  go_wp2_with fail
  refine (sure_2 _).mono ?_
  rintro e w1 ⟨rfl, hb1⟩
  go_wp2_with fail
  refine (sure_2 _).mono ?_
  rintro e w2 ⟨rfl, hb2⟩
  go_wp2_with fail
  refine (of_sure_2 _).mono ?_
  rintro e w3 ⟨rfl, hb3⟩
  go_wp2
  go_ret2
  exact ⟨rfl, (hb1.trans hb2).trans hb3⟩
end Go.Proofs.YtnoajhegcjoebabGreatDoor
