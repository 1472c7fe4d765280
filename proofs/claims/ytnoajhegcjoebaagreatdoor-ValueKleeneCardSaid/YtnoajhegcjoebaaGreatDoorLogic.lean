/- The three-valued logic, case by case: a closed table. -/
import Derived.Test.YtnoajhegcjoebaaGreatDoorFaces
import Derived.Test.YtnoajhegcjoebaaGreatDoorAsserts
namespace Go.Proofs.YtnoajhegcjoebaaGreatDoor
open Go.RowKit
attribute [local go_sem] as_null_null as_null_truth as_truth_null as_truth_truth

set_option maxRecDepth 100000 in
set_option maxHeartbeats 400000 in
theorem sure_0 (w : World) : Calls Tryz.prog 48 #[.iface 65 (.bool false)] w fun e w' => e = .returned (.tuple #[.int .i64 (-1), .bool true]) ∧ G w w' := by
  go_enter Tryz.func48, Tryz.ntmps48
  go_wp2
  go_ret2
  exact ⟨rfl, by repeat (first | exact G.refl _ | refine G.alloc ?_ _ | refine G.setCell ?_ (by simp) _)⟩
set_option maxHeartbeats 400000 in
theorem of_sure_0 (w : World) : Calls Tryz.prog 49 #[.int .i64 (-1)] w fun e w' => e = .returned (.iface 65 (.bool false)) ∧ G w w' := by
  go_enter Tryz.func49, Tryz.ntmps49
  go_wp2
  go_ret
  exact ⟨rfl, G.refl _⟩
set_option maxHeartbeats 400000 in
theorem not_0 (w : World) : Calls Tryz.prog 158 #[.bool false, .int .i64 2] w fun e w' => e = .returned (.tuple #[.iface 65 (.bool true), .int .i64 0]) ∧ G w w' := by
  go_enter Tryz.func158, Tryz.ntmps158
  go_wp2
  go_ret2
  exact ⟨rfl, by repeat (first | exact G.refl _ | refine G.alloc ?_ _ | refine G.setCell ?_ (by simp) _)⟩
theorem Not_0 (w : World) : Calls Tryz.prog 21 #[.int .i64 2, V 1 0 0 E0] w fun e w' => e = .returned (.tuple #[V 1 1 0 E0, .int .i64 0]) ∧ G w w' :=
  Unary_ff 2 _ 0 0 _ _ _ _ (by decide) (by decide) not_0 answer_tt w
set_option maxHeartbeats 400000 in
theorem three_0 (w : World) : Calls Tryz.prog 8 #[.int .i64 0] w fun e w' => e = .returned (V 1 0 0 E0) ∧ G w w' := by
  go_enter Tryz.func8, Tryz.ntmps8
  go_wp2
  exact bodyPost_ret (v := V 1 0 0 E0) (by simp [results, Tryz.results8, go_sem]) rfl ⟨rfl, by repeat (first | exact G.refl _ | refine G.alloc ?_ _ | refine G.setCell ?_ (by simp) _)⟩
set_option maxRecDepth 100000 in
set_option maxHeartbeats 400000 in
theorem sure_1 (w : World) : Calls Tryz.prog 48 #[.iface 65 (.bool true)] w fun e w' => e = .returned (.tuple #[.int .i64 1, .bool true]) ∧ G w w' := by
  go_enter Tryz.func48, Tryz.ntmps48
  go_wp2
  go_ret2
  exact ⟨rfl, by repeat (first | exact G.refl _ | refine G.alloc ?_ _ | refine G.setCell ?_ (by simp) _)⟩
set_option maxHeartbeats 400000 in
theorem of_sure_1 (w : World) : Calls Tryz.prog 49 #[.int .i64 1] w fun e w' => e = .returned (.iface 65 (.bool true)) ∧ G w w' := by
  go_enter Tryz.func49, Tryz.ntmps49
  go_wp2
  go_ret
  exact ⟨rfl, G.refl _⟩
set_option maxHeartbeats 400000 in
theorem not_1 (w : World) : Calls Tryz.prog 158 #[.bool true, .int .i64 2] w fun e w' => e = .returned (.tuple #[.iface 65 (.bool false), .int .i64 0]) ∧ G w w' := by
  go_enter Tryz.func158, Tryz.ntmps158
  go_wp2
  go_ret2
  exact ⟨rfl, by repeat (first | exact G.refl _ | refine G.alloc ?_ _ | refine G.setCell ?_ (by simp) _)⟩
theorem Not_1 (w : World) : Calls Tryz.prog 21 #[.int .i64 2, V 1 1 0 E0] w fun e w' => e = .returned (.tuple #[V 1 0 0 E0, .int .i64 0]) ∧ G w w' :=
  Unary_tt 2 _ 0 0 _ _ _ _ (by decide) (by decide) not_1 answer_ff w
set_option maxHeartbeats 400000 in
theorem three_1 (w : World) : Calls Tryz.prog 8 #[.int .i64 1] w fun e w' => e = .returned (V 1 1 0 E0) ∧ G w w' := by
  go_enter Tryz.func8, Tryz.ntmps8
  go_wp2
  exact bodyPost_ret (v := V 1 1 0 E0) (by simp [results, Tryz.results8, go_sem]) rfl ⟨rfl, by repeat (first | exact G.refl _ | refine G.alloc ?_ _ | refine G.setCell ?_ (by simp) _)⟩
set_option maxRecDepth 100000 in
set_option maxHeartbeats 400000 in
theorem sure_2 (w : World) : Calls Tryz.prog 48 #[.iface 64 (.agg #[])] w fun e w' => e = .returned (.tuple #[.int .i64 0, .bool true]) ∧ G w w' := by
  go_enter Tryz.func48, Tryz.ntmps48
  go_wp2
  go_ret2
  exact ⟨rfl, by repeat (first | exact G.refl _ | refine G.alloc ?_ _ | refine G.setCell ?_ (by simp) _)⟩
set_option maxHeartbeats 400000 in
theorem of_sure_2 (w : World) : Calls Tryz.prog 49 #[.int .i64 0] w fun e w' => e = .returned (.iface 64 (.agg #[])) ∧ G w w' := by
  go_enter Tryz.func49, Tryz.ntmps49
  go_wp2
  go_ret
  exact ⟨rfl, G.refl _⟩
set_option maxHeartbeats 400000 in
theorem not_2 (w : World) : Calls Tryz.prog 153 #[.agg #[], .int .i64 2] w fun e w' => e = .returned (.tuple #[.iface 64 (.agg #[]), .int .i64 0]) ∧ G w w' := by
  go_enter Tryz.func153, Tryz.ntmps153
  go_wp2
  go_ret2
  exact ⟨rfl, by repeat (first | exact G.refl _ | refine G.alloc ?_ _ | refine G.setCell ?_ (by simp) _)⟩
theorem Not_2 (w : World) : Calls Tryz.prog 21 #[.int .i64 2, V 0 0 0 E0] w fun e w' => e = .returned (.tuple #[V 0 0 0 E0, .int .i64 0]) ∧ G w w' :=
  Unary_null 2 _ 0 0 _ _ _ _ (by decide) (by decide) not_2 answer_null w
set_option maxHeartbeats 400000 in
theorem three_2 (w : World) : Calls Tryz.prog 8 #[.int .i64 2] w fun e w' => e = .returned (V 0 0 0 E0) ∧ G w w' := by
  go_enter Tryz.func8, Tryz.ntmps8
  go_wp2
  exact bodyPost_ret (v := V 0 0 0 E0) (by simp [results, Tryz.results8, go_sem]) rfl ⟨rfl, by repeat (first | exact G.refl _ | refine G.alloc ?_ _ | refine G.setCell ?_ (by simp) _)⟩
set_option maxHeartbeats 400000 in
theorem log_12_00 (w : World) : Calls Tryz.prog 31 #[.int .i64 12, .iface 65 (.bool false), .iface 65 (.bool false)] w fun e w' => e = .returned (.tuple #[.iface 65 (.bool false), .int .i64 0]) ∧ G w w' := by
  go_enter Tryz.func31, Tryz.ntmps31
  go_wp2_with fail
  refine (sure_0 _).mono ?_
  rintro e w1 ⟨rfl, hb1⟩
  go_wp2_with fail
  refine (sure_0 _).mono ?_
  rintro e w2 ⟨rfl, hb2⟩
  go_wp2_with fail
  refine (of_sure_0 _).mono ?_
  rintro e w3 ⟨rfl, hb3⟩
  go_wp2
  go_ret2
  exact ⟨rfl, hb1.trans (hb2.trans hb3)⟩
set_option maxHeartbeats 400000 in
theorem bin_12_00 (w : World) : Calls Tryz.prog 25 #[.int .i64 12, .iface 65 (.bool false), .iface 65 (.bool false)] w fun e w' => e = .returned (.tuple #[.iface 65 (.bool false), .int .i64 0]) ∧ G w w' := by
  go_enter Tryz.func25, Tryz.ntmps25
  go_wp2_with fail
  refine (log_12_00 _).mono ?_
  rintro e w1 ⟨rfl, hb1⟩
  go_wp2
  go_ret2
  exact ⟨rfl, hb1⟩
theorem Bin_12_00 (w : World) : Calls Tryz.prog 14 #[.int .i64 12, V 1 0 0 E0, V 1 0 0 E0] w fun e w' => e = .returned (.tuple #[V 1 0 0 E0, .int .i64 0]) ∧ G w w' :=
  Binary_of 12 _ _ _ _ _ _ _ _ _ _ _ 0 0 _ _ _ _ (by decide) (by decide) item_ff item_ff bin_12_00 answer_ff w
set_option maxHeartbeats 400000 in
theorem log_12_01 (w : World) : Calls Tryz.prog 31 #[.int .i64 12, .iface 65 (.bool false), .iface 65 (.bool true)] w fun e w' => e = .returned (.tuple #[.iface 65 (.bool false), .int .i64 0]) ∧ G w w' := by
  go_enter Tryz.func31, Tryz.ntmps31
  go_wp2_with fail
  refine (sure_0 _).mono ?_
  rintro e w1 ⟨rfl, hb1⟩
  go_wp2_with fail
  refine (sure_1 _).mono ?_
  rintro e w2 ⟨rfl, hb2⟩
  go_wp2_with fail
  refine (of_sure_0 _).mono ?_
  rintro e w3 ⟨rfl, hb3⟩
  go_wp2
  go_ret2
  exact ⟨rfl, hb1.trans (hb2.trans hb3)⟩
set_option maxHeartbeats 400000 in
theorem bin_12_01 (w : World) : Calls Tryz.prog 25 #[.int .i64 12, .iface 65 (.bool false), .iface 65 (.bool true)] w fun e w' => e = .returned (.tuple #[.iface 65 (.bool false), .int .i64 0]) ∧ G w w' := by
  go_enter Tryz.func25, Tryz.ntmps25
  go_wp2_with fail
  refine (log_12_01 _).mono ?_
  rintro e w1 ⟨rfl, hb1⟩
  go_wp2
  go_ret2
  exact ⟨rfl, hb1⟩
theorem Bin_12_01 (w : World) : Calls Tryz.prog 14 #[.int .i64 12, V 1 0 0 E0, V 1 1 0 E0] w fun e w' => e = .returned (.tuple #[V 1 0 0 E0, .int .i64 0]) ∧ G w w' :=
  Binary_of 12 _ _ _ _ _ _ _ _ _ _ _ 0 0 _ _ _ _ (by decide) (by decide) item_ff item_tt bin_12_01 answer_ff w
set_option maxHeartbeats 400000 in
theorem log_12_02 (w : World) : Calls Tryz.prog 31 #[.int .i64 12, .iface 65 (.bool false), .iface 64 (.agg #[])] w fun e w' => e = .returned (.tuple #[.iface 65 (.bool false), .int .i64 0]) ∧ G w w' := by
  go_enter Tryz.func31, Tryz.ntmps31
  go_wp2_with fail
  refine (sure_0 _).mono ?_
  rintro e w1 ⟨rfl, hb1⟩
  go_wp2_with fail
  refine (sure_2 _).mono ?_
  rintro e w2 ⟨rfl, hb2⟩
  go_wp2_with fail
  refine (of_sure_0 _).mono ?_
  rintro e w3 ⟨rfl, hb3⟩
  go_wp2
  go_ret2
  exact ⟨rfl, hb1.trans (hb2.trans hb3)⟩
set_option maxHeartbeats 400000 in
theorem bin_12_02 (w : World) : Calls Tryz.prog 25 #[.int .i64 12, .iface 65 (.bool false), .iface 64 (.agg #[])] w fun e w' => e = .returned (.tuple #[.iface 65 (.bool false), .int .i64 0]) ∧ G w w' := by
  go_enter Tryz.func25, Tryz.ntmps25
  go_wp2_with fail
  refine (log_12_02 _).mono ?_
  rintro e w1 ⟨rfl, hb1⟩
  go_wp2
  go_ret2
  exact ⟨rfl, hb1⟩
theorem Bin_12_02 (w : World) : Calls Tryz.prog 14 #[.int .i64 12, V 1 0 0 E0, V 0 0 0 E0] w fun e w' => e = .returned (.tuple #[V 1 0 0 E0, .int .i64 0]) ∧ G w w' :=
  Binary_of 12 _ _ _ _ _ _ _ _ _ _ _ 0 0 _ _ _ _ (by decide) (by decide) item_ff item_null bin_12_02 answer_ff w
set_option maxHeartbeats 400000 in
theorem log_12_10 (w : World) : Calls Tryz.prog 31 #[.int .i64 12, .iface 65 (.bool true), .iface 65 (.bool false)] w fun e w' => e = .returned (.tuple #[.iface 65 (.bool false), .int .i64 0]) ∧ G w w' := by
  go_enter Tryz.func31, Tryz.ntmps31
  go_wp2_with fail
  refine (sure_1 _).mono ?_
  rintro e w1 ⟨rfl, hb1⟩
  go_wp2_with fail
  refine (sure_0 _).mono ?_
  rintro e w2 ⟨rfl, hb2⟩
  go_wp2_with fail
  refine (of_sure_0 _).mono ?_
  rintro e w3 ⟨rfl, hb3⟩
  go_wp2
  go_ret2
  exact ⟨rfl, hb1.trans (hb2.trans hb3)⟩
set_option maxHeartbeats 400000 in
theorem bin_12_10 (w : World) : Calls Tryz.prog 25 #[.int .i64 12, .iface 65 (.bool true), .iface 65 (.bool false)] w fun e w' => e = .returned (.tuple #[.iface 65 (.bool false), .int .i64 0]) ∧ G w w' := by
  go_enter Tryz.func25, Tryz.ntmps25
  go_wp2_with fail
  refine (log_12_10 _).mono ?_
  rintro e w1 ⟨rfl, hb1⟩
  go_wp2
  go_ret2
  exact ⟨rfl, hb1⟩
theorem Bin_12_10 (w : World) : Calls Tryz.prog 14 #[.int .i64 12, V 1 1 0 E0, V 1 0 0 E0] w fun e w' => e = .returned (.tuple #[V 1 0 0 E0, .int .i64 0]) ∧ G w w' :=
  Binary_of 12 _ _ _ _ _ _ _ _ _ _ _ 0 0 _ _ _ _ (by decide) (by decide) item_tt item_ff bin_12_10 answer_ff w
set_option maxHeartbeats 400000 in
theorem log_12_11 (w : World) : Calls Tryz.prog 31 #[.int .i64 12, .iface 65 (.bool true), .iface 65 (.bool true)] w fun e w' => e = .returned (.tuple #[.iface 65 (.bool true), .int .i64 0]) ∧ G w w' := by
  go_enter Tryz.func31, Tryz.ntmps31
  go_wp2_with fail
  refine (sure_1 _).mono ?_
  rintro e w1 ⟨rfl, hb1⟩
  go_wp2_with fail
  refine (sure_1 _).mono ?_
  rintro e w2 ⟨rfl, hb2⟩
  go_wp2_with fail
  refine (of_sure_1 _).mono ?_
  rintro e w3 ⟨rfl, hb3⟩
  go_wp2
  go_ret2
  exact ⟨rfl, hb1.trans (hb2.trans hb3)⟩
set_option maxHeartbeats 400000 in
theorem bin_12_11 (w : World) : Calls Tryz.prog 25 #[.int .i64 12, .iface 65 (.bool true), .iface 65 (.bool true)] w fun e w' => e = .returned (.tuple #[.iface 65 (.bool true), .int .i64 0]) ∧ G w w' := by
  go_enter Tryz.func25, Tryz.ntmps25
  go_wp2_with fail
  refine (log_12_11 _).mono ?_
  rintro e w1 ⟨rfl, hb1⟩
  go_wp2
  go_ret2
  exact ⟨rfl, hb1⟩
theorem Bin_12_11 (w : World) : Calls Tryz.prog 14 #[.int .i64 12, V 1 1 0 E0, V 1 1 0 E0] w fun e w' => e = .returned (.tuple #[V 1 1 0 E0, .int .i64 0]) ∧ G w w' :=
  Binary_of 12 _ _ _ _ _ _ _ _ _ _ _ 0 0 _ _ _ _ (by decide) (by decide) item_tt item_tt bin_12_11 answer_tt w
set_option maxHeartbeats 400000 in
theorem log_12_12 (w : World) : Calls Tryz.prog 31 #[.int .i64 12, .iface 65 (.bool true), .iface 64 (.agg #[])] w fun e w' => e = .returned (.tuple #[.iface 64 (.agg #[]), .int .i64 0]) ∧ G w w' := by
  go_enter Tryz.func31, Tryz.ntmps31
  go_wp2_with fail
  refine (sure_1 _).mono ?_
  rintro e w1 ⟨rfl, hb1⟩
  go_wp2_with fail
  refine (sure_2 _).mono ?_
  rintro e w2 ⟨rfl, hb2⟩
  go_wp2_with fail
  refine (of_sure_2 _).mono ?_
  rintro e w3 ⟨rfl, hb3⟩
  go_wp2
  go_ret2
  exact ⟨rfl, hb1.trans (hb2.trans hb3)⟩
set_option maxHeartbeats 400000 in
theorem bin_12_12 (w : World) : Calls Tryz.prog 25 #[.int .i64 12, .iface 65 (.bool true), .iface 64 (.agg #[])] w fun e w' => e = .returned (.tuple #[.iface 64 (.agg #[]), .int .i64 0]) ∧ G w w' := by
  go_enter Tryz.func25, Tryz.ntmps25
  go_wp2_with fail
  refine (log_12_12 _).mono ?_
  rintro e w1 ⟨rfl, hb1⟩
  go_wp2
  go_ret2
  exact ⟨rfl, hb1⟩
theorem Bin_12_12 (w : World) : Calls Tryz.prog 14 #[.int .i64 12, V 1 1 0 E0, V 0 0 0 E0] w fun e w' => e = .returned (.tuple #[V 0 0 0 E0, .int .i64 0]) ∧ G w w' :=
  Binary_of 12 _ _ _ _ _ _ _ _ _ _ _ 0 0 _ _ _ _ (by decide) (by decide) item_tt item_null bin_12_12 answer_null w
set_option maxHeartbeats 400000 in
theorem log_12_20 (w : World) : Calls Tryz.prog 31 #[.int .i64 12, .iface 64 (.agg #[]), .iface 65 (.bool false)] w fun e w' => e = .returned (.tuple #[.iface 65 (.bool false), .int .i64 0]) ∧ G w w' := by
  go_enter Tryz.func31, Tryz.ntmps31
  go_wp2_with fail
  refine (sure_2 _).mono ?_
  rintro e w1 ⟨rfl, hb1⟩
  go_wp2_with fail
  refine (sure_0 _).mono ?_
  rintro e w2 ⟨rfl, hb2⟩
  go_wp2_with fail
  refine (of_sure_0 _).mono ?_
  rintro e w3 ⟨rfl, hb3⟩
  go_wp2
  go_ret2
  exact ⟨rfl, hb1.trans (hb2.trans hb3)⟩
set_option maxHeartbeats 400000 in
theorem bin_12_20 (w : World) : Calls Tryz.prog 25 #[.int .i64 12, .iface 64 (.agg #[]), .iface 65 (.bool false)] w fun e w' => e = .returned (.tuple #[.iface 65 (.bool false), .int .i64 0]) ∧ G w w' := by
  go_enter Tryz.func25, Tryz.ntmps25
  go_wp2_with fail
  refine (log_12_20 _).mono ?_
  rintro e w1 ⟨rfl, hb1⟩
  go_wp2
  go_ret2
  exact ⟨rfl, hb1⟩
theorem Bin_12_20 (w : World) : Calls Tryz.prog 14 #[.int .i64 12, V 0 0 0 E0, V 1 0 0 E0] w fun e w' => e = .returned (.tuple #[V 1 0 0 E0, .int .i64 0]) ∧ G w w' :=
  Binary_of 12 _ _ _ _ _ _ _ _ _ _ _ 0 0 _ _ _ _ (by decide) (by decide) item_null item_ff bin_12_20 answer_ff w
set_option maxHeartbeats 400000 in
theorem log_12_21 (w : World) : Calls Tryz.prog 31 #[.int .i64 12, .iface 64 (.agg #[]), .iface 65 (.bool true)] w fun e w' => e = .returned (.tuple #[.iface 64 (.agg #[]), .int .i64 0]) ∧ G w w' := by
  go_enter Tryz.func31, Tryz.ntmps31
  go_wp2_with fail
  refine (sure_2 _).mono ?_
  rintro e w1 ⟨rfl, hb1⟩
  go_wp2_with fail
  refine (sure_1 _).mono ?_
  rintro e w2 ⟨rfl, hb2⟩
  go_wp2_with fail
  refine (of_sure_2 _).mono ?_
  rintro e w3 ⟨rfl, hb3⟩
  go_wp2
  go_ret2
  exact ⟨rfl, hb1.trans (hb2.trans hb3)⟩
set_option maxHeartbeats 400000 in
theorem bin_12_21 (w : World) : Calls Tryz.prog 25 #[.int .i64 12, .iface 64 (.agg #[]), .iface 65 (.bool true)] w fun e w' => e = .returned (.tuple #[.iface 64 (.agg #[]), .int .i64 0]) ∧ G w w' := by
  go_enter Tryz.func25, Tryz.ntmps25
  go_wp2_with fail
  refine (log_12_21 _).mono ?_
  rintro e w1 ⟨rfl, hb1⟩
  go_wp2
  go_ret2
  exact ⟨rfl, hb1⟩
theorem Bin_12_21 (w : World) : Calls Tryz.prog 14 #[.int .i64 12, V 0 0 0 E0, V 1 1 0 E0] w fun e w' => e = .returned (.tuple #[V 0 0 0 E0, .int .i64 0]) ∧ G w w' :=
  Binary_of 12 _ _ _ _ _ _ _ _ _ _ _ 0 0 _ _ _ _ (by decide) (by decide) item_null item_tt bin_12_21 answer_null w
set_option maxHeartbeats 400000 in
theorem log_12_22 (w : World) : Calls Tryz.prog 31 #[.int .i64 12, .iface 64 (.agg #[]), .iface 64 (.agg #[])] w fun e w' => e = .returned (.tuple #[.iface 64 (.agg #[]), .int .i64 0]) ∧ G w w' := by
  go_enter Tryz.func31, Tryz.ntmps31
  go_wp2_with fail
  refine (sure_2 _).mono ?_
  rintro e w1 ⟨rfl, hb1⟩
  go_wp2_with fail
  refine (sure_2 _).mono ?_
  rintro e w2 ⟨rfl, hb2⟩
  go_wp2_with fail
  refine (of_sure_2 _).mono ?_
  rintro e w3 ⟨rfl, hb3⟩
  go_wp2
  go_ret2
  exact ⟨rfl, hb1.trans (hb2.trans hb3)⟩
set_option maxHeartbeats 400000 in
theorem bin_12_22 (w : World) : Calls Tryz.prog 25 #[.int .i64 12, .iface 64 (.agg #[]), .iface 64 (.agg #[])] w fun e w' => e = .returned (.tuple #[.iface 64 (.agg #[]), .int .i64 0]) ∧ G w w' := by
  go_enter Tryz.func25, Tryz.ntmps25
  go_wp2_with fail
  refine (log_12_22 _).mono ?_
  rintro e w1 ⟨rfl, hb1⟩
  go_wp2
  go_ret2
  exact ⟨rfl, hb1⟩
theorem Bin_12_22 (w : World) : Calls Tryz.prog 14 #[.int .i64 12, V 0 0 0 E0, V 0 0 0 E0] w fun e w' => e = .returned (.tuple #[V 0 0 0 E0, .int .i64 0]) ∧ G w w' :=
  Binary_of 12 _ _ _ _ _ _ _ _ _ _ _ 0 0 _ _ _ _ (by decide) (by decide) item_null item_null bin_12_22 answer_null w
set_option maxHeartbeats 400000 in
theorem log_13_00 (w : World) : Calls Tryz.prog 31 #[.int .i64 13, .iface 65 (.bool false), .iface 65 (.bool false)] w fun e w' => e = .returned (.tuple #[.iface 65 (.bool false), .int .i64 0]) ∧ G w w' := by
  go_enter Tryz.func31, Tryz.ntmps31
  go_wp2_with fail
  refine (sure_0 _).mono ?_
  rintro e w1 ⟨rfl, hb1⟩
  go_wp2_with fail
  refine (sure_0 _).mono ?_
  rintro e w2 ⟨rfl, hb2⟩
  go_wp2_with fail
  refine (of_sure_0 _).mono ?_
  rintro e w3 ⟨rfl, hb3⟩
  go_wp2
  go_ret2
  exact ⟨rfl, hb1.trans (hb2.trans hb3)⟩
set_option maxHeartbeats 400000 in
theorem bin_13_00 (w : World) : Calls Tryz.prog 25 #[.int .i64 13, .iface 65 (.bool false), .iface 65 (.bool false)] w fun e w' => e = .returned (.tuple #[.iface 65 (.bool false), .int .i64 0]) ∧ G w w' := by
  go_enter Tryz.func25, Tryz.ntmps25
  go_wp2_with fail
  refine (log_13_00 _).mono ?_
  rintro e w1 ⟨rfl, hb1⟩
  go_wp2
  go_ret2
  exact ⟨rfl, hb1⟩
theorem Bin_13_00 (w : World) : Calls Tryz.prog 14 #[.int .i64 13, V 1 0 0 E0, V 1 0 0 E0] w fun e w' => e = .returned (.tuple #[V 1 0 0 E0, .int .i64 0]) ∧ G w w' :=
  Binary_of 13 _ _ _ _ _ _ _ _ _ _ _ 0 0 _ _ _ _ (by decide) (by decide) item_ff item_ff bin_13_00 answer_ff w
set_option maxHeartbeats 400000 in
theorem log_13_01 (w : World) : Calls Tryz.prog 31 #[.int .i64 13, .iface 65 (.bool false), .iface 65 (.bool true)] w fun e w' => e = .returned (.tuple #[.iface 65 (.bool true), .int .i64 0]) ∧ G w w' := by
  go_enter Tryz.func31, Tryz.ntmps31
  go_wp2_with fail
  refine (sure_0 _).mono ?_
  rintro e w1 ⟨rfl, hb1⟩
  go_wp2_with fail
  refine (sure_1 _).mono ?_
  rintro e w2 ⟨rfl, hb2⟩
  go_wp2_with fail
  refine (of_sure_1 _).mono ?_
  rintro e w3 ⟨rfl, hb3⟩
  go_wp2
  go_ret2
  exact ⟨rfl, hb1.trans (hb2.trans hb3)⟩
set_option maxHeartbeats 400000 in
theorem bin_13_01 (w : World) : Calls Tryz.prog 25 #[.int .i64 13, .iface 65 (.bool false), .iface 65 (.bool true)] w fun e w' => e = .returned (.tuple #[.iface 65 (.bool true), .int .i64 0]) ∧ G w w' := by
  go_enter Tryz.func25, Tryz.ntmps25
  go_wp2_with fail
  refine (log_13_01 _).mono ?_
  rintro e w1 ⟨rfl, hb1⟩
  go_wp2
  go_ret2
  exact ⟨rfl, hb1⟩
theorem Bin_13_01 (w : World) : Calls Tryz.prog 14 #[.int .i64 13, V 1 0 0 E0, V 1 1 0 E0] w fun e w' => e = .returned (.tuple #[V 1 1 0 E0, .int .i64 0]) ∧ G w w' :=
  Binary_of 13 _ _ _ _ _ _ _ _ _ _ _ 0 0 _ _ _ _ (by decide) (by decide) item_ff item_tt bin_13_01 answer_tt w
set_option maxHeartbeats 400000 in
theorem log_13_02 (w : World) : Calls Tryz.prog 31 #[.int .i64 13, .iface 65 (.bool false), .iface 64 (.agg #[])] w fun e w' => e = .returned (.tuple #[.iface 64 (.agg #[]), .int .i64 0]) ∧ G w w' := by
  go_enter Tryz.func31, Tryz.ntmps31
  go_wp2_with fail
  refine (sure_0 _).mono ?_
  rintro e w1 ⟨rfl, hb1⟩
  go_wp2_with fail
  refine (sure_2 _).mono ?_
  rintro e w2 ⟨rfl, hb2⟩
  go_wp2_with fail
  refine (of_sure_2 _).mono ?_
  rintro e w3 ⟨rfl, hb3⟩
  go_wp2
  go_ret2
  exact ⟨rfl, hb1.trans (hb2.trans hb3)⟩
set_option maxHeartbeats 400000 in
theorem bin_13_02 (w : World) : Calls Tryz.prog 25 #[.int .i64 13, .iface 65 (.bool false), .iface 64 (.agg #[])] w fun e w' => e = .returned (.tuple #[.iface 64 (.agg #[]), .int .i64 0]) ∧ G w w' := by
  go_enter Tryz.func25, Tryz.ntmps25
  go_wp2_with fail
  refine (log_13_02 _).mono ?_
  rintro e w1 ⟨rfl, hb1⟩
  go_wp2
  go_ret2
  exact ⟨rfl, hb1⟩
theorem Bin_13_02 (w : World) : Calls Tryz.prog 14 #[.int .i64 13, V 1 0 0 E0, V 0 0 0 E0] w fun e w' => e = .returned (.tuple #[V 0 0 0 E0, .int .i64 0]) ∧ G w w' :=
  Binary_of 13 _ _ _ _ _ _ _ _ _ _ _ 0 0 _ _ _ _ (by decide) (by decide) item_ff item_null bin_13_02 answer_null w
set_option maxHeartbeats 400000 in
theorem log_13_10 (w : World) : Calls Tryz.prog 31 #[.int .i64 13, .iface 65 (.bool true), .iface 65 (.bool false)] w fun e w' => e = .returned (.tuple #[.iface 65 (.bool true), .int .i64 0]) ∧ G w w' := by
  go_enter Tryz.func31, Tryz.ntmps31
  go_wp2_with fail
  refine (sure_1 _).mono ?_
  rintro e w1 ⟨rfl, hb1⟩
  go_wp2_with fail
  refine (sure_0 _).mono ?_
  rintro e w2 ⟨rfl, hb2⟩
  go_wp2_with fail
  refine (of_sure_1 _).mono ?_
  rintro e w3 ⟨rfl, hb3⟩
  go_wp2
  go_ret2
  exact ⟨rfl, hb1.trans (hb2.trans hb3)⟩
set_option maxHeartbeats 400000 in
theorem bin_13_10 (w : World) : Calls Tryz.prog 25 #[.int .i64 13, .iface 65 (.bool true), .iface 65 (.bool false)] w fun e w' => e = .returned (.tuple #[.iface 65 (.bool true), .int .i64 0]) ∧ G w w' := by
  go_enter Tryz.func25, Tryz.ntmps25
  go_wp2_with fail
  refine (log_13_10 _).mono ?_
  rintro e w1 ⟨rfl, hb1⟩
  go_wp2
  go_ret2
  exact ⟨rfl, hb1⟩
theorem Bin_13_10 (w : World) : Calls Tryz.prog 14 #[.int .i64 13, V 1 1 0 E0, V 1 0 0 E0] w fun e w' => e = .returned (.tuple #[V 1 1 0 E0, .int .i64 0]) ∧ G w w' :=
  Binary_of 13 _ _ _ _ _ _ _ _ _ _ _ 0 0 _ _ _ _ (by decide) (by decide) item_tt item_ff bin_13_10 answer_tt w
set_option maxHeartbeats 400000 in
theorem log_13_11 (w : World) : Calls Tryz.prog 31 #[.int .i64 13, .iface 65 (.bool true), .iface 65 (.bool true)] w fun e w' => e = .returned (.tuple #[.iface 65 (.bool true), .int .i64 0]) ∧ G w w' := by
  go_enter Tryz.func31, Tryz.ntmps31
  go_wp2_with fail
  refine (sure_1 _).mono ?_
  rintro e w1 ⟨rfl, hb1⟩
  go_wp2_with fail
  refine (sure_1 _).mono ?_
  rintro e w2 ⟨rfl, hb2⟩
  go_wp2_with fail
  refine (of_sure_1 _).mono ?_
  rintro e w3 ⟨rfl, hb3⟩
  go_wp2
  go_ret2
  exact ⟨rfl, hb1.trans (hb2.trans hb3)⟩
set_option maxHeartbeats 400000 in
theorem bin_13_11 (w : World) : Calls Tryz.prog 25 #[.int .i64 13, .iface 65 (.bool true), .iface 65 (.bool true)] w fun e w' => e = .returned (.tuple #[.iface 65 (.bool true), .int .i64 0]) ∧ G w w' := by
  go_enter Tryz.func25, Tryz.ntmps25
  go_wp2_with fail
  refine (log_13_11 _).mono ?_
  rintro e w1 ⟨rfl, hb1⟩
  go_wp2
  go_ret2
  exact ⟨rfl, hb1⟩
theorem Bin_13_11 (w : World) : Calls Tryz.prog 14 #[.int .i64 13, V 1 1 0 E0, V 1 1 0 E0] w fun e w' => e = .returned (.tuple #[V 1 1 0 E0, .int .i64 0]) ∧ G w w' :=
  Binary_of 13 _ _ _ _ _ _ _ _ _ _ _ 0 0 _ _ _ _ (by decide) (by decide) item_tt item_tt bin_13_11 answer_tt w
set_option maxHeartbeats 400000 in
theorem log_13_12 (w : World) : Calls Tryz.prog 31 #[.int .i64 13, .iface 65 (.bool true), .iface 64 (.agg #[])] w fun e w' => e = .returned (.tuple #[.iface 65 (.bool true), .int .i64 0]) ∧ G w w' := by
  go_enter Tryz.func31, Tryz.ntmps31
  go_wp2_with fail
  refine (sure_1 _).mono ?_
  rintro e w1 ⟨rfl, hb1⟩
  go_wp2_with fail
  refine (sure_2 _).mono ?_
  rintro e w2 ⟨rfl, hb2⟩
  go_wp2_with fail
  refine (of_sure_1 _).mono ?_
  rintro e w3 ⟨rfl, hb3⟩
  go_wp2
  go_ret2
  exact ⟨rfl, hb1.trans (hb2.trans hb3)⟩
set_option maxHeartbeats 400000 in
theorem bin_13_12 (w : World) : Calls Tryz.prog 25 #[.int .i64 13, .iface 65 (.bool true), .iface 64 (.agg #[])] w fun e w' => e = .returned (.tuple #[.iface 65 (.bool true), .int .i64 0]) ∧ G w w' := by
  go_enter Tryz.func25, Tryz.ntmps25
  go_wp2_with fail
  refine (log_13_12 _).mono ?_
  rintro e w1 ⟨rfl, hb1⟩
  go_wp2
  go_ret2
  exact ⟨rfl, hb1⟩
theorem Bin_13_12 (w : World) : Calls Tryz.prog 14 #[.int .i64 13, V 1 1 0 E0, V 0 0 0 E0] w fun e w' => e = .returned (.tuple #[V 1 1 0 E0, .int .i64 0]) ∧ G w w' :=
  Binary_of 13 _ _ _ _ _ _ _ _ _ _ _ 0 0 _ _ _ _ (by decide) (by decide) item_tt item_null bin_13_12 answer_tt w
set_option maxHeartbeats 400000 in
theorem log_13_20 (w : World) : Calls Tryz.prog 31 #[.int .i64 13, .iface 64 (.agg #[]), .iface 65 (.bool false)] w fun e w' => e = .returned (.tuple #[.iface 64 (.agg #[]), .int .i64 0]) ∧ G w w' := by
  go_enter Tryz.func31, Tryz.ntmps31
  go_wp2_with fail
  refine (sure_2 _).mono ?_
  rintro e w1 ⟨rfl, hb1⟩
  go_wp2_with fail
  refine (sure_0 _).mono ?_
  rintro e w2 ⟨rfl, hb2⟩
  go_wp2_with fail
  refine (of_sure_2 _).mono ?_
  rintro e w3 ⟨rfl, hb3⟩
  go_wp2
  go_ret2
  exact ⟨rfl, hb1.trans (hb2.trans hb3)⟩
set_option maxHeartbeats 400000 in
theorem bin_13_20 (w : World) : Calls Tryz.prog 25 #[.int .i64 13, .iface 64 (.agg #[]), .iface 65 (.bool false)] w fun e w' => e = .returned (.tuple #[.iface 64 (.agg #[]), .int .i64 0]) ∧ G w w' := by
  go_enter Tryz.func25, Tryz.ntmps25
  go_wp2_with fail
  refine (log_13_20 _).mono ?_
  rintro e w1 ⟨rfl, hb1⟩
  go_wp2
  go_ret2
  exact ⟨rfl, hb1⟩
theorem Bin_13_20 (w : World) : Calls Tryz.prog 14 #[.int .i64 13, V 0 0 0 E0, V 1 0 0 E0] w fun e w' => e = .returned (.tuple #[V 0 0 0 E0, .int .i64 0]) ∧ G w w' :=
  Binary_of 13 _ _ _ _ _ _ _ _ _ _ _ 0 0 _ _ _ _ (by decide) (by decide) item_null item_ff bin_13_20 answer_null w
set_option maxHeartbeats 400000 in
theorem log_13_21 (w : World) : Calls Tryz.prog 31 #[.int .i64 13, .iface 64 (.agg #[]), .iface 65 (.bool true)] w fun e w' => e = .returned (.tuple #[.iface 65 (.bool true), .int .i64 0]) ∧ G w w' := by
  go_enter Tryz.func31, Tryz.ntmps31
  go_wp2_with fail
  refine (sure_2 _).mono ?_
  rintro e w1 ⟨rfl, hb1⟩
  go_wp2_with fail
  refine (sure_1 _).mono ?_
  rintro e w2 ⟨rfl, hb2⟩
  go_wp2_with fail
  refine (of_sure_1 _).mono ?_
  rintro e w3 ⟨rfl, hb3⟩
  go_wp2
  go_ret2
  exact ⟨rfl, hb1.trans (hb2.trans hb3)⟩
set_option maxHeartbeats 400000 in
theorem bin_13_21 (w : World) : Calls Tryz.prog 25 #[.int .i64 13, .iface 64 (.agg #[]), .iface 65 (.bool true)] w fun e w' => e = .returned (.tuple #[.iface 65 (.bool true), .int .i64 0]) ∧ G w w' := by
  go_enter Tryz.func25, Tryz.ntmps25
  go_wp2_with fail
  refine (log_13_21 _).mono ?_
  rintro e w1 ⟨rfl, hb1⟩
  go_wp2
  go_ret2
  exact ⟨rfl, hb1⟩
theorem Bin_13_21 (w : World) : Calls Tryz.prog 14 #[.int .i64 13, V 0 0 0 E0, V 1 1 0 E0] w fun e w' => e = .returned (.tuple #[V 1 1 0 E0, .int .i64 0]) ∧ G w w' :=
  Binary_of 13 _ _ _ _ _ _ _ _ _ _ _ 0 0 _ _ _ _ (by decide) (by decide) item_null item_tt bin_13_21 answer_tt w
set_option maxHeartbeats 400000 in
theorem log_13_22 (w : World) : Calls Tryz.prog 31 #[.int .i64 13, .iface 64 (.agg #[]), .iface 64 (.agg #[])] w fun e w' => e = .returned (.tuple #[.iface 64 (.agg #[]), .int .i64 0]) ∧ G w w' := by
  go_enter Tryz.func31, Tryz.ntmps31
  go_wp2_with fail
  refine (sure_2 _).mono ?_
  rintro e w1 ⟨rfl, hb1⟩
  go_wp2_with fail
  refine (sure_2 _).mono ?_
  rintro e w2 ⟨rfl, hb2⟩
  go_wp2_with fail
  refine (of_sure_2 _).mono ?_
  rintro e w3 ⟨rfl, hb3⟩
  go_wp2
  go_ret2
  exact ⟨rfl, hb1.trans (hb2.trans hb3)⟩
set_option maxHeartbeats 400000 in
theorem bin_13_22 (w : World) : Calls Tryz.prog 25 #[.int .i64 13, .iface 64 (.agg #[]), .iface 64 (.agg #[])] w fun e w' => e = .returned (.tuple #[.iface 64 (.agg #[]), .int .i64 0]) ∧ G w w' := by
  go_enter Tryz.func25, Tryz.ntmps25
  go_wp2_with fail
  refine (log_13_22 _).mono ?_
  rintro e w1 ⟨rfl, hb1⟩
  go_wp2
  go_ret2
  exact ⟨rfl, hb1⟩
theorem Bin_13_22 (w : World) : Calls Tryz.prog 14 #[.int .i64 13, V 0 0 0 E0, V 0 0 0 E0] w fun e w' => e = .returned (.tuple #[V 0 0 0 E0, .int .i64 0]) ∧ G w w' :=
  Binary_of 13 _ _ _ _ _ _ _ _ _ _ _ 0 0 _ _ _ _ (by decide) (by decide) item_null item_null bin_13_22 answer_null w
set_option maxHeartbeats 400000 in
theorem log_14_00 (w : World) : Calls Tryz.prog 31 #[.int .i64 14, .iface 65 (.bool false), .iface 65 (.bool false)] w fun e w' => e = .returned (.tuple #[.iface 65 (.bool false), .int .i64 0]) ∧ G w w' := by
  go_enter Tryz.func31, Tryz.ntmps31
  go_wp2_with fail
  refine (sure_0 _).mono ?_
  rintro e w1 ⟨rfl, hb1⟩
  go_wp2_with fail
  refine (sure_0 _).mono ?_
  rintro e w2 ⟨rfl, hb2⟩
  go_wp2_with fail
  refine (of_sure_0 _).mono ?_
  rintro e w3 ⟨rfl, hb3⟩
  go_wp2
  go_ret2
  exact ⟨rfl, hb1.trans (hb2.trans hb3)⟩
set_option maxHeartbeats 400000 in
theorem bin_14_00 (w : World) : Calls Tryz.prog 25 #[.int .i64 14, .iface 65 (.bool false), .iface 65 (.bool false)] w fun e w' => e = .returned (.tuple #[.iface 65 (.bool false), .int .i64 0]) ∧ G w w' := by
  go_enter Tryz.func25, Tryz.ntmps25
  go_wp2_with fail
  refine (log_14_00 _).mono ?_
  rintro e w1 ⟨rfl, hb1⟩
  go_wp2
  go_ret2
  exact ⟨rfl, hb1⟩
theorem Bin_14_00 (w : World) : Calls Tryz.prog 14 #[.int .i64 14, V 1 0 0 E0, V 1 0 0 E0] w fun e w' => e = .returned (.tuple #[V 1 0 0 E0, .int .i64 0]) ∧ G w w' :=
  Binary_of 14 _ _ _ _ _ _ _ _ _ _ _ 0 0 _ _ _ _ (by decide) (by decide) item_ff item_ff bin_14_00 answer_ff w
set_option maxHeartbeats 400000 in
theorem log_14_01 (w : World) : Calls Tryz.prog 31 #[.int .i64 14, .iface 65 (.bool false), .iface 65 (.bool true)] w fun e w' => e = .returned (.tuple #[.iface 65 (.bool true), .int .i64 0]) ∧ G w w' := by
  go_enter Tryz.func31, Tryz.ntmps31
  go_wp2_with fail
  refine (sure_0 _).mono ?_
  rintro e w1 ⟨rfl, hb1⟩
  go_wp2_with fail
  refine (sure_1 _).mono ?_
  rintro e w2 ⟨rfl, hb2⟩
  go_wp2_with fail
  refine (of_sure_1 _).mono ?_
  rintro e w3 ⟨rfl, hb3⟩
  go_wp2
  go_ret2
  exact ⟨rfl, hb1.trans (hb2.trans hb3)⟩
set_option maxHeartbeats 400000 in
theorem bin_14_01 (w : World) : Calls Tryz.prog 25 #[.int .i64 14, .iface 65 (.bool false), .iface 65 (.bool true)] w fun e w' => e = .returned (.tuple #[.iface 65 (.bool true), .int .i64 0]) ∧ G w w' := by
  go_enter Tryz.func25, Tryz.ntmps25
  go_wp2_with fail
  refine (log_14_01 _).mono ?_
  rintro e w1 ⟨rfl, hb1⟩
  go_wp2
  go_ret2
  exact ⟨rfl, hb1⟩
theorem Bin_14_01 (w : World) : Calls Tryz.prog 14 #[.int .i64 14, V 1 0 0 E0, V 1 1 0 E0] w fun e w' => e = .returned (.tuple #[V 1 1 0 E0, .int .i64 0]) ∧ G w w' :=
  Binary_of 14 _ _ _ _ _ _ _ _ _ _ _ 0 0 _ _ _ _ (by decide) (by decide) item_ff item_tt bin_14_01 answer_tt w
set_option maxHeartbeats 400000 in
theorem log_14_02 (w : World) : Calls Tryz.prog 31 #[.int .i64 14, .iface 65 (.bool false), .iface 64 (.agg #[])] w fun e w' => e = .returned (.tuple #[.iface 64 (.agg #[]), .int .i64 0]) ∧ G w w' := by
  go_enter Tryz.func31, Tryz.ntmps31
  go_wp2_with fail
  refine (sure_0 _).mono ?_
  rintro e w1 ⟨rfl, hb1⟩
  go_wp2_with fail
  refine (sure_2 _).mono ?_
  rintro e w2 ⟨rfl, hb2⟩
  go_wp2_with fail
  refine (of_sure_2 _).mono ?_
  rintro e w3 ⟨rfl, hb3⟩
  go_wp2
  go_ret2
  exact ⟨rfl, hb1.trans (hb2.trans hb3)⟩
set_option maxHeartbeats 400000 in
theorem bin_14_02 (w : World) : Calls Tryz.prog 25 #[.int .i64 14, .iface 65 (.bool false), .iface 64 (.agg #[])] w fun e w' => e = .returned (.tuple #[.iface 64 (.agg #[]), .int .i64 0]) ∧ G w w' := by
  go_enter Tryz.func25, Tryz.ntmps25
  go_wp2_with fail
  refine (log_14_02 _).mono ?_
  rintro e w1 ⟨rfl, hb1⟩
  go_wp2
  go_ret2
  exact ⟨rfl, hb1⟩
theorem Bin_14_02 (w : World) : Calls Tryz.prog 14 #[.int .i64 14, V 1 0 0 E0, V 0 0 0 E0] w fun e w' => e = .returned (.tuple #[V 0 0 0 E0, .int .i64 0]) ∧ G w w' :=
  Binary_of 14 _ _ _ _ _ _ _ _ _ _ _ 0 0 _ _ _ _ (by decide) (by decide) item_ff item_null bin_14_02 answer_null w
set_option maxHeartbeats 400000 in
theorem log_14_10 (w : World) : Calls Tryz.prog 31 #[.int .i64 14, .iface 65 (.bool true), .iface 65 (.bool false)] w fun e w' => e = .returned (.tuple #[.iface 65 (.bool true), .int .i64 0]) ∧ G w w' := by
  go_enter Tryz.func31, Tryz.ntmps31
  go_wp2_with fail
  refine (sure_1 _).mono ?_
  rintro e w1 ⟨rfl, hb1⟩
  go_wp2_with fail
  refine (sure_0 _).mono ?_
  rintro e w2 ⟨rfl, hb2⟩
  go_wp2_with fail
  refine (of_sure_1 _).mono ?_
  rintro e w3 ⟨rfl, hb3⟩
  go_wp2
  go_ret2
  exact ⟨rfl, hb1.trans (hb2.trans hb3)⟩
set_option maxHeartbeats 400000 in
theorem bin_14_10 (w : World) : Calls Tryz.prog 25 #[.int .i64 14, .iface 65 (.bool true), .iface 65 (.bool false)] w fun e w' => e = .returned (.tuple #[.iface 65 (.bool true), .int .i64 0]) ∧ G w w' := by
  go_enter Tryz.func25, Tryz.ntmps25
  go_wp2_with fail
  refine (log_14_10 _).mono ?_
  rintro e w1 ⟨rfl, hb1⟩
  go_wp2
  go_ret2
  exact ⟨rfl, hb1⟩
theorem Bin_14_10 (w : World) : Calls Tryz.prog 14 #[.int .i64 14, V 1 1 0 E0, V 1 0 0 E0] w fun e w' => e = .returned (.tuple #[V 1 1 0 E0, .int .i64 0]) ∧ G w w' :=
  Binary_of 14 _ _ _ _ _ _ _ _ _ _ _ 0 0 _ _ _ _ (by decide) (by decide) item_tt item_ff bin_14_10 answer_tt w
set_option maxHeartbeats 400000 in
theorem log_14_11 (w : World) : Calls Tryz.prog 31 #[.int .i64 14, .iface 65 (.bool true), .iface 65 (.bool true)] w fun e w' => e = .returned (.tuple #[.iface 65 (.bool false), .int .i64 0]) ∧ G w w' := by
  go_enter Tryz.func31, Tryz.ntmps31
  go_wp2_with fail
  refine (sure_1 _).mono ?_
  rintro e w1 ⟨rfl, hb1⟩
  go_wp2_with fail
  refine (sure_1 _).mono ?_
  rintro e w2 ⟨rfl, hb2⟩
  go_wp2_with fail
  refine (of_sure_0 _).mono ?_
  rintro e w3 ⟨rfl, hb3⟩
  go_wp2
  go_ret2
  exact ⟨rfl, hb1.trans (hb2.trans hb3)⟩
set_option maxHeartbeats 400000 in
theorem bin_14_11 (w : World) : Calls Tryz.prog 25 #[.int .i64 14, .iface 65 (.bool true), .iface 65 (.bool true)] w fun e w' => e = .returned (.tuple #[.iface 65 (.bool false), .int .i64 0]) ∧ G w w' := by
  go_enter Tryz.func25, Tryz.ntmps25
  go_wp2_with fail
  refine (log_14_11 _).mono ?_
  rintro e w1 ⟨rfl, hb1⟩
  go_wp2
  go_ret2
  exact ⟨rfl, hb1⟩
theorem Bin_14_11 (w : World) : Calls Tryz.prog 14 #[.int .i64 14, V 1 1 0 E0, V 1 1 0 E0] w fun e w' => e = .returned (.tuple #[V 1 0 0 E0, .int .i64 0]) ∧ G w w' :=
  Binary_of 14 _ _ _ _ _ _ _ _ _ _ _ 0 0 _ _ _ _ (by decide) (by decide) item_tt item_tt bin_14_11 answer_ff w
set_option maxHeartbeats 400000 in
theorem log_14_12 (w : World) : Calls Tryz.prog 31 #[.int .i64 14, .iface 65 (.bool true), .iface 64 (.agg #[])] w fun e w' => e = .returned (.tuple #[.iface 64 (.agg #[]), .int .i64 0]) ∧ G w w' := by
  go_enter Tryz.func31, Tryz.ntmps31
  go_wp2_with fail
  refine (sure_1 _).mono ?_
  rintro e w1 ⟨rfl, hb1⟩
  go_wp2_with fail
  refine (sure_2 _).mono ?_
  rintro e w2 ⟨rfl, hb2⟩
  go_wp2_with fail
  refine (of_sure_2 _).mono ?_
  rintro e w3 ⟨rfl, hb3⟩
  go_wp2
  go_ret2
  exact ⟨rfl, hb1.trans (hb2.trans hb3)⟩
set_option maxHeartbeats 400000 in
theorem bin_14_12 (w : World) : Calls Tryz.prog 25 #[.int .i64 14, .iface 65 (.bool true), .iface 64 (.agg #[])] w fun e w' => e = .returned (.tuple #[.iface 64 (.agg #[]), .int .i64 0]) ∧ G w w' := by
  go_enter Tryz.func25, Tryz.ntmps25
  go_wp2_with fail
  refine (log_14_12 _).mono ?_
  rintro e w1 ⟨rfl, hb1⟩
  go_wp2
  go_ret2
  exact ⟨rfl, hb1⟩
theorem Bin_14_12 (w : World) : Calls Tryz.prog 14 #[.int .i64 14, V 1 1 0 E0, V 0 0 0 E0] w fun e w' => e = .returned (.tuple #[V 0 0 0 E0, .int .i64 0]) ∧ G w w' :=
  Binary_of 14 _ _ _ _ _ _ _ _ _ _ _ 0 0 _ _ _ _ (by decide) (by decide) item_tt item_null bin_14_12 answer_null w
set_option maxHeartbeats 400000 in
theorem log_14_20 (w : World) : Calls Tryz.prog 31 #[.int .i64 14, .iface 64 (.agg #[]), .iface 65 (.bool false)] w fun e w' => e = .returned (.tuple #[.iface 64 (.agg #[]), .int .i64 0]) ∧ G w w' := by
  go_enter Tryz.func31, Tryz.ntmps31
  go_wp2_with fail
  refine (sure_2 _).mono ?_
  rintro e w1 ⟨rfl, hb1⟩
  go_wp2_with fail
  refine (sure_0 _).mono ?_
  rintro e w2 ⟨rfl, hb2⟩
  go_wp2_with fail
  refine (of_sure_2 _).mono ?_
  rintro e w3 ⟨rfl, hb3⟩
  go_wp2
  go_ret2
  exact ⟨rfl, hb1.trans (hb2.trans hb3)⟩
set_option maxHeartbeats 400000 in
theorem bin_14_20 (w : World) : Calls Tryz.prog 25 #[.int .i64 14, .iface 64 (.agg #[]), .iface 65 (.bool false)] w fun e w' => e = .returned (.tuple #[.iface 64 (.agg #[]), .int .i64 0]) ∧ G w w' := by
  go_enter Tryz.func25, Tryz.ntmps25
  go_wp2_with fail
  refine (log_14_20 _).mono ?_
  rintro e w1 ⟨rfl, hb1⟩
  go_wp2
  go_ret2
  exact ⟨rfl, hb1⟩
theorem Bin_14_20 (w : World) : Calls Tryz.prog 14 #[.int .i64 14, V 0 0 0 E0, V 1 0 0 E0] w fun e w' => e = .returned (.tuple #[V 0 0 0 E0, .int .i64 0]) ∧ G w w' :=
  Binary_of 14 _ _ _ _ _ _ _ _ _ _ _ 0 0 _ _ _ _ (by decide) (by decide) item_null item_ff bin_14_20 answer_null w
set_option maxHeartbeats 400000 in
theorem log_14_21 (w : World) : Calls Tryz.prog 31 #[.int .i64 14, .iface 64 (.agg #[]), .iface 65 (.bool true)] w fun e w' => e = .returned (.tuple #[.iface 64 (.agg #[]), .int .i64 0]) ∧ G w w' := by
  go_enter Tryz.func31, Tryz.ntmps31
  go_wp2_with fail
  refine (sure_2 _).mono ?_
  rintro e w1 ⟨rfl, hb1⟩
  go_wp2_with fail
  refine (sure_1 _).mono ?_
  rintro e w2 ⟨rfl, hb2⟩
  go_wp2_with fail
  refine (of_sure_2 _).mono ?_
  rintro e w3 ⟨rfl, hb3⟩
  go_wp2
  go_ret2
  exact ⟨rfl, hb1.trans (hb2.trans hb3)⟩
set_option maxHeartbeats 400000 in
theorem bin_14_21 (w : World) : Calls Tryz.prog 25 #[.int .i64 14, .iface 64 (.agg #[]), .iface 65 (.bool true)] w fun e w' => e = .returned (.tuple #[.iface 64 (.agg #[]), .int .i64 0]) ∧ G w w' := by
  go_enter Tryz.func25, Tryz.ntmps25
  go_wp2_with fail
  refine (log_14_21 _).mono ?_
  rintro e w1 ⟨rfl, hb1⟩
  go_wp2
  go_ret2
  exact ⟨rfl, hb1⟩
theorem Bin_14_21 (w : World) : Calls Tryz.prog 14 #[.int .i64 14, V 0 0 0 E0, V 1 1 0 E0] w fun e w' => e = .returned (.tuple #[V 0 0 0 E0, .int .i64 0]) ∧ G w w' :=
  Binary_of 14 _ _ _ _ _ _ _ _ _ _ _ 0 0 _ _ _ _ (by decide) (by decide) item_null item_tt bin_14_21 answer_null w
set_option maxHeartbeats 400000 in
theorem log_14_22 (w : World) : Calls Tryz.prog 31 #[.int .i64 14, .iface 64 (.agg #[]), .iface 64 (.agg #[])] w fun e w' => e = .returned (.tuple #[.iface 64 (.agg #[]), .int .i64 0]) ∧ G w w' := by
  go_enter Tryz.func31, Tryz.ntmps31
  go_wp2_with fail
  refine (sure_2 _).mono ?_
  rintro e w1 ⟨rfl, hb1⟩
  go_wp2_with fail
  refine (sure_2 _).mono ?_
  rintro e w2 ⟨rfl, hb2⟩
  go_wp2_with fail
  refine (of_sure_2 _).mono ?_
  rintro e w3 ⟨rfl, hb3⟩
  go_wp2
  go_ret2
  exact ⟨rfl, hb1.trans (hb2.trans hb3)⟩
set_option maxHeartbeats 400000 in
theorem bin_14_22 (w : World) : Calls Tryz.prog 25 #[.int .i64 14, .iface 64 (.agg #[]), .iface 64 (.agg #[])] w fun e w' => e = .returned (.tuple #[.iface 64 (.agg #[]), .int .i64 0]) ∧ G w w' := by
  go_enter Tryz.func25, Tryz.ntmps25
  go_wp2_with fail
  refine (log_14_22 _).mono ?_
  rintro e w1 ⟨rfl, hb1⟩
  go_wp2
  go_ret2
  exact ⟨rfl, hb1⟩
theorem Bin_14_22 (w : World) : Calls Tryz.prog 14 #[.int .i64 14, V 0 0 0 E0, V 0 0 0 E0] w fun e w' => e = .returned (.tuple #[V 0 0 0 E0, .int .i64 0]) ∧ G w w' :=
  Binary_of 14 _ _ _ _ _ _ _ _ _ _ _ 0 0 _ _ _ _ (by decide) (by decide) item_null item_null bin_14_22 answer_null w
end Go.Proofs.YtnoajhegcjoebaaGreatDoor
