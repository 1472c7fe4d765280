/- trellisref1.Unary, kind by kind. -/
import Derived.Test.YtnoajhegcjoebabGreatDoorRefValid
import Derived.Test.YtnoajhegcjoebabGreatDoorProd
namespace Go.Proofs.YtnoajhegcjoebabGreatDoor
open Go.RowKit Go.Lib

set_option maxRecDepth 100000 in
set_option maxHeartbeats 400000 in
theorem rtruth_yes  (w : World) : Calls Tryz.prog 34 #[.bool true] w fun e w' => e = .returned (V 1 1 0 E0) ∧ G w w' := by
  go_enter Tryz.func34, Tryz.ntmps34
  go_wp2
  exact bodyPost_ret (v := V 1 1 0 E0) (by simp [results, Tryz.results34, go_sem]) rfl ⟨rfl, by repeat (first | exact G.refl _ | refine G.alloc ?_ _ | refine G.setCell ?_ (by simp) _)⟩
set_option maxRecDepth 100000 in
set_option maxHeartbeats 400000 in
theorem rtruth_no  (w : World) : Calls Tryz.prog 34 #[.bool false] w fun e w' => e = .returned (V 1 0 0 E0) ∧ G w w' := by
  go_enter Tryz.func34, Tryz.ntmps34
  go_wp2
  exact bodyPost_ret (v := V 1 0 0 E0) (by simp [results, Tryz.results34, go_sem]) rfl ⟨rfl, by repeat (first | exact G.refl _ | refine G.alloc ?_ _ | refine G.setCell ?_ (by simp) _)⟩
set_option maxRecDepth 100000 in
set_option maxHeartbeats 400000 in
theorem rwhole (n : Int) (w : World) : Calls Tryz.prog 37 #[.int .i64 n] w fun e w' => e = .returned (V 2 n 0 E0) ∧ G w w' := by
  go_enter Tryz.func37, Tryz.ntmps37
  go_wp2
  exact bodyPost_ret (v := V 2 n 0 E0) (by simp [results, Tryz.results37, go_sem]) rfl ⟨rfl, by repeat (first | exact G.refl _ | refine G.alloc ?_ _ | refine G.setCell ?_ (by simp) _)⟩
set_option maxRecDepth 100000 in
set_option maxHeartbeats 400000 in
theorem rpair (a b : Int) (w : World) : Calls Tryz.prog 79 #[.int .i64 a, .int .i64 b] w fun e w' => e = .returned (V 3 a b E0) ∧ G w w' := by
  go_enter Tryz.func79, Tryz.ntmps79
  go_wp2
  exact bodyPost_ret (v := V 3 a b E0) (by simp [results, Tryz.results79, go_sem]) rfl ⟨rfl, by repeat (first | exact G.refl _ | refine G.alloc ?_ _ | refine G.setCell ?_ (by simp) _)⟩
set_option maxRecDepth 100000 in
set_option maxHeartbeats 400000 in
theorem ri_neg (n : Int) (h1 : -9223372036854775808 < n) (h2 : n ≤ 9223372036854775807) (w : World) : Calls Tryz.prog 35 #[.int .i64 1, .int .i64 n] w fun e w' => e = .returned (.tuple #[V 2 (-n) 0 E0, .int .i64 0]) ∧ G w w' := by
  have H : Hid _ := rminus_yes n h1 h2
  clear h1 h2
  go_enter Tryz.func35, Tryz.ntmps35
  go_wp2_with fail
  refine (H.out _).mono ?_
  rintro e w1 ⟨rfl, rfl⟩
  go_wp2_with fail
  refine (rwhole _ _).mono ?_
  rintro e w1 ⟨rfl, hb1⟩
  obtain ⟨hc1, hf1⟩ := hb1.rules
  go_wp2
  exact bodyPost_ret (v := .tuple #[V 2 (-n) 0 E0, .int .i64 0]) (by simp [results, Tryz.results35, go_sem, hc1]) rfl ⟨rfl, by
    have gg : G _ w1 := ((G.refl _).alloc _).trans hb1
    repeat (first | exact gg | refine G.alloc ?_ _ | refine G.setCell ?_ (by first | (simp; done) | (simp; omega)) _)⟩
set_option maxRecDepth 100000 in
set_option maxHeartbeats 400000 in
theorem ri_neg_no  (w : World) : Calls Tryz.prog 35 #[.int .i64 1, .int .i64 (-9223372036854775808)] w fun e w' => e = .returned (.tuple #[V0, .int .i64 11]) ∧ G w w' := by
  have H : Hid _ := rminus_no
  go_enter Tryz.func35, Tryz.ntmps35
  go_wp2_with fail
  refine (H.out _).mono ?_
  rintro e w1 ⟨rfl, rfl⟩
  go_wp2
  exact bodyPost_ret (v := .tuple #[V0, .int .i64 11]) (by simp [results, Tryz.results35, go_sem]) rfl ⟨rfl, by repeat (first | exact G.refl _ | refine G.alloc ?_ _ | refine G.setCell ?_ (by simp) _)⟩
set_option maxRecDepth 100000 in
set_option maxHeartbeats 400000 in
theorem ri_abs (n : Int) (h0 : n < 0) (h1 : -9223372036854775808 < n) (h2 : n ≤ 9223372036854775807) (w : World) : Calls Tryz.prog 35 #[.int .i64 8, .int .i64 n] w fun e w' => e = .returned (.tuple #[V 2 (-n) 0 E0, .int .i64 0]) ∧ G w w' := by
  have H : Hid _ := rminus_yes n h1 h2
  clear h1 h2
  go_enter Tryz.func35, Tryz.ntmps35
  go_wp2_with fail
  refine (H.out _).mono ?_
  rintro e w1 ⟨rfl, rfl⟩
  go_wp2_with fail
  refine (rwhole _ _).mono ?_
  rintro e w1 ⟨rfl, hb1⟩
  obtain ⟨hc1, hf1⟩ := hb1.rules
  go_wp2
  exact bodyPost_ret (v := .tuple #[V 2 (-n) 0 E0, .int .i64 0]) (by simp [results, Tryz.results35, go_sem, hc1]) rfl ⟨rfl, by
    have gg : G _ w1 := ((G.refl _).alloc _).trans hb1
    repeat (first | exact gg | refine G.alloc ?_ _ | refine G.setCell ?_ (by first | (simp; done) | (simp; omega)) _)⟩
set_option maxRecDepth 100000 in
set_option maxHeartbeats 400000 in
theorem ri_abs_no  (w : World) : Calls Tryz.prog 35 #[.int .i64 8, .int .i64 (-9223372036854775808)] w fun e w' => e = .returned (.tuple #[V0, .int .i64 11]) ∧ G w w' := by
  have H : Hid _ := rminus_no
  go_enter Tryz.func35, Tryz.ntmps35
  go_wp2_with fail
  refine (H.out _).mono ?_
  rintro e w1 ⟨rfl, rfl⟩
  go_wp2
  exact bodyPost_ret (v := .tuple #[V0, .int .i64 11]) (by simp [results, Tryz.results35, go_sem]) rfl ⟨rfl, by repeat (first | exact G.refl _ | refine G.alloc ?_ _ | refine G.setCell ?_ (by simp) _)⟩
set_option maxRecDepth 100000 in
set_option maxHeartbeats 400000 in
theorem ri_abs_same (n : Int) (h0 : ¬ n < 0) (w : World) : Calls Tryz.prog 35 #[.int .i64 8, .int .i64 n] w fun e w' => e = .returned (.tuple #[V 2 n 0 E0, .int .i64 0]) ∧ G w w' := by
  go_enter Tryz.func35, Tryz.ntmps35
  go_wp2_with fail
  refine (rwhole _ _).mono ?_
  rintro e w1 ⟨rfl, hb1⟩
  obtain ⟨hc1, hf1⟩ := hb1.rules
  go_wp2
  exact bodyPost_ret (v := .tuple #[V 2 n 0 E0, .int .i64 0]) (by simp [results, Tryz.results35, go_sem, hc1]) rfl ⟨rfl, by
    have gg : G _ w1 := ((G.refl _).alloc _).trans hb1
    repeat (first | exact gg | refine G.alloc ?_ _ | refine G.setCell ?_ (by first | (simp; done) | (simp; omega)) _)⟩
set_option maxRecDepth 100000 in
set_option maxHeartbeats 400000 in
theorem ri_3 (n : Int) (w : World) : Calls Tryz.prog 35 #[.int .i64 3, .int .i64 n] w fun e w' => e = .returned (.tuple #[V 2 n 0 E0, .int .i64 0]) ∧ G w w' := by
  go_enter Tryz.func35, Tryz.ntmps35
  go_wp2_with fail
  refine (rwhole _ _).mono ?_
  rintro e w1 ⟨rfl, hb1⟩
  obtain ⟨hc1, hf1⟩ := hb1.rules
  go_wp2
  exact bodyPost_ret (v := .tuple #[V 2 n 0 E0, .int .i64 0]) (by simp [results, Tryz.results35, go_sem, hc1]) rfl ⟨rfl, by
    have gg : G _ w1 := ((G.refl _).alloc _).trans hb1
    repeat (first | exact gg | refine G.alloc ?_ _ | refine G.setCell ?_ (by first | (simp; done) | (simp; omega)) _)⟩
set_option maxRecDepth 100000 in
set_option maxHeartbeats 400000 in
theorem ri_5 (n : Int) (w : World) : Calls Tryz.prog 35 #[.int .i64 5, .int .i64 n] w fun e w' => e = .returned (.tuple #[V 2 n 0 E0, .int .i64 0]) ∧ G w w' := by
  go_enter Tryz.func35, Tryz.ntmps35
  go_wp2_with fail
  refine (rwhole _ _).mono ?_
  rintro e w1 ⟨rfl, hb1⟩
  obtain ⟨hc1, hf1⟩ := hb1.rules
  go_wp2
  exact bodyPost_ret (v := .tuple #[V 2 n 0 E0, .int .i64 0]) (by simp [results, Tryz.results35, go_sem, hc1]) rfl ⟨rfl, by
    have gg : G _ w1 := ((G.refl _).alloc _).trans hb1
    repeat (first | exact gg | refine G.alloc ?_ _ | refine G.setCell ?_ (by first | (simp; done) | (simp; omega)) _)⟩
set_option maxRecDepth 100000 in
set_option maxHeartbeats 400000 in
theorem ri_4 (n : Int) (w : World) : Calls Tryz.prog 35 #[.int .i64 4, .int .i64 n] w fun e w' => e = .returned (.tuple #[V 2 0 0 E0, .int .i64 0]) ∧ G w w' := by
  go_enter Tryz.func35, Tryz.ntmps35
  go_wp2_with fail
  refine (rwhole _ _).mono ?_
  rintro e w1 ⟨rfl, hb1⟩
  obtain ⟨hc1, hf1⟩ := hb1.rules
  go_wp2
  exact bodyPost_ret (v := .tuple #[V 2 0 0 E0, .int .i64 0]) (by simp [results, Tryz.results35, go_sem, hc1]) rfl ⟨rfl, by
    have gg : G _ w1 := ((G.refl _).alloc _).trans hb1
    repeat (first | exact gg | refine G.alloc ?_ _ | refine G.setCell ?_ (by first | (simp; done) | (simp; omega)) _)⟩
set_option maxRecDepth 100000 in
set_option maxHeartbeats 400000 in
theorem ri_no (n op : Int) (h : op = 2 ∨ op = 7) (w : World) : Calls Tryz.prog 35 #[.int .i64 op, .int .i64 n] w fun e w' => e = .returned (.tuple #[V0, .int .i64 10]) ∧ G w w' := by
  have n1 : (op == 1) = false := by simp; omega
  have n3 : (op == 3) = false := by simp; omega
  have n5 : (op == 5) = false := by simp; omega
  have n4 : (op == 4) = false := by simp; omega
  have n6 : (op == 6) = false := by simp; omega
  have n8 : (op == 8) = false := by simp; omega
  clear h
  go_enter Tryz.func35, Tryz.ntmps35
  go_wp2
  exact bodyPost_ret (v := .tuple #[V0, .int .i64 10]) (by simp [results, Tryz.results35, go_sem]) rfl ⟨rfl, by repeat (first | exact G.refl _ | refine G.alloc ?_ _ | refine G.setCell ?_ (by simp) _)⟩
theorem rproduct_yes (a b : Int) (ha : I64 a) (hb : I64 b) (h : I64 (a * b)) (w : World) : Calls Tryz.prog 78 #[.int .i64 a, .int .i64 b] w fun e w' => e = .returned (.tuple #[.int .i64 (a * b), .bool true]) ∧ w' = w :=
  (rproduct_any a b ha hb w).mono fun _ _ hh => ⟨hh.1.elim (fun x => x.2) (fun x => absurd h x.1), hh.2⟩
theorem rproduct_no (a b : Int) (ha : I64 a) (hb : I64 b) (h : ¬ I64 (a * b)) (w : World) : Calls Tryz.prog 78 #[.int .i64 a, .int .i64 b] w fun e w' => e = .returned (.tuple #[.int .i64 0, .bool false]) ∧ w' = w :=
  (rproduct_any a b ha hb w).mono fun _ _ hh => ⟨hh.1.elim (fun x => absurd x.1 h) (fun x => x.2), hh.2⟩
set_option maxRecDepth 100000 in
set_option maxHeartbeats 400000 in
theorem ri_norm (n : Int) (hn : I64 n) (h : I64 (n * n)) (w : World) : Calls Tryz.prog 35 #[.int .i64 6, .int .i64 n] w fun e w' => e = .returned (.tuple #[V 2 (n * n) 0 E0, .int .i64 0]) ∧ G w w' := by
  have H : Hid _ := rproduct_yes n n hn hn h
  clear h hn
  go_enter Tryz.func35, Tryz.ntmps35
  go_wp2_with fail
  refine (H.out _).mono ?_
  rintro e w1 ⟨rfl, rfl⟩
  go_wp2_with fail
  refine (rwhole _ _).mono ?_
  rintro e w1 ⟨rfl, hb1⟩
  obtain ⟨hc1, hf1⟩ := hb1.rules
  go_wp2
  exact bodyPost_ret (v := .tuple #[V 2 (n * n) 0 E0, .int .i64 0]) (by simp [results, Tryz.results35, go_sem, hc1]) rfl ⟨rfl, by
    have gg : G _ w1 := ((G.refl _).alloc _).trans hb1
    repeat (first | exact gg | refine G.alloc ?_ _ | refine G.setCell ?_ (by first | (simp; done) | (simp; omega)) _)⟩
set_option maxRecDepth 100000 in
set_option maxHeartbeats 400000 in
theorem ri_norm_no (n : Int) (hn : I64 n) (h : ¬ I64 (n * n)) (w : World) : Calls Tryz.prog 35 #[.int .i64 6, .int .i64 n] w fun e w' => e = .returned (.tuple #[V0, .int .i64 11]) ∧ G w w' := by
  have H : Hid _ := rproduct_no n n hn hn h
  clear h hn
  go_enter Tryz.func35, Tryz.ntmps35
  go_wp2_with fail
  refine (H.out _).mono ?_
  rintro e w1 ⟨rfl, rfl⟩
  go_wp2
  exact bodyPost_ret (v := .tuple #[V0, .int .i64 11]) (by simp [results, Tryz.results35, go_sem]) rfl ⟨rfl, by repeat (first | exact G.refl _ | refine G.alloc ?_ _ | refine G.setCell ?_ (by simp) _)⟩
set_option maxRecDepth 100000 in
set_option maxHeartbeats 400000 in
theorem rc_neg (a b : Int) (ha1 : -33554432 ≤ a) (ha2 : a ≤ 33554432) (hb1 : -33554432 ≤ b) (hb2 : b ≤ 33554432) (w : World) : Calls Tryz.prog 36 #[.int .i64 1, .int .i64 a, .int .i64 b] w fun e w' => e = .returned (.tuple #[V 3 (-a) (-b) E0, .int .i64 0]) ∧ G w w' := by
  go_enter Tryz.func36, Tryz.ntmps36
  go_wp2_with fail
  refine (rpair _ _ _).mono ?_
  rintro e w1 ⟨rfl, hb1⟩
  obtain ⟨hc1, hf1⟩ := hb1.rules
  go_wp2
  exact bodyPost_ret (v := .tuple #[V 3 (-a) (-b) E0, .int .i64 0]) (by simp [results, Tryz.results36, go_sem, hc1]) rfl ⟨rfl, by
    have gg : G w w1 := ((G.refl _).alloc _).trans hb1
    repeat (first | exact gg | refine G.alloc ?_ _ | refine G.setCell ?_ (by first | (simp; done) | (simp; omega)) _)⟩
set_option maxRecDepth 100000 in
set_option maxHeartbeats 400000 in
theorem rc_re (a b : Int)  (w : World) : Calls Tryz.prog 36 #[.int .i64 3, .int .i64 a, .int .i64 b] w fun e w' => e = .returned (.tuple #[V 2 a 0 E0, .int .i64 0]) ∧ G w w' := by
  go_enter Tryz.func36, Tryz.ntmps36
  go_wp2_with fail
  refine (rwhole _ _).mono ?_
  rintro e w1 ⟨rfl, hb1⟩
  obtain ⟨hc1, hf1⟩ := hb1.rules
  go_wp2
  exact bodyPost_ret (v := .tuple #[V 2 a 0 E0, .int .i64 0]) (by simp [results, Tryz.results36, go_sem, hc1]) rfl ⟨rfl, by
    have gg : G w w1 := ((G.refl _).alloc _).trans hb1
    repeat (first | exact gg | refine G.alloc ?_ _ | refine G.setCell ?_ (by first | (simp; done) | (simp; omega)) _)⟩
set_option maxRecDepth 100000 in
set_option maxHeartbeats 400000 in
theorem rc_im (a b : Int)  (w : World) : Calls Tryz.prog 36 #[.int .i64 4, .int .i64 a, .int .i64 b] w fun e w' => e = .returned (.tuple #[V 2 b 0 E0, .int .i64 0]) ∧ G w w' := by
  go_enter Tryz.func36, Tryz.ntmps36
  go_wp2_with fail
  refine (rwhole _ _).mono ?_
  rintro e w1 ⟨rfl, hb1⟩
  obtain ⟨hc1, hf1⟩ := hb1.rules
  go_wp2
  exact bodyPost_ret (v := .tuple #[V 2 b 0 E0, .int .i64 0]) (by simp [results, Tryz.results36, go_sem, hc1]) rfl ⟨rfl, by
    have gg : G w w1 := ((G.refl _).alloc _).trans hb1
    repeat (first | exact gg | refine G.alloc ?_ _ | refine G.setCell ?_ (by first | (simp; done) | (simp; omega)) _)⟩
set_option maxRecDepth 100000 in
set_option maxHeartbeats 400000 in
theorem rc_conj (a b : Int) (hb1 : -33554432 ≤ b) (hb2 : b ≤ 33554432) (w : World) : Calls Tryz.prog 36 #[.int .i64 5, .int .i64 a, .int .i64 b] w fun e w' => e = .returned (.tuple #[V 3 a (-b) E0, .int .i64 0]) ∧ G w w' := by
  go_enter Tryz.func36, Tryz.ntmps36
  go_wp2_with fail
  refine (rpair _ _ _).mono ?_
  rintro e w1 ⟨rfl, hb1⟩
  obtain ⟨hc1, hf1⟩ := hb1.rules
  go_wp2
  exact bodyPost_ret (v := .tuple #[V 3 a (-b) E0, .int .i64 0]) (by simp [results, Tryz.results36, go_sem, hc1]) rfl ⟨rfl, by
    have gg : G w w1 := ((G.refl _).alloc _).trans hb1
    repeat (first | exact gg | refine G.alloc ?_ _ | refine G.setCell ?_ (by first | (simp; done) | (simp; omega)) _)⟩
set_option maxRecDepth 100000 in
set_option maxHeartbeats 400000 in
theorem rc_norm (a b : Int) (w1 : wrap64 (a * a) = a * a) (w2 : wrap64 (b * b) = b * b) (w3 : wrap64 (a * a + b * b) = a * a + b * b) (w : World) : Calls Tryz.prog 36 #[.int .i64 6, .int .i64 a, .int .i64 b] w fun e w' => e = .returned (.tuple #[V 2 (a * a + b * b) 0 E0, .int .i64 0]) ∧ G w w' := by
  go_enter Tryz.func36, Tryz.ntmps36
  go_wp2_with fail
  refine (rwhole _ _).mono ?_
  rintro e w1 ⟨rfl, hb1⟩
  obtain ⟨hc1, hf1⟩ := hb1.rules
  go_wp2
  exact bodyPost_ret (v := .tuple #[V 2 (a * a + b * b) 0 E0, .int .i64 0]) (by simp [results, Tryz.results36, go_sem, hc1]) rfl ⟨rfl, by
    have gg : G w w1 := ((G.refl _).alloc _).trans hb1
    repeat (first | exact gg | refine G.alloc ?_ _ | refine G.setCell ?_ (by first | (simp; done) | (simp; omega)) _)⟩
set_option maxRecDepth 100000 in
set_option maxHeartbeats 400000 in
theorem rc_no (a b : Int) (op : Int) (h : op = 2 ∨ op = 7 ∨ op = 8) (w : World) : Calls Tryz.prog 36 #[.int .i64 op, .int .i64 a, .int .i64 b] w fun e w' => e = .returned (.tuple #[V0, .int .i64 10]) ∧ G w w' := by
  have n1 : (op == 1) = false := by simp; omega
  have n3 : (op == 3) = false := by simp; omega
  have n5 : (op == 5) = false := by simp; omega
  have n4 : (op == 4) = false := by simp; omega
  have n6 : (op == 6) = false := by simp; omega
  clear h
  go_enter Tryz.func36, Tryz.ntmps36
  go_wp2
  exact bodyPost_ret (v := .tuple #[V0, .int .i64 10]) (by simp [results, Tryz.results36, go_sem]) rfl ⟨rfl, by repeat (first | exact G.refl _ | refine G.alloc ?_ _ | refine G.setCell ?_ (by simp) _)⟩
set_option maxRecDepth 100000 in
set_option maxHeartbeats 400000 in
theorem rU_arg (op k a b : Int) (s : ByteArray) (ho : op < 1 ∨ 8 < op) (w : World) :
    Calls Tryz.prog 13 #[.int .i64 op, V k a b s] w fun e w' => e = .returned (.tuple #[V0, .int .i64 1]) ∧ G w w' := by
  by_cases h : op < 1
  · clear ho
    go_enter Tryz.func13, Tryz.ntmps13
    go_wp2
    exact bodyPost_ret (v := .tuple #[V0, .int .i64 1]) (by simp [results, Tryz.results13, go_sem]) rfl ⟨rfl, by repeat (first | exact G.refl _ | refine G.alloc ?_ _ | refine G.setCell ?_ (by simp) _)⟩
  · have h' : 8 < op := by omega
    clear ho
    go_enter Tryz.func13, Tryz.ntmps13
    go_wp2
    exact bodyPost_ret (v := .tuple #[V0, .int .i64 1]) (by simp [results, Tryz.results13, go_sem]) rfl ⟨rfl, by repeat (first | exact G.refl _ | refine G.alloc ?_ _ | refine G.setCell ?_ (by simp) _)⟩
set_option maxRecDepth 100000 in
set_option maxHeartbeats 1000000 in
theorem rU_bad (k a b : Int) (s : ByteArray) (op : Int) (ho : 1 ≤ op) (ho' : op ≤ 8) (hs : s.size ≤ 4611686018427387904) (hok : okV k a b s = false) (w : World) :
    Calls Tryz.prog 13 #[.int .i64 op, V k a b s] w fun e w' => e = .returned (.tuple #[V0, .int .i64 16]) ∧ G w w' := by
  have HV : Hid (∀ w, Calls Tryz.prog 27 #[V k a b s] w fun e w' => e = .returned (.bool false) ∧ G w w') := by
    have := rv_any k a b s hs
    rw [hok] at this
    exact this
  clear hok hs
  go_enter Tryz.func13, Tryz.ntmps13
  go_wp2_with fail
  refine (HV.out _).mono ?_
  rintro e w1 ⟨rfl, hb1⟩
  have hc' := G.cells (b := w.heap.size) (f := fun o => [Value.int IntKind.i64 k, Value.int IntKind.i64 a, Value.int IntKind.i64 b, Value.string s][o]?) (((G.refl _).alloc _).trans hb1) (by simp) (by simp)
  obtain ⟨hc1, hf1⟩ := hb1.rules
  have hz1 := hb1.size
  simp at hz1
  have hz1' : w.heap.size + 1 < w1.heap.size := by omega
  go_wp2
  exact bodyPost_ret (v := .tuple #[V0, .int .i64 16]) (by simp [results, Tryz.results13, go_sem, hc1]) rfl ⟨rfl, by
    have gg : G w w1 := (((G.refl _).alloc _).alloc _).trans hb1
    repeat (first | exact gg | refine G.alloc ?_ _ | refine G.setCell ?_ (by first | (simp; done) | (simp; omega)) _)⟩
set_option maxRecDepth 100000 in
set_option maxHeartbeats 1000000 in
theorem rU_null (a b : Int) (s : ByteArray) (op : Int) (ho : 1 ≤ op) (ho' : op ≤ 8) (hs : s.size ≤ 4611686018427387904) (hok : okV 0 a b s = true) (w : World) :
    Calls Tryz.prog 13 #[.int .i64 op, V 0 a b s] w fun e w' => e = .returned (.tuple #[V 0 a b s, .int .i64 0]) ∧ G w w' := by
  have HV : Hid (∀ w, Calls Tryz.prog 27 #[V 0 a b s] w fun e w' => e = .returned (.bool true) ∧ G w w') := by
    have := rv_any 0 a b s hs
    rw [hok] at this
    exact this
  clear hok hs
  go_enter Tryz.func13, Tryz.ntmps13
  go_wp2_with fail
  refine (HV.out _).mono ?_
  rintro e w1 ⟨rfl, hb1⟩
  have hc' := G.cells (b := w.heap.size) (f := fun o => [Value.int IntKind.i64 0, Value.int IntKind.i64 a, Value.int IntKind.i64 b, Value.string s][o]?) (((G.refl _).alloc _).trans hb1) (by simp) (by simp)
  obtain ⟨hc1, hf1⟩ := hb1.rules
  have hz1 := hb1.size
  simp at hz1
  have hz1' : w.heap.size + 1 < w1.heap.size := by omega
  go_wp2
  exact bodyPost_ret (v := .tuple #[V 0 a b s, .int .i64 0]) (by simp [results, Tryz.results13, go_sem, hc1]) rfl ⟨rfl, by
    have gg : G w w1 := (((G.refl _).alloc _).alloc _).trans hb1
    repeat (first | exact gg | refine G.alloc ?_ _ | refine G.setCell ?_ (by first | (simp; done) | (simp; omega)) _)⟩
set_option maxRecDepth 100000 in
set_option maxHeartbeats 1000000 in
theorem rU_not (a b : Int) (s : ByteArray) (ha : a = 0)  (hs : s.size ≤ 4611686018427387904) (hok : okV 1 a b s = true) (w : World) :
    Calls Tryz.prog 13 #[.int .i64 2, V 1 a b s] w fun e w' => e = .returned (.tuple #[V 1 1 0 E0, .int .i64 0]) ∧ G w w' := by
  have HV : Hid (∀ w, Calls Tryz.prog 27 #[V 1 a b s] w fun e w' => e = .returned (.bool true) ∧ G w w') := by
    have := rv_any 1 a b s hs
    rw [hok] at this
    exact this
  clear hok hs
  have z : a = 0 := ha
  subst z
  go_enter Tryz.func13, Tryz.ntmps13
  go_wp2_with fail
  refine (HV.out _).mono ?_
  rintro e w1 ⟨rfl, hb1⟩
  have hc' := G.cells (b := w.heap.size) (f := fun o => [Value.int IntKind.i64 1, Value.int IntKind.i64 0, Value.int IntKind.i64 b, Value.string s][o]?) (((G.refl _).alloc _).trans hb1) (by simp) (by simp)
  obtain ⟨hc1, hf1⟩ := hb1.rules
  have hz1 := hb1.size
  simp at hz1
  have hz1' : w.heap.size + 1 < w1.heap.size := by omega
  go_wp2_with fail
  refine (rtruth_yes _).mono ?_
  rintro e w2 ⟨rfl, hb2⟩
  obtain ⟨hc2, hf2⟩ := hb2.rules
  go_wp2
  exact bodyPost_ret (v := .tuple #[V 1 1 0 E0, .int .i64 0]) (by simp [results, Tryz.results13, go_sem, hc2, hc1, hz1']) rfl ⟨rfl, by
    have gg : G w w2 := ((((G.refl _).alloc _).alloc _).trans hb1).trans hb2
    repeat (first | exact gg | refine G.alloc ?_ _ | refine G.setCell ?_ (by first | (simp; done) | (simp; omega)) _)⟩
set_option maxRecDepth 100000 in
set_option maxHeartbeats 1000000 in
theorem rU_not1 (a b : Int) (s : ByteArray) (ha : a = 1)  (hs : s.size ≤ 4611686018427387904) (hok : okV 1 a b s = true) (w : World) :
    Calls Tryz.prog 13 #[.int .i64 2, V 1 a b s] w fun e w' => e = .returned (.tuple #[V 1 0 0 E0, .int .i64 0]) ∧ G w w' := by
  have HV : Hid (∀ w, Calls Tryz.prog 27 #[V 1 a b s] w fun e w' => e = .returned (.bool true) ∧ G w w') := by
    have := rv_any 1 a b s hs
    rw [hok] at this
    exact this
  clear hok hs
  have z : a = 1 := ha
  subst z
  go_enter Tryz.func13, Tryz.ntmps13
  go_wp2_with fail
  refine (HV.out _).mono ?_
  rintro e w1 ⟨rfl, hb1⟩
  have hc' := G.cells (b := w.heap.size) (f := fun o => [Value.int IntKind.i64 1, Value.int IntKind.i64 1, Value.int IntKind.i64 b, Value.string s][o]?) (((G.refl _).alloc _).trans hb1) (by simp) (by simp)
  obtain ⟨hc1, hf1⟩ := hb1.rules
  have hz1 := hb1.size
  simp at hz1
  have hz1' : w.heap.size + 1 < w1.heap.size := by omega
  go_wp2_with fail
  refine (rtruth_no _).mono ?_
  rintro e w2 ⟨rfl, hb2⟩
  obtain ⟨hc2, hf2⟩ := hb2.rules
  go_wp2
  exact bodyPost_ret (v := .tuple #[V 1 0 0 E0, .int .i64 0]) (by simp [results, Tryz.results13, go_sem, hc2, hc1, hz1']) rfl ⟨rfl, by
    have gg : G w w2 := ((((G.refl _).alloc _).alloc _).trans hb1).trans hb2
    repeat (first | exact gg | refine G.alloc ?_ _ | refine G.setCell ?_ (by first | (simp; done) | (simp; omega)) _)⟩
set_option maxRecDepth 100000 in
set_option maxHeartbeats 1000000 in
theorem rU_bool_no (a b : Int) (s : ByteArray) (op : Int) (ho : 1 ≤ op) (ho' : op ≤ 8) (h2 : (op == 2) = false) (hs : s.size ≤ 4611686018427387904) (hok : okV 1 a b s = true) (w : World) :
    Calls Tryz.prog 13 #[.int .i64 op, V 1 a b s] w fun e w' => e = .returned (.tuple #[V0, .int .i64 10]) ∧ G w w' := by
  have HV : Hid (∀ w, Calls Tryz.prog 27 #[V 1 a b s] w fun e w' => e = .returned (.bool true) ∧ G w w') := by
    have := rv_any 1 a b s hs
    rw [hok] at this
    exact this
  clear hok hs
  go_enter Tryz.func13, Tryz.ntmps13
  go_wp2_with fail
  refine (HV.out _).mono ?_
  rintro e w1 ⟨rfl, hb1⟩
  have hc' := G.cells (b := w.heap.size) (f := fun o => [Value.int IntKind.i64 1, Value.int IntKind.i64 a, Value.int IntKind.i64 b, Value.string s][o]?) (((G.refl _).alloc _).trans hb1) (by simp) (by simp)
  obtain ⟨hc1, hf1⟩ := hb1.rules
  have hz1 := hb1.size
  simp at hz1
  have hz1' : w.heap.size + 1 < w1.heap.size := by omega
  go_wp2
  exact bodyPost_ret (v := .tuple #[V0, .int .i64 10]) (by simp [results, Tryz.results13, go_sem, hc1]) rfl ⟨rfl, by
    have gg : G w w1 := (((G.refl _).alloc _).alloc _).trans hb1
    repeat (first | exact gg | refine G.alloc ?_ _ | refine G.setCell ?_ (by first | (simp; done) | (simp; omega)) _)⟩
set_option maxRecDepth 100000 in
set_option maxHeartbeats 1000000 in
theorem rU_int (a b : Int) (s : ByteArray) (op : Int) (ho : 1 ≤ op) (ho' : op ≤ 8) (rk ra rb : Int) (rs : ByteArray) (c : Int) (h : ∀ w, Calls Tryz.prog 35 #[.int .i64 op, .int .i64 a] w fun e w' => e = .returned (.tuple #[V rk ra rb rs, .int .i64 c]) ∧ G w w') (hs : s.size ≤ 4611686018427387904) (hok : okV 2 a b s = true) (w : World) :
    Calls Tryz.prog 13 #[.int .i64 op, V 2 a b s] w fun e w' => e = .returned (.tuple #[V rk ra rb rs, .int .i64 c]) ∧ G w w' := by
  have HV : Hid (∀ w, Calls Tryz.prog 27 #[V 2 a b s] w fun e w' => e = .returned (.bool true) ∧ G w w') := by
    have := rv_any 2 a b s hs
    rw [hok] at this
    exact this
  clear hok hs
  have H : Hid _ := h
  clear h
  go_enter Tryz.func13, Tryz.ntmps13
  go_wp2_with fail
  refine (HV.out _).mono ?_
  rintro e w1 ⟨rfl, hb1⟩
  have hc' := G.cells (b := w.heap.size) (f := fun o => [Value.int IntKind.i64 2, Value.int IntKind.i64 a, Value.int IntKind.i64 b, Value.string s][o]?) (((G.refl _).alloc _).trans hb1) (by simp) (by simp)
  obtain ⟨hc1, hf1⟩ := hb1.rules
  have hz1 := hb1.size
  simp at hz1
  have hz1' : w.heap.size + 1 < w1.heap.size := by omega
  go_wp2_with fail
  refine (H.out _).mono ?_
  rintro e w2 ⟨rfl, hb2⟩
  obtain ⟨hc2, hf2⟩ := hb2.rules
  go_wp2
  exact bodyPost_ret (v := .tuple #[V rk ra rb rs, .int .i64 c]) (by simp [results, Tryz.results13, go_sem, hc2, hc1, hz1']) rfl ⟨rfl, by
    have gg : G w w2 := ((((G.refl _).alloc _).alloc _).trans hb1).trans hb2
    repeat (first | exact gg | refine G.alloc ?_ _ | refine G.setCell ?_ (by first | (simp; done) | (simp; omega)) _)⟩
set_option maxRecDepth 100000 in
set_option maxHeartbeats 1000000 in
theorem rU_cpx (a b : Int) (s : ByteArray) (op : Int) (ho : 1 ≤ op) (ho' : op ≤ 8) (rk ra rb : Int) (rs : ByteArray) (c : Int) (h : ∀ w, Calls Tryz.prog 36 #[.int .i64 op, .int .i64 a, .int .i64 b] w fun e w' => e = .returned (.tuple #[V rk ra rb rs, .int .i64 c]) ∧ G w w') (hs : s.size ≤ 4611686018427387904) (hok : okV 3 a b s = true) (w : World) :
    Calls Tryz.prog 13 #[.int .i64 op, V 3 a b s] w fun e w' => e = .returned (.tuple #[V rk ra rb rs, .int .i64 c]) ∧ G w w' := by
  have HV : Hid (∀ w, Calls Tryz.prog 27 #[V 3 a b s] w fun e w' => e = .returned (.bool true) ∧ G w w') := by
    have := rv_any 3 a b s hs
    rw [hok] at this
    exact this
  clear hok hs
  have H : Hid _ := h
  clear h
  go_enter Tryz.func13, Tryz.ntmps13
  go_wp2_with fail
  refine (HV.out _).mono ?_
  rintro e w1 ⟨rfl, hb1⟩
  have hc' := G.cells (b := w.heap.size) (f := fun o => [Value.int IntKind.i64 3, Value.int IntKind.i64 a, Value.int IntKind.i64 b, Value.string s][o]?) (((G.refl _).alloc _).trans hb1) (by simp) (by simp)
  obtain ⟨hc1, hf1⟩ := hb1.rules
  have hz1 := hb1.size
  simp at hz1
  have hz1' : w.heap.size + 1 < w1.heap.size := by omega
  go_wp2_with fail
  refine (H.out _).mono ?_
  rintro e w2 ⟨rfl, hb2⟩
  obtain ⟨hc2, hf2⟩ := hb2.rules
  go_wp2
  exact bodyPost_ret (v := .tuple #[V rk ra rb rs, .int .i64 c]) (by simp [results, Tryz.results13, go_sem, hc2, hc1, hz1']) rfl ⟨rfl, by
    have gg : G w w2 := ((((G.refl _).alloc _).alloc _).trans hb1).trans hb2
    repeat (first | exact gg | refine G.alloc ?_ _ | refine G.setCell ?_ (by first | (simp; done) | (simp; omega)) _)⟩
set_option maxRecDepth 100000 in
set_option maxHeartbeats 1000000 in
theorem rU_str_no (a b : Int) (s : ByteArray) (op : Int) (ho : 1 ≤ op) (ho' : op ≤ 8) (h7 : (op == 7) = false) (hs : s.size ≤ 4611686018427387904) (hok : okV 4 a b s = true) (w : World) :
    Calls Tryz.prog 13 #[.int .i64 op, V 4 a b s] w fun e w' => e = .returned (.tuple #[V0, .int .i64 10]) ∧ G w w' := by
  have HV : Hid (∀ w, Calls Tryz.prog 27 #[V 4 a b s] w fun e w' => e = .returned (.bool true) ∧ G w w') := by
    have := rv_any 4 a b s hs
    rw [hok] at this
    exact this
  clear hok hs
  go_enter Tryz.func13, Tryz.ntmps13
  go_wp2_with fail
  refine (HV.out _).mono ?_
  rintro e w1 ⟨rfl, hb1⟩
  have hc' := G.cells (b := w.heap.size) (f := fun o => [Value.int IntKind.i64 4, Value.int IntKind.i64 a, Value.int IntKind.i64 b, Value.string s][o]?) (((G.refl _).alloc _).trans hb1) (by simp) (by simp)
  obtain ⟨hc1, hf1⟩ := hb1.rules
  have hz1 := hb1.size
  simp at hz1
  have hz1' : w.heap.size + 1 < w1.heap.size := by omega
  go_wp2
  exact bodyPost_ret (v := .tuple #[V0, .int .i64 10]) (by simp [results, Tryz.results13, go_sem, hc1]) rfl ⟨rfl, by
    have gg : G w w1 := (((G.refl _).alloc _).alloc _).trans hb1
    repeat (first | exact gg | refine G.alloc ?_ _ | refine G.setCell ?_ (by first | (simp; done) | (simp; omega)) _)⟩
set_option maxRecDepth 100000 in
set_option maxHeartbeats 1000000 in
theorem rU_node (a b : Int) (s : ByteArray) (op : Int) (ho : 1 ≤ op) (ho' : op ≤ 8) (hs : s.size ≤ 4611686018427387904) (hok : okV 5 a b s = true) (w : World) :
    Calls Tryz.prog 13 #[.int .i64 op, V 5 a b s] w fun e w' => e = .returned (.tuple #[V0, .int .i64 10]) ∧ G w w' := by
  have HV : Hid (∀ w, Calls Tryz.prog 27 #[V 5 a b s] w fun e w' => e = .returned (.bool true) ∧ G w w') := by
    have := rv_any 5 a b s hs
    rw [hok] at this
    exact this
  clear hok hs
  go_enter Tryz.func13, Tryz.ntmps13
  go_wp2_with fail
  refine (HV.out _).mono ?_
  rintro e w1 ⟨rfl, hb1⟩
  have hc' := G.cells (b := w.heap.size) (f := fun o => [Value.int IntKind.i64 5, Value.int IntKind.i64 a, Value.int IntKind.i64 b, Value.string s][o]?) (((G.refl _).alloc _).trans hb1) (by simp) (by simp)
  obtain ⟨hc1, hf1⟩ := hb1.rules
  have hz1 := hb1.size
  simp at hz1
  have hz1' : w.heap.size + 1 < w1.heap.size := by omega
  go_wp2
  exact bodyPost_ret (v := .tuple #[V0, .int .i64 10]) (by simp [results, Tryz.results13, go_sem, hc1]) rfl ⟨rfl, by
    have gg : G w w1 := (((G.refl _).alloc _).alloc _).trans hb1
    repeat (first | exact gg | refine G.alloc ?_ _ | refine G.setCell ?_ (by first | (simp; done) | (simp; omega)) _)⟩
set_option maxRecDepth 100000 in
set_option maxHeartbeats 1000000 in
theorem rU_edge (a b : Int) (s : ByteArray) (op : Int) (ho : 1 ≤ op) (ho' : op ≤ 8) (hs : s.size ≤ 4611686018427387904) (hok : okV 6 a b s = true) (w : World) :
    Calls Tryz.prog 13 #[.int .i64 op, V 6 a b s] w fun e w' => e = .returned (.tuple #[V0, .int .i64 10]) ∧ G w w' := by
  have HV : Hid (∀ w, Calls Tryz.prog 27 #[V 6 a b s] w fun e w' => e = .returned (.bool true) ∧ G w w') := by
    have := rv_any 6 a b s hs
    rw [hok] at this
    exact this
  clear hok hs
  go_enter Tryz.func13, Tryz.ntmps13
  go_wp2_with fail
  refine (HV.out _).mono ?_
  rintro e w1 ⟨rfl, hb1⟩
  have hc' := G.cells (b := w.heap.size) (f := fun o => [Value.int IntKind.i64 6, Value.int IntKind.i64 a, Value.int IntKind.i64 b, Value.string s][o]?) (((G.refl _).alloc _).trans hb1) (by simp) (by simp)
  obtain ⟨hc1, hf1⟩ := hb1.rules
  have hz1 := hb1.size
  simp at hz1
  have hz1' : w.heap.size + 1 < w1.heap.size := by omega
  go_wp2
  exact bodyPost_ret (v := .tuple #[V0, .int .i64 10]) (by simp [results, Tryz.results13, go_sem, hc1]) rfl ⟨rfl, by
    have gg : G w w1 := (((G.refl _).alloc _).alloc _).trans hb1
    repeat (first | exact gg | refine G.alloc ?_ _ | refine G.setCell ?_ (by first | (simp; done) | (simp; omega)) _)⟩
end Go.Proofs.YtnoajhegcjoebabGreatDoor
