/- trellisref1.complexes: what it does, sum by sum. -/
import Derived.Test.YtnoajhegcjoebabGreatDoorRefValid
import Derived.Test.YtnoajhegcjoebabGreatDoorUn2
import Derived.BigQuiet
namespace Go.Proofs.YtnoajhegcjoebabGreatDoor
open Go.RowKit

set_option maxRecDepth 100000 in
set_option maxHeartbeats 400000 in
theorem rfloor_dn (a b q m : Int) (_hb : ¬ b = 0) (hq : wrap64 (a.tdiv b) = q) (hm : wrap64 (q * b) = m) (h : a < m) (h1 : wrap64 (q - 1) = q - 1) (w : World) : Calls Tryz.prog 124 #[.int .i64 a, .int .i64 b] w fun e w' => e = .returned (.int .i64 (q - 1)) ∧ w' = w := by
  go_enter Tryz.func124, Tryz.ntmps124
  go_wp2
  go_ret
  exact ⟨congrArg (fun z => Ending.returned (.int .i64 z)) h1, rfl⟩
set_option maxRecDepth 100000 in
set_option maxHeartbeats 400000 in
theorem rfloor_up (a b q m : Int) (_hb : ¬ b = 0) (hq : wrap64 (a.tdiv b) = q) (hm : wrap64 (q * b) = m) (h : ¬ a < m) (w : World) : Calls Tryz.prog 124 #[.int .i64 a, .int .i64 b] w fun e w' => e = .returned (.int .i64 q) ∧ w' = w := by
  go_enter Tryz.func124, Tryz.ntmps124
  go_wp2
  go_ret
  exact ⟨rfl, rfl⟩
theorem G.drewQ {a w : World} (h : G a w) (n : Nat) : G a (w.drewN n) := ⟨h.os, h.tape, h.output, h.size, h.block⟩
set_option maxRecDepth 100000 in
set_option maxHeartbeats 2000000 in
theorem rcx_1_r1 (a b c d cc dd n ac bd x bc ad y : Int) (e1 : wrap64 (c * c) = cc) (e2 : wrap64 (d * d) = dd) (e3 : wrap64 (cc + dd) = n) (e4 : wrap64 (a * c) = ac) (e5 : wrap64 (b * d) = bd) (e6 : wrap64 (ac + bd) = x) (e7 : wrap64 (b * c) = bc) (e8 : wrap64 (a * d) = ad) (e9 : wrap64 (bc - ad) = y) (X Y : Int) (f1 : wrap64 (a + c) = X) (f2 : wrap64 (b + d) = Y) (h1 : ∀ w, Calls Tryz.prog 72 #[.int .i64 X] w fun e w' => e = .returned (.bool false) ∧ w' = w)  (w : World) : Calls Tryz.prog 89 #[.int .i64 1, .int .i64 a, .int .i64 b, .int .i64 c, .int .i64 d] w fun e w' => e = .returned (.tuple #[V0, .int .i64 11]) ∧ G w w' := by
  have H1 : Hid _ := h1
  
  clear h1
  go_enter Tryz.func89, Tryz.ntmps89
  go_wp2_with fail
  refine (H1.out _).mono ?_
  rintro e wx ⟨rfl, rfl⟩
  go_wp2
  exact bodyPost_ret (v := .tuple #[V0, .int .i64 11]) (by simp [results, Tryz.results89, go_sem]) rfl ⟨rfl, by
    repeat (first | exact G.refl _ | refine G.alloc ?_ _ | refine G.setCell ?_ (by first | (simp; done) | (simp; omega)) _)⟩
set_option maxRecDepth 100000 in
set_option maxHeartbeats 2000000 in
theorem rcx_1_r2 (a b c d cc dd n ac bd x bc ad y : Int) (e1 : wrap64 (c * c) = cc) (e2 : wrap64 (d * d) = dd) (e3 : wrap64 (cc + dd) = n) (e4 : wrap64 (a * c) = ac) (e5 : wrap64 (b * d) = bd) (e6 : wrap64 (ac + bd) = x) (e7 : wrap64 (b * c) = bc) (e8 : wrap64 (a * d) = ad) (e9 : wrap64 (bc - ad) = y) (X Y : Int) (f1 : wrap64 (a + c) = X) (f2 : wrap64 (b + d) = Y) (h1 : ∀ w, Calls Tryz.prog 72 #[.int .i64 X] w fun e w' => e = .returned (.bool true) ∧ w' = w) (h2 : ∀ w, Calls Tryz.prog 72 #[.int .i64 Y] w fun e w' => e = .returned (.bool false) ∧ w' = w) (w : World) : Calls Tryz.prog 89 #[.int .i64 1, .int .i64 a, .int .i64 b, .int .i64 c, .int .i64 d] w fun e w' => e = .returned (.tuple #[V0, .int .i64 11]) ∧ G w w' := by
  have H1 : Hid _ := h1
  have H2 : Hid _ := h2
  clear h1 h2
  go_enter Tryz.func89, Tryz.ntmps89
  go_wp2_with fail
  refine (H1.out _).mono ?_
  rintro e wx ⟨rfl, rfl⟩
  go_wp2_with fail
  refine (H2.out _).mono ?_
  rintro e wx ⟨rfl, rfl⟩
  go_wp2
  exact bodyPost_ret (v := .tuple #[V0, .int .i64 11]) (by simp [results, Tryz.results89, go_sem]) rfl ⟨rfl, by
    repeat (first | exact G.refl _ | refine G.alloc ?_ _ | refine G.setCell ?_ (by first | (simp; done) | (simp; omega)) _)⟩
set_option maxRecDepth 100000 in
set_option maxHeartbeats 2000000 in
theorem rcx_1_ok (a b c d cc dd n ac bd x bc ad y : Int) (e1 : wrap64 (c * c) = cc) (e2 : wrap64 (d * d) = dd) (e3 : wrap64 (cc + dd) = n) (e4 : wrap64 (a * c) = ac) (e5 : wrap64 (b * d) = bd) (e6 : wrap64 (ac + bd) = x) (e7 : wrap64 (b * c) = bc) (e8 : wrap64 (a * d) = ad) (e9 : wrap64 (bc - ad) = y) (X Y : Int) (f1 : wrap64 (a + c) = X) (f2 : wrap64 (b + d) = Y) (h1 : ∀ w, Calls Tryz.prog 72 #[.int .i64 X] w fun e w' => e = .returned (.bool true) ∧ w' = w) (h2 : ∀ w, Calls Tryz.prog 72 #[.int .i64 Y] w fun e w' => e = .returned (.bool true) ∧ w' = w) (w : World) : Calls Tryz.prog 89 #[.int .i64 1, .int .i64 a, .int .i64 b, .int .i64 c, .int .i64 d] w fun e w' => e = .returned (.tuple #[V 3 X Y E0, .int .i64 0]) ∧ G w w' := by
  have H1 : Hid _ := h1
  have H2 : Hid _ := h2
  clear h1 h2
  go_enter Tryz.func89, Tryz.ntmps89
  go_wp2_with fail
  refine (H1.out _).mono ?_
  rintro e wx ⟨rfl, rfl⟩
  go_wp2_with fail
  refine (H2.out _).mono ?_
  rintro e wx ⟨rfl, rfl⟩
  go_wp2_with fail
  refine (rpair X Y _).mono ?_
  rintro e w1 ⟨rfl, hb1⟩
  have g1 : G w w1 := ((G.refl w).alloc _).trans hb1
  obtain ⟨hc1, hf1⟩ := hb1.rules
  go_wp2
  exact bodyPost_ret (v := .tuple #[V 3 X Y E0, .int .i64 0]) (by simp [results, Tryz.results89, go_sem, hc1]) rfl ⟨rfl, by
    repeat (first | exact g1 | refine G.alloc ?_ _ | refine G.setCell ?_ (by first | (simp; done) | (simp; omega)) _)⟩
set_option maxRecDepth 100000 in
set_option maxHeartbeats 2000000 in
theorem rcx_2_r1 (a b c d cc dd n ac bd x bc ad y : Int) (e1 : wrap64 (c * c) = cc) (e2 : wrap64 (d * d) = dd) (e3 : wrap64 (cc + dd) = n) (e4 : wrap64 (a * c) = ac) (e5 : wrap64 (b * d) = bd) (e6 : wrap64 (ac + bd) = x) (e7 : wrap64 (b * c) = bc) (e8 : wrap64 (a * d) = ad) (e9 : wrap64 (bc - ad) = y) (X Y : Int) (f1 : wrap64 (a - c) = X) (f2 : wrap64 (b - d) = Y) (h1 : ∀ w, Calls Tryz.prog 72 #[.int .i64 X] w fun e w' => e = .returned (.bool false) ∧ w' = w)  (w : World) : Calls Tryz.prog 89 #[.int .i64 2, .int .i64 a, .int .i64 b, .int .i64 c, .int .i64 d] w fun e w' => e = .returned (.tuple #[V0, .int .i64 11]) ∧ G w w' := by
  have H1 : Hid _ := h1
  
  clear h1
  go_enter Tryz.func89, Tryz.ntmps89
  go_wp2_with fail
  refine (H1.out _).mono ?_
  rintro e wx ⟨rfl, rfl⟩
  go_wp2
  exact bodyPost_ret (v := .tuple #[V0, .int .i64 11]) (by simp [results, Tryz.results89, go_sem]) rfl ⟨rfl, by
    repeat (first | exact G.refl _ | refine G.alloc ?_ _ | refine G.setCell ?_ (by first | (simp; done) | (simp; omega)) _)⟩
set_option maxRecDepth 100000 in
set_option maxHeartbeats 2000000 in
theorem rcx_2_r2 (a b c d cc dd n ac bd x bc ad y : Int) (e1 : wrap64 (c * c) = cc) (e2 : wrap64 (d * d) = dd) (e3 : wrap64 (cc + dd) = n) (e4 : wrap64 (a * c) = ac) (e5 : wrap64 (b * d) = bd) (e6 : wrap64 (ac + bd) = x) (e7 : wrap64 (b * c) = bc) (e8 : wrap64 (a * d) = ad) (e9 : wrap64 (bc - ad) = y) (X Y : Int) (f1 : wrap64 (a - c) = X) (f2 : wrap64 (b - d) = Y) (h1 : ∀ w, Calls Tryz.prog 72 #[.int .i64 X] w fun e w' => e = .returned (.bool true) ∧ w' = w) (h2 : ∀ w, Calls Tryz.prog 72 #[.int .i64 Y] w fun e w' => e = .returned (.bool false) ∧ w' = w) (w : World) : Calls Tryz.prog 89 #[.int .i64 2, .int .i64 a, .int .i64 b, .int .i64 c, .int .i64 d] w fun e w' => e = .returned (.tuple #[V0, .int .i64 11]) ∧ G w w' := by
  have H1 : Hid _ := h1
  have H2 : Hid _ := h2
  clear h1 h2
  go_enter Tryz.func89, Tryz.ntmps89
  go_wp2_with fail
  refine (H1.out _).mono ?_
  rintro e wx ⟨rfl, rfl⟩
  go_wp2_with fail
  refine (H2.out _).mono ?_
  rintro e wx ⟨rfl, rfl⟩
  go_wp2
  exact bodyPost_ret (v := .tuple #[V0, .int .i64 11]) (by simp [results, Tryz.results89, go_sem]) rfl ⟨rfl, by
    repeat (first | exact G.refl _ | refine G.alloc ?_ _ | refine G.setCell ?_ (by first | (simp; done) | (simp; omega)) _)⟩
set_option maxRecDepth 100000 in
set_option maxHeartbeats 2000000 in
theorem rcx_2_ok (a b c d cc dd n ac bd x bc ad y : Int) (e1 : wrap64 (c * c) = cc) (e2 : wrap64 (d * d) = dd) (e3 : wrap64 (cc + dd) = n) (e4 : wrap64 (a * c) = ac) (e5 : wrap64 (b * d) = bd) (e6 : wrap64 (ac + bd) = x) (e7 : wrap64 (b * c) = bc) (e8 : wrap64 (a * d) = ad) (e9 : wrap64 (bc - ad) = y) (X Y : Int) (f1 : wrap64 (a - c) = X) (f2 : wrap64 (b - d) = Y) (h1 : ∀ w, Calls Tryz.prog 72 #[.int .i64 X] w fun e w' => e = .returned (.bool true) ∧ w' = w) (h2 : ∀ w, Calls Tryz.prog 72 #[.int .i64 Y] w fun e w' => e = .returned (.bool true) ∧ w' = w) (w : World) : Calls Tryz.prog 89 #[.int .i64 2, .int .i64 a, .int .i64 b, .int .i64 c, .int .i64 d] w fun e w' => e = .returned (.tuple #[V 3 X Y E0, .int .i64 0]) ∧ G w w' := by
  have H1 : Hid _ := h1
  have H2 : Hid _ := h2
  clear h1 h2
  go_enter Tryz.func89, Tryz.ntmps89
  go_wp2_with fail
  refine (H1.out _).mono ?_
  rintro e wx ⟨rfl, rfl⟩
  go_wp2_with fail
  refine (H2.out _).mono ?_
  rintro e wx ⟨rfl, rfl⟩
  go_wp2_with fail
  refine (rpair X Y _).mono ?_
  rintro e w1 ⟨rfl, hb1⟩
  have g1 : G w w1 := ((G.refl w).alloc _).trans hb1
  obtain ⟨hc1, hf1⟩ := hb1.rules
  go_wp2
  exact bodyPost_ret (v := .tuple #[V 3 X Y E0, .int .i64 0]) (by simp [results, Tryz.results89, go_sem, hc1]) rfl ⟨rfl, by
    repeat (first | exact g1 | refine G.alloc ?_ _ | refine G.setCell ?_ (by first | (simp; done) | (simp; omega)) _)⟩
set_option maxRecDepth 100000 in
set_option maxHeartbeats 2000000 in
theorem rcx_3_r1 (a b c d cc dd n ac bd x bc ad y : Int) (e1 : wrap64 (c * c) = cc) (e2 : wrap64 (d * d) = dd) (e3 : wrap64 (cc + dd) = n) (e4 : wrap64 (a * c) = ac) (e5 : wrap64 (b * d) = bd) (e6 : wrap64 (ac + bd) = x) (e7 : wrap64 (b * c) = bc) (e8 : wrap64 (a * d) = ad) (e9 : wrap64 (bc - ad) = y) (X Y : Int) (f1 : wrap64 (ac - bd) = X) (f2 : wrap64 (ad + bc) = Y) (h1 : ∀ w, Calls Tryz.prog 72 #[.int .i64 X] w fun e w' => e = .returned (.bool false) ∧ w' = w)  (w : World) : Calls Tryz.prog 89 #[.int .i64 3, .int .i64 a, .int .i64 b, .int .i64 c, .int .i64 d] w fun e w' => e = .returned (.tuple #[V0, .int .i64 11]) ∧ G w w' := by
  have H1 : Hid _ := h1
  
  clear h1
  go_enter Tryz.func89, Tryz.ntmps89
  go_wp2_with fail
  refine (H1.out _).mono ?_
  rintro e wx ⟨rfl, rfl⟩
  go_wp2
  exact bodyPost_ret (v := .tuple #[V0, .int .i64 11]) (by simp [results, Tryz.results89, go_sem]) rfl ⟨rfl, by
    repeat (first | exact G.refl _ | refine G.alloc ?_ _ | refine G.setCell ?_ (by first | (simp; done) | (simp; omega)) _)⟩
set_option maxRecDepth 100000 in
set_option maxHeartbeats 2000000 in
theorem rcx_3_r2 (a b c d cc dd n ac bd x bc ad y : Int) (e1 : wrap64 (c * c) = cc) (e2 : wrap64 (d * d) = dd) (e3 : wrap64 (cc + dd) = n) (e4 : wrap64 (a * c) = ac) (e5 : wrap64 (b * d) = bd) (e6 : wrap64 (ac + bd) = x) (e7 : wrap64 (b * c) = bc) (e8 : wrap64 (a * d) = ad) (e9 : wrap64 (bc - ad) = y) (X Y : Int) (f1 : wrap64 (ac - bd) = X) (f2 : wrap64 (ad + bc) = Y) (h1 : ∀ w, Calls Tryz.prog 72 #[.int .i64 X] w fun e w' => e = .returned (.bool true) ∧ w' = w) (h2 : ∀ w, Calls Tryz.prog 72 #[.int .i64 Y] w fun e w' => e = .returned (.bool false) ∧ w' = w) (w : World) : Calls Tryz.prog 89 #[.int .i64 3, .int .i64 a, .int .i64 b, .int .i64 c, .int .i64 d] w fun e w' => e = .returned (.tuple #[V0, .int .i64 11]) ∧ G w w' := by
  have H1 : Hid _ := h1
  have H2 : Hid _ := h2
  clear h1 h2
  go_enter Tryz.func89, Tryz.ntmps89
  go_wp2_with fail
  refine (H1.out _).mono ?_
  rintro e wx ⟨rfl, rfl⟩
  go_wp2_with fail
  refine (H2.out _).mono ?_
  rintro e wx ⟨rfl, rfl⟩
  go_wp2
  exact bodyPost_ret (v := .tuple #[V0, .int .i64 11]) (by simp [results, Tryz.results89, go_sem]) rfl ⟨rfl, by
    repeat (first | exact G.refl _ | refine G.alloc ?_ _ | refine G.setCell ?_ (by first | (simp; done) | (simp; omega)) _)⟩
set_option maxRecDepth 100000 in
set_option maxHeartbeats 2000000 in
theorem rcx_3_ok (a b c d cc dd n ac bd x bc ad y : Int) (e1 : wrap64 (c * c) = cc) (e2 : wrap64 (d * d) = dd) (e3 : wrap64 (cc + dd) = n) (e4 : wrap64 (a * c) = ac) (e5 : wrap64 (b * d) = bd) (e6 : wrap64 (ac + bd) = x) (e7 : wrap64 (b * c) = bc) (e8 : wrap64 (a * d) = ad) (e9 : wrap64 (bc - ad) = y) (X Y : Int) (f1 : wrap64 (ac - bd) = X) (f2 : wrap64 (ad + bc) = Y) (h1 : ∀ w, Calls Tryz.prog 72 #[.int .i64 X] w fun e w' => e = .returned (.bool true) ∧ w' = w) (h2 : ∀ w, Calls Tryz.prog 72 #[.int .i64 Y] w fun e w' => e = .returned (.bool true) ∧ w' = w) (w : World) : Calls Tryz.prog 89 #[.int .i64 3, .int .i64 a, .int .i64 b, .int .i64 c, .int .i64 d] w fun e w' => e = .returned (.tuple #[V 3 X Y E0, .int .i64 0]) ∧ G w w' := by
  have H1 : Hid _ := h1
  have H2 : Hid _ := h2
  clear h1 h2
  go_enter Tryz.func89, Tryz.ntmps89
  go_wp2_with fail
  refine (H1.out _).mono ?_
  rintro e wx ⟨rfl, rfl⟩
  go_wp2_with fail
  refine (H2.out _).mono ?_
  rintro e wx ⟨rfl, rfl⟩
  go_wp2_with fail
  refine (rpair X Y _).mono ?_
  rintro e w1 ⟨rfl, hb1⟩
  have g1 : G w w1 := ((G.refl w).alloc _).trans hb1
  obtain ⟨hc1, hf1⟩ := hb1.rules
  go_wp2
  exact bodyPost_ret (v := .tuple #[V 3 X Y E0, .int .i64 0]) (by simp [results, Tryz.results89, go_sem, hc1]) rfl ⟨rfl, by
    repeat (first | exact g1 | refine G.alloc ?_ _ | refine G.setCell ?_ (by first | (simp; done) | (simp; omega)) _)⟩
set_option maxRecDepth 100000 in
set_option maxHeartbeats 2000000 in
theorem rcx_4_z (a b c d cc dd n ac bd x bc ad y : Int) (e1 : wrap64 (c * c) = cc) (e2 : wrap64 (d * d) = dd) (e3 : wrap64 (cc + dd) = n) (e4 : wrap64 (a * c) = ac) (e5 : wrap64 (b * d) = bd) (_e6 : wrap64 (ac + bd) = x) (e7 : wrap64 (b * c) = bc) (e8 : wrap64 (a * d) = ad) (_e9 : wrap64 (bc - ad) = y) (z : n = 0) (w : World) : Calls Tryz.prog 89 #[.int .i64 4, .int .i64 a, .int .i64 b, .int .i64 c, .int .i64 d] w fun e w' => e = .returned (.tuple #[V0, .int .i64 12]) ∧ G w w' := by
  subst z
  go_enter Tryz.func89, Tryz.ntmps89
  go_wp2
  exact bodyPost_ret (v := .tuple #[V0, .int .i64 12]) (by simp [results, Tryz.results89, go_sem]) rfl ⟨rfl, by
    repeat (first | exact G.refl _ | refine G.alloc ?_ _ | refine G.setCell ?_ (by first | (simp; done) | (simp; omega)) _)⟩
set_option maxRecDepth 100000 in
set_option maxHeartbeats 2000000 in
theorem rcx_5_z (a b c d cc dd n ac bd x bc ad y : Int) (e1 : wrap64 (c * c) = cc) (e2 : wrap64 (d * d) = dd) (e3 : wrap64 (cc + dd) = n) (e4 : wrap64 (a * c) = ac) (e5 : wrap64 (b * d) = bd) (_e6 : wrap64 (ac + bd) = x) (e7 : wrap64 (b * c) = bc) (e8 : wrap64 (a * d) = ad) (_e9 : wrap64 (bc - ad) = y) (z : n = 0) (w : World) : Calls Tryz.prog 89 #[.int .i64 5, .int .i64 a, .int .i64 b, .int .i64 c, .int .i64 d] w fun e w' => e = .returned (.tuple #[V0, .int .i64 12]) ∧ G w w' := by
  subst z
  go_enter Tryz.func89, Tryz.ntmps89
  go_wp2
  exact bodyPost_ret (v := .tuple #[V0, .int .i64 12]) (by simp [results, Tryz.results89, go_sem]) rfl ⟨rfl, by
    repeat (first | exact G.refl _ | refine G.alloc ?_ _ | refine G.setCell ?_ (by first | (simp; done) | (simp; omega)) _)⟩
set_option maxRecDepth 100000 in
set_option maxHeartbeats 2000000 in
theorem rcx_4_i1 (a b c d cc dd n ac bd x bc ad y : Int) (e1 : wrap64 (c * c) = cc) (e2 : wrap64 (d * d) = dd) (e3 : wrap64 (cc + dd) = n) (e4 : wrap64 (a * c) = ac) (e5 : wrap64 (b * d) = bd) (e6 : wrap64 (ac + bd) = x) (e7 : wrap64 (b * c) = bc) (e8 : wrap64 (a * d) = ad) (_e9 : wrap64 (bc - ad) = y) (z : (n == 0) = false) (_z : ¬ n = 0) (m : Int) (f1 : x.tmod n = m) (f2 : (m != 0) = true) (w : World) : Calls Tryz.prog 89 #[.int .i64 4, .int .i64 a, .int .i64 b, .int .i64 c, .int .i64 d] w fun e w' => e = .returned (.tuple #[V0, .int .i64 13]) ∧ G w w' := by
  go_enter Tryz.func89, Tryz.ntmps89
  go_wp2
  exact bodyPost_ret (v := .tuple #[V0, .int .i64 13]) (by simp [results, Tryz.results89, go_sem]) rfl ⟨rfl, by
    repeat (first | exact G.refl _ | refine G.alloc ?_ _ | refine G.setCell ?_ (by first | (simp; done) | (simp; omega)) _)⟩
set_option maxRecDepth 100000 in
set_option maxHeartbeats 2000000 in
theorem rcx_4_i2 (a b c d cc dd n ac bd x bc ad y : Int) (e1 : wrap64 (c * c) = cc) (e2 : wrap64 (d * d) = dd) (e3 : wrap64 (cc + dd) = n) (e4 : wrap64 (a * c) = ac) (e5 : wrap64 (b * d) = bd) (e6 : wrap64 (ac + bd) = x) (e7 : wrap64 (b * c) = bc) (e8 : wrap64 (a * d) = ad) (e9 : wrap64 (bc - ad) = y) (z : (n == 0) = false) (_z : ¬ n = 0) (m : Int) (f1 : x.tmod n = 0) (f2 : y.tmod n = m) (f3 : (m != 0) = true) (w : World) : Calls Tryz.prog 89 #[.int .i64 4, .int .i64 a, .int .i64 b, .int .i64 c, .int .i64 d] w fun e w' => e = .returned (.tuple #[V0, .int .i64 13]) ∧ G w w' := by
  go_enter Tryz.func89, Tryz.ntmps89
  go_wp2
  exact bodyPost_ret (v := .tuple #[V0, .int .i64 13]) (by simp [results, Tryz.results89, go_sem]) rfl ⟨rfl, by
    repeat (first | exact G.refl _ | refine G.alloc ?_ _ | refine G.setCell ?_ (by first | (simp; done) | (simp; omega)) _)⟩
set_option maxRecDepth 100000 in
set_option maxHeartbeats 2000000 in
theorem rcx_4_ok (a b c d cc dd n ac bd x bc ad y : Int) (e1 : wrap64 (c * c) = cc) (e2 : wrap64 (d * d) = dd) (e3 : wrap64 (cc + dd) = n) (e4 : wrap64 (a * c) = ac) (e5 : wrap64 (b * d) = bd) (e6 : wrap64 (ac + bd) = x) (e7 : wrap64 (b * c) = bc) (e8 : wrap64 (a * d) = ad) (e9 : wrap64 (bc - ad) = y) (z : (n == 0) = false) (_z : ¬ n = 0) (X Y : Int) (f1 : x.tmod n = 0) (f2 : y.tmod n = 0) (f3 : wrap64 (x.tdiv n) = X) (f4 : wrap64 (y.tdiv n) = Y) (h1 : ∀ w, Calls Tryz.prog 72 #[.int .i64 X] w fun e w' => e = .returned (.bool true) ∧ w' = w) (h2 : ∀ w, Calls Tryz.prog 72 #[.int .i64 Y] w fun e w' => e = .returned (.bool true) ∧ w' = w) (w : World) : Calls Tryz.prog 89 #[.int .i64 4, .int .i64 a, .int .i64 b, .int .i64 c, .int .i64 d] w fun e w' => e = .returned (.tuple #[V 3 X Y E0, .int .i64 0]) ∧ G w w' := by
  have H1 : Hid _ := h1
  have H2 : Hid _ := h2
  clear h1 h2
  go_enter Tryz.func89, Tryz.ntmps89
  go_wp2
  go_quiet (fail)
  go_wp2_with fail
  refine (H1.out _).mono ?_
  rintro e wx ⟨rfl, rfl⟩
  go_wp2_with fail
  refine (H2.out _).mono ?_
  rintro e wx ⟨rfl, rfl⟩
  go_wp2_with fail
  refine (rpair X Y _).mono ?_
  rintro e w1 ⟨rfl, hb1⟩
  have g1 : G w w1 := (((G.refl w).alloc _).drewQ _).trans hb1
  obtain ⟨hc1, hf1⟩ := hb1.rules
  go_wp2
  exact bodyPost_ret (v := .tuple #[V 3 X Y E0, .int .i64 0]) (by simp [results, Tryz.results89, go_sem, hc1]) rfl ⟨rfl, by
    repeat (first | exact g1 | refine G.alloc ?_ _ | refine G.setCell ?_ (by first | (simp; done) | (simp; omega)) _)⟩
set_option maxRecDepth 100000 in
set_option maxHeartbeats 2000000 in
theorem rcx_5_ok (a b c d cc dd n ac bd x bc ad y : Int) (e1 : wrap64 (c * c) = cc) (e2 : wrap64 (d * d) = dd) (e3 : wrap64 (cc + dd) = n) (e4 : wrap64 (a * c) = ac) (e5 : wrap64 (b * d) = bd) (e6 : wrap64 (ac + bd) = x) (e7 : wrap64 (b * c) = bc) (e8 : wrap64 (a * d) = ad) (e9 : wrap64 (bc - ad) = y) (z : (n == 0) = false) (_z : ¬ n = 0) (x2 xn n2 y2 yn p q pc qd u pd qc v X Y : Int) (f1 : wrap64 (2 * x) = x2) (f2 : wrap64 (x2 + n) = xn) (f3 : wrap64 (2 * n) = n2) (f4 : wrap64 (2 * y) = y2) (f5 : wrap64 (y2 + n) = yn)
    (f6 : wrap64 (p * c) = pc) (f7 : wrap64 (q * d) = qd) (f8 : wrap64 (pc - qd) = u) (f9 : wrap64 (a - u) = X) (f10 : wrap64 (p * d) = pd) (f11 : wrap64 (q * c) = qc) (f12 : wrap64 (pd + qc) = v) (f13 : wrap64 (b - v) = Y) (h3 : ∀ w, Calls Tryz.prog 124 #[.int .i64 xn, .int .i64 n2] w fun e w' => e = .returned (.int .i64 p) ∧ w' = w) (h4 : ∀ w, Calls Tryz.prog 124 #[.int .i64 yn, .int .i64 n2] w fun e w' => e = .returned (.int .i64 q) ∧ w' = w) (h1 : ∀ w, Calls Tryz.prog 72 #[.int .i64 X] w fun e w' => e = .returned (.bool true) ∧ w' = w) (h2 : ∀ w, Calls Tryz.prog 72 #[.int .i64 Y] w fun e w' => e = .returned (.bool true) ∧ w' = w) (w : World) : Calls Tryz.prog 89 #[.int .i64 5, .int .i64 a, .int .i64 b, .int .i64 c, .int .i64 d] w fun e w' => e = .returned (.tuple #[V 3 X Y E0, .int .i64 0]) ∧ G w w' := by
  have H1 : Hid _ := h1
  have H2 : Hid _ := h2
  have H3 : Hid _ := h3
  have H4 : Hid _ := h4
  clear h1 h2 h3 h4
  go_enter Tryz.func89, Tryz.ntmps89
  go_wp2_with fail
  refine (H3.out _).mono ?_
  rintro e wx ⟨rfl, rfl⟩
  go_wp2_with fail
  refine (H4.out _).mono ?_
  rintro e wx ⟨rfl, rfl⟩
  go_wp2_with fail
  refine (H1.out _).mono ?_
  rintro e wx ⟨rfl, rfl⟩
  go_wp2_with fail
  refine (H2.out _).mono ?_
  rintro e wx ⟨rfl, rfl⟩
  go_wp2_with fail
  refine (rpair X Y _).mono ?_
  rintro e w1 ⟨rfl, hb1⟩
  have g1 : G w w1 := ((G.refl w).alloc _).trans hb1
  obtain ⟨hc1, hf1⟩ := hb1.rules
  go_wp2
  exact bodyPost_ret (v := .tuple #[V 3 X Y E0, .int .i64 0]) (by simp [results, Tryz.results89, go_sem, hc1]) rfl ⟨rfl, by
    repeat (first | exact g1 | refine G.alloc ?_ _ | refine G.setCell ?_ (by first | (simp; done) | (simp; omega)) _)⟩
end Go.Proofs.YtnoajhegcjoebabGreatDoor
