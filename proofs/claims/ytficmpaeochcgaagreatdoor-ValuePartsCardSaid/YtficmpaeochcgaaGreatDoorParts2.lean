/- trellisref1.FromParts at every two doubles; both answers are one. -/
import Derived.Test.YtficmpaeochcgaaGreatDoorParts1
namespace Go.Proofs.YtficmpaeochcgaaGreatDoor
open Go.RowKit

set_option maxRecDepth 100000 in
set_option maxHeartbeats 400000 in
theorem rpair_any (a b : Int) (w : World) : Calls Tryz.prog 83 #[.int .i64 a, .int .i64 b] w fun e w' => e = .returned (V 3 a b E0) ∧ G w w' := by
  go_enter Tryz.func83, Tryz.ntmps83
  go_wp2
  exact bodyPost_ret (v := V 3 a b E0) (by simp [results, Tryz.results83, go_sem]) rfl ⟨rfl, by repeat (first | exact G.refl _ | assumption | refine G.alloc ?_ _ | refine G.drew ?_ | refine G.setCell ?_ (by simp) _ | refine G.trans ?_ (by assumption))⟩
set_option maxRecDepth 100000 in
set_option maxHeartbeats 1000000 in
theorem rfp_n1 (x y : Nat) (qx : ordD x x = none) (w : World) : Calls Tryz.prog 68 #[.float .f64 x, .float .f64 y] w fun e w' => e = .returned (.tuple #[V0, .int .i64 13]) ∧ G w w' := by
  go_enter Tryz.func68, Tryz.ntmps68
  go_wp2
  exact bodyPost_ret (v := .tuple #[V0, .int .i64 13]) (by simp [results, Tryz.results68, go_sem]) rfl ⟨rfl, by repeat (first | exact G.refl _ | assumption | refine G.alloc ?_ _ | refine G.drew ?_ | refine G.setCell ?_ (by simp) _ | refine G.trans ?_ (by assumption))⟩
set_option maxRecDepth 100000 in
set_option maxHeartbeats 1000000 in
theorem rfp_n2 (x y : Nat) (qx : ordD x x = some .eq) (qy : ordD y y = none) (w : World) : Calls Tryz.prog 68 #[.float .f64 x, .float .f64 y] w fun e w' => e = .returned (.tuple #[V0, .int .i64 13]) ∧ G w w' := by
  go_enter Tryz.func68, Tryz.ntmps68
  go_wp2
  exact bodyPost_ret (v := .tuple #[V0, .int .i64 13]) (by simp [results, Tryz.results68, go_sem]) rfl ⟨rfl, by repeat (first | exact G.refl _ | assumption | refine G.alloc ?_ _ | refine G.drew ?_ | refine G.setCell ?_ (by simp) _ | refine G.trans ?_ (by assumption))⟩
set_option maxRecDepth 100000 in
set_option maxHeartbeats 1000000 in
theorem rfp_b1 (x y : Nat) (qx : ordD x x = some .eq) (qy : ordD y y = some .eq) (lx : (ordD x 13943144446339055616 == some .lt) = true) (w : World) : Calls Tryz.prog 68 #[.float .f64 x, .float .f64 y] w fun e w' => e = .returned (.tuple #[V0, .int .i64 11]) ∧ G w w' := by
  go_enter Tryz.func68, Tryz.ntmps68
  go_wp2
  exact bodyPost_ret (v := .tuple #[V0, .int .i64 11]) (by simp [results, Tryz.results68, go_sem]) rfl ⟨rfl, by repeat (first | exact G.refl _ | assumption | refine G.alloc ?_ _ | refine G.drew ?_ | refine G.setCell ?_ (by simp) _ | refine G.trans ?_ (by assumption))⟩
set_option maxRecDepth 100000 in
set_option maxHeartbeats 1000000 in
theorem rfp_b2 (x y : Nat) (qx : ordD x x = some .eq) (qy : ordD y y = some .eq) (lx : (ordD x 13943144446339055616 == some .lt) = false) (gx : (ordD x 4719772409484279808 == some .gt) = true) (w : World) : Calls Tryz.prog 68 #[.float .f64 x, .float .f64 y] w fun e w' => e = .returned (.tuple #[V0, .int .i64 11]) ∧ G w w' := by
  go_enter Tryz.func68, Tryz.ntmps68
  go_wp2
  exact bodyPost_ret (v := .tuple #[V0, .int .i64 11]) (by simp [results, Tryz.results68, go_sem]) rfl ⟨rfl, by repeat (first | exact G.refl _ | assumption | refine G.alloc ?_ _ | refine G.drew ?_ | refine G.setCell ?_ (by simp) _ | refine G.trans ?_ (by assumption))⟩
set_option maxRecDepth 100000 in
set_option maxHeartbeats 1000000 in
theorem rfp_b3 (x y : Nat) (qx : ordD x x = some .eq) (qy : ordD y y = some .eq) (lx : (ordD x 13943144446339055616 == some .lt) = false) (gx : (ordD x 4719772409484279808 == some .gt) = false) (ly : (ordD y 13943144446339055616 == some .lt) = true) (w : World) : Calls Tryz.prog 68 #[.float .f64 x, .float .f64 y] w fun e w' => e = .returned (.tuple #[V0, .int .i64 11]) ∧ G w w' := by
  go_enter Tryz.func68, Tryz.ntmps68
  go_wp2
  exact bodyPost_ret (v := .tuple #[V0, .int .i64 11]) (by simp [results, Tryz.results68, go_sem]) rfl ⟨rfl, by repeat (first | exact G.refl _ | assumption | refine G.alloc ?_ _ | refine G.drew ?_ | refine G.setCell ?_ (by simp) _ | refine G.trans ?_ (by assumption))⟩
set_option maxRecDepth 100000 in
set_option maxHeartbeats 1000000 in
theorem rfp_b4 (x y : Nat) (qx : ordD x x = some .eq) (qy : ordD y y = some .eq) (lx : (ordD x 13943144446339055616 == some .lt) = false) (gx : (ordD x 4719772409484279808 == some .gt) = false) (ly : (ordD y 13943144446339055616 == some .lt) = false) (gy : (ordD y 4719772409484279808 == some .gt) = true) (w : World) : Calls Tryz.prog 68 #[.float .f64 x, .float .f64 y] w fun e w' => e = .returned (.tuple #[V0, .int .i64 11]) ∧ G w w' := by
  go_enter Tryz.func68, Tryz.ntmps68
  go_wp2
  exact bodyPost_ret (v := .tuple #[V0, .int .i64 11]) (by simp [results, Tryz.results68, go_sem]) rfl ⟨rfl, by repeat (first | exact G.refl _ | assumption | refine G.alloc ?_ _ | refine G.drew ?_ | refine G.setCell ?_ (by simp) _ | refine G.trans ?_ (by assumption))⟩
set_option maxRecDepth 100000 in
set_option maxHeartbeats 1000000 in
theorem rfp_f1 (x y : Nat) (qx : ordD x x = some .eq) (qy : ordD y y = some .eq) (lx : (ordD x 13943144446339055616 == some .lt) = false) (gx : (ordD x 4719772409484279808 == some .gt) = false) (ly : (ordD y 13943144446339055616 == some .lt) = false) (gy : (ordD y 4719772409484279808 == some .gt) = false) (n m : Int) (ix : floatToIntVal .f64 x .i64 = some n) (iy : floatToIntVal .f64 y .i64 = some m) (dx : (ordD (floatOfInt .f64 n) x != some .eq) = true) (w : World) : Calls Tryz.prog 68 #[.float .f64 x, .float .f64 y] w fun e w' => e = .returned (.tuple #[V0, .int .i64 13]) ∧ G w w' := by
  have c1 := fun w => cv_int 84 x n ix (by kernel_rfl) w
  have c2 := fun w => cv_int 84 y m iy (by kernel_rfl) w
  clear ix iy
  go_enter Tryz.func68, Tryz.ntmps68
  go_wp2
  exact bodyPost_ret (v := .tuple #[V0, .int .i64 13]) (by simp [results, Tryz.results68, go_sem]) rfl ⟨rfl, by repeat (first | exact G.refl _ | assumption | refine G.alloc ?_ _ | refine G.drew ?_ | refine G.setCell ?_ (by simp) _ | refine G.trans ?_ (by assumption))⟩
set_option maxRecDepth 100000 in
set_option maxHeartbeats 1000000 in
theorem rfp_f2 (x y : Nat) (qx : ordD x x = some .eq) (qy : ordD y y = some .eq) (lx : (ordD x 13943144446339055616 == some .lt) = false) (gx : (ordD x 4719772409484279808 == some .gt) = false) (ly : (ordD y 13943144446339055616 == some .lt) = false) (gy : (ordD y 4719772409484279808 == some .gt) = false) (n m : Int) (ix : floatToIntVal .f64 x .i64 = some n) (iy : floatToIntVal .f64 y .i64 = some m) (dx : (ordD (floatOfInt .f64 n) x != some .eq) = false) (dy : (ordD (floatOfInt .f64 m) y != some .eq) = true) (w : World) : Calls Tryz.prog 68 #[.float .f64 x, .float .f64 y] w fun e w' => e = .returned (.tuple #[V0, .int .i64 13]) ∧ G w w' := by
  have c1 := fun w => cv_int 84 x n ix (by kernel_rfl) w
  have c2 := fun w => cv_int 84 y m iy (by kernel_rfl) w
  clear ix iy
  go_enter Tryz.func68, Tryz.ntmps68
  go_wp2
  exact bodyPost_ret (v := .tuple #[V0, .int .i64 13]) (by simp [results, Tryz.results68, go_sem]) rfl ⟨rfl, by repeat (first | exact G.refl _ | assumption | refine G.alloc ?_ _ | refine G.drew ?_ | refine G.setCell ?_ (by simp) _ | refine G.trans ?_ (by assumption))⟩
set_option maxRecDepth 100000 in
set_option maxHeartbeats 1000000 in
theorem rfp_ok (x y : Nat) (qx : ordD x x = some .eq) (qy : ordD y y = some .eq) (lx : (ordD x 13943144446339055616 == some .lt) = false) (gx : (ordD x 4719772409484279808 == some .gt) = false) (ly : (ordD y 13943144446339055616 == some .lt) = false) (gy : (ordD y 4719772409484279808 == some .gt) = false) (n m : Int) (ix : floatToIntVal .f64 x .i64 = some n) (iy : floatToIntVal .f64 y .i64 = some m) (dx : (ordD (floatOfInt .f64 n) x != some .eq) = false) (dy : (ordD (floatOfInt .f64 m) y != some .eq) = false) (w : World) : Calls Tryz.prog 68 #[.float .f64 x, .float .f64 y] w fun e w' => e = .returned (.tuple #[V 3 n m E0, .int .i64 0]) ∧ G w w' := by
  have c1 := fun w => cv_int 84 x n ix (by kernel_rfl) w
  have c2 := fun w => cv_int 84 y m iy (by kernel_rfl) w
  clear ix iy
  go_enter Tryz.func68, Tryz.ntmps68
  go_wp2_with fail
  refine (rpair_any n m _).mono ?_
  rintro e w1 ⟨rfl, hb1⟩
  obtain ⟨hc1, hf1⟩ := hb1.rules
  have hz1 : w.heap.size < w1.heap.size := by have := hb1.size; simp at this; omega
  go_wp2
  exact bodyPost_ret (v := .tuple #[V 3 n m E0, .int .i64 0]) (by simp [results, Tryz.results68, go_sem, hc1]) rfl ⟨rfl, by repeat (first | exact G.refl _ | assumption | refine G.alloc ?_ _ | refine G.drew ?_ | refine G.setCell ?_ (by simp) _ | refine G.trans ?_ (by assumption))⟩
/-- FromComplex and FromParts answer the same. -/
theorem fc_both (x y : Nat) (hx : x < 2 ^ 64) (hy : y < 2 ^ 64) : ∃ (k a b c : Int),
    (∀ w, Calls Tryz.prog 67 #[.complex .f64 x y] w fun e w' => e = .returned (.tuple #[V k a b E0, .int .i64 c]) ∧ G w w') ∧
    (∀ w, Calls Tryz.prog 68 #[.float .f64 x, .float .f64 y] w fun e w' => e = .returned (.tuple #[V k a b E0, .int .i64 c]) ∧ G w w') := by
  rcases dbl_cases x hx with h | ⟨q1, b1, l1⟩ | ⟨q1, b1, l1, g1, r1, n, hn, i1, t1, d1⟩
  · exact ⟨0, 0, 0, 13, fc_of x y _ 13 0 0 0 13 (ft_n1 x y hx hy h) (answer_er _ 13 (by decide)), rfp_n1 x y h⟩
  all_goals rcases dbl_cases y hy with h' | ⟨q2, b2, l2⟩ | ⟨q2, b2, l2, g2, r2, m, hm, i2, t2, d2⟩
  · exact ⟨0, 0, 0, 13, fc_of x y _ 13 0 0 0 13 (ft_n2 x y hx hy q1 h') (answer_er _ 13 (by decide)), rfp_n2 x y q1 h'⟩
  · refine ⟨0, 0, 0, 11, fc_of x y _ 11 0 0 0 11 (ft_b1 x y hx hy q1 q2 b1) (answer_er _ 11 (by decide)), ?_⟩
    rcases l1 with l1 | ⟨l1, g1⟩
    · exact rfp_b1 x y q1 q2 l1
    · exact rfp_b2 x y q1 q2 l1 g1
  · refine ⟨0, 0, 0, 11, fc_of x y _ 11 0 0 0 11 (ft_b1 x y hx hy q1 q2 b1) (answer_er _ 11 (by decide)), ?_⟩
    rcases l1 with l1 | ⟨l1, g1⟩
    · exact rfp_b1 x y q1 q2 l1
    · exact rfp_b2 x y q1 q2 l1 g1
  · exact ⟨0, 0, 0, 13, fc_of x y _ 13 0 0 0 13 (ft_n2 x y hx hy q1 h') (answer_er _ 13 (by decide)), rfp_n2 x y q1 h'⟩
  · refine ⟨0, 0, 0, 11, fc_of x y _ 11 0 0 0 11 (ft_b2 x y hx hy q1 q2 b1 b2) (answer_er _ 11 (by decide)), ?_⟩
    rcases l2 with l2 | ⟨l2, g2⟩
    · exact rfp_b3 x y q1 q2 l1 g1 l2
    · exact rfp_b4 x y q1 q2 l1 g1 l2 g2
  · cases e1 : frB x
    · cases e2 : frB y
      · exact ⟨3, n, m, 0, fc_of x y _ 0 3 n m 0 (ft_ok x y hx hy q1 q2 b1 b2 r1 e1 r2 e2) (answer_i x y n m i1 i2), rfp_ok x y q1 q2 l1 g1 l2 g2 n m i1 i2 (d1.trans e1) (d2.trans e2)⟩
      · exact ⟨0, 0, 0, 13, fc_of x y _ 13 0 0 0 13 (ft_f2 x y hx hy q1 q2 b1 b2 r1 e1 r2 e2) (answer_er _ 13 (by decide)), rfp_f2 x y q1 q2 l1 g1 l2 g2 n m i1 i2 (d1.trans e1) (d2.trans e2)⟩
    · exact ⟨0, 0, 0, 13, fc_of x y _ 13 0 0 0 13 (ft_f1 x y hx hy q1 q2 b1 b2 r1 e1) (answer_er _ 13 (by decide)), rfp_f1 x y q1 q2 l1 g1 l2 g2 n m i1 i2 (d1.trans e1)⟩
end Go.Proofs.YtficmpaeochcgaaGreatDoor
