/- The law's helpers: does, cut, gauss, norm; Unary's norm and conjugate of a complex number. -/
import Derived.Test.YtnoajhegcjoebaaGreatDoorArithC
namespace Go.Proofs.YtnoajhegcjoebaaGreatDoor
open Go.RowKit

set_option maxRecDepth 100000 in
set_option maxHeartbeats 1000000 in
theorem does_of (op k1 a1 b1 k2 a2 b2 : Int) (s1 s2 : ByteArray) (k3 a3 b3 : Int) (s3 : ByteArray) (hk : (k3 != 0) = true)
    (h3 : ∀ w, Calls Tryz.prog 14 #[.int .i64 op, V k1 a1 b1 s1, V k2 a2 b2 s2] w fun e w' => e = .returned (.tuple #[V k3 a3 b3 s3, .int .i64 0]) ∧ G w w') (w : World) :
    Calls Tryz.prog 13 #[.int .i64 op, V k1 a1 b1 s1, V k2 a2 b2 s2] w fun e w' => e = .returned (.tuple #[V k3 a3 b3 s3, .bool true]) ∧ G w w' := by
  have H3 : Hid _ := h3
  clear h3
  go_enter Tryz.func13, Tryz.ntmps13
  go_wp2_with fail
  refine (H3.out _).mono ?_
  rintro e w1 ⟨rfl, hb1⟩
  obtain ⟨hc1, hf1⟩ := hb1.rules
  have hz1 : w.heap.size + 2 < w1.heap.size := by have := hb1.size; simp at this; omega
  go_wp2
  go_region
  go_wp2
  exact bodyPost_ret (v := .tuple #[V k3 a3 b3 s3, .bool true]) (by simp [results, Tryz.results13, go_sem, hc1, hz1]) rfl ⟨rfl, by
    have g4 : G w w1 := ((((G.refl w).alloc _).alloc _).alloc _).trans hb1
    repeat (first | exact g4 | refine G.drew ?_ | refine G.alloc ?_ _ | refine G.setCell ?_ (by first | (simp; done) | (simp; omega)) _)⟩
set_option maxRecDepth 100000 in
set_option maxHeartbeats 400000 in
theorem cut_any (n m : Int) (h0 : 0 ≤ m) (h1 : m ≤ 1073741824) (w : World) : Calls Tryz.prog 12 #[.int .i64 n, .int .i64 m] w fun e w' => e = .returned (.int .i64 (n.tmod (m + 1))) ∧ w' = w := by
  have z : (m + 1 == 0) = false := by simp; omega
  have hl : -(m + 1) < n.tmod (m + 1) := Int.lt_tmod_of_pos n (by omega)
  have hu : n.tmod (m + 1) < m + 1 := Int.tmod_lt_of_pos n (by omega)
  go_enter Tryz.func12, Tryz.ntmps12
  go_wp2
  go_ret
  exact ⟨by first | rfl | simp [wrap64]; omega, rfl⟩
set_option maxRecDepth 100000 in
set_option maxHeartbeats 400000 in
theorem gauss_any (a b m : Int) (h0 : 0 ≤ m) (h1 : m ≤ 1073741824) (w : World) : Calls Tryz.prog 9 #[.int .i64 a, .int .i64 b, .int .i64 m] w fun e w' => e = .returned (V 3 (a.tmod (m + 1)) (b.tmod (m + 1)) E0) ∧ G w w' := by
  go_enter Tryz.func9, Tryz.ntmps9
  go_wp2_with fail
  refine (cut_any a m h0 h1 _).mono ?_
  rintro e w1 ⟨rfl, rfl⟩
  go_wp2_with fail
  refine (cut_any b m h0 h1 _).mono ?_
  rintro e w1 ⟨rfl, rfl⟩
  go_wp2
  exact bodyPost_ret (v := V 3 (a.tmod (m + 1)) (b.tmod (m + 1)) E0) (by simp [results, Tryz.results9, go_sem]) rfl ⟨rfl, (G.refl _).alloc _⟩
theorem m_unary_cpx (x y : Nat) (w : World) : (method 293 77 (.complex .f64 x y) "trellis/value.unary").run Tryz.prog w = .ok (172, .complex .f64 x y) w := by kernel_rfl
set_option maxRecDepth 100000 in
set_option maxHeartbeats 1000000 in
theorem Unary_cpx (a b : Int) (ha : P25 a) (hb : P25 b) (op : Int) (r : Value) (c c3 : Int) (k3 a3 b3 : Int) (s3 : ByteArray) (ho : 1 ≤ op) (ho' : op ≤ 8)
    (h3 : ∀ w, Calls Tryz.prog 172 #[.complex .f64 (fl a) (fl b), .int .i64 op] w fun e w' => e = .returned (.tuple #[r, .int .i64 c]) ∧ G w w')
    (h4 : ∀ w, Calls Tryz.prog 24 #[r, .int .i64 c] w fun e w' => e = .returned (.tuple #[V k3 a3 b3 s3, .int .i64 c3]) ∧ G w w') (w : World) :
    Calls Tryz.prog 21 #[.int .i64 op, V 3 a b E0] w fun e w' => e = .returned (.tuple #[V k3 a3 b3 s3, .int .i64 c3]) ∧ G w w' := by
  have H3 : Hid _ := h3; have H4 : Hid _ := h4
  have HI : Hid (∀ w, Calls Tryz.prog 23 #[V 3 a b E0] w fun e w' => e = .returned (.tuple #[.iface 77 (.complex .f64 (fl a) (fl b)), .bool true]) ∧ G w w') := fun w => item_cpx a b ha.1 ha.2 hb.1 hb.2 w
  clear h3 h4 ha hb
  have hm := m_unary_cpx
  go_enter Tryz.func21, Tryz.ntmps21
  go_wp2_with fail
  refine (HI.out _).mono ?_
  rintro e w1 ⟨rfl, hb1⟩
  obtain ⟨hc1, hf1⟩ := hb1.rules
  have hz1 : w.heap.size + 1 < w1.heap.size := by have := hb1.size; simp at this; omega
  go_wp2_with fail
  refine (H3.out _).mono ?_
  rintro e w3 ⟨rfl, hb3⟩
  obtain ⟨hc3, hf3⟩ := hb3.rules
  have hz3 : w.heap.size + 1 < w3.heap.size := by have := hb3.size; omega
  go_wp2_with fail
  refine (H4.out _).mono ?_
  rintro e w4 ⟨rfl, hb4⟩
  obtain ⟨hc4, hf4⟩ := hb4.rules
  go_wp2
  exact bodyPost_ret (v := .tuple #[V k3 a3 b3 s3, .int .i64 c3]) (by simp [results, Tryz.results21, go_sem, hc4, hc3, hc1, hz1, hz3]) rfl ⟨rfl, by
    have g4 : G w w4 := ((((G.refl w).alloc _).alloc _).trans hb1).trans (hb3.trans hb4)
    repeat (first | exact g4 | refine G.setCell ?_ (by first | (simp; done) | (simp; omega)) _)⟩
set_option maxRecDepth 100000 in
set_option maxHeartbeats 400000 in
theorem cpu_norm (x y : Nat) (a b : Int) (hx : Fl x a) (hy : Fl y b) (ha : P25 a) (hb : P25 b) (w : World) : Calls Tryz.prog 172 #[.complex .f64 x y, .int .i64 6] w fun e w' => e = .returned (.tuple #[.iface 75 (.int .i64 (a * a + b * b)), .int .i64 0]) ∧ G w w' := by
  have m1 := ha.mul ha; have m2 := hb.mul hb
  have HN : Hid (∀ w, Calls Tryz.prog 88 #[.complex .f64 x y] w fun e w' => (∃ r, e = .returned (.float .f64 r) ∧ Fl r (a * a + b * b)) ∧ w' = w) := fun w => norm_fl x y a b hx hy (by omega) (by omega) (by omega) w
  have HS : Hid ((a * a + b * b).natAbs < 2 ^ 53) := by show (a * a + b * b).natAbs < 2 ^ 53; omega
  clear hx hy ha hb m1 m2
  go_enter Tryz.func172, Tryz.ntmps172
  go_wp2_with fail
  refine (HN.out _).mono ?_
  rintro e w1 ⟨⟨r, rfl, hr⟩, rfl⟩
  have c1 := fun w => run_convert_float_int (P := Tryz.prog) w 78 75 .f64 .i64 r (a * a + b * b) (by kernel_rfl) Tryz.underlying75 (hr.toInt HS.out)
  clear hr
  go_wp2
  go_ret2
  exact ⟨rfl, G.refl _⟩
set_option maxRecDepth 100000 in
set_option maxHeartbeats 400000 in
theorem cpu_conj (x y : Nat) (w : World) : Calls Tryz.prog 172 #[.complex .f64 x y, .int .i64 5] w fun e w' => e = .returned (.tuple #[IC x (Op.negFloat .f64 y), .int .i64 0]) ∧ G w w' := by
  go_enter Tryz.func172, Tryz.ntmps172
  go_wp2_with fail
  refine (conj_any x y _).mono ?_
  rintro e w1 ⟨rfl, rfl⟩
  go_wp2
  go_ret2
  exact ⟨rfl, G.refl _⟩
theorem U_norm (a b : Int) (ha : P25 a) (hb : P25 b) (w : World) : Calls Tryz.prog 21 #[.int .i64 6, V 3 a b E0] w fun e w' => e = .returned (.tuple #[V 2 (a * a + b * b) 0 E0, .int .i64 0]) ∧ G w w' :=
  Unary_cpx a b ha hb 6 _ 0 0 _ _ _ _ (by decide) (by decide) (cpu_norm (fl a) (fl b) a b (Fl.ofInt a ha.lt) (Fl.ofInt b hb.lt) ha hb) (answer_whole _) w
theorem U_conj (a b : Int) (ha : P25 a) (hb : P25 b) (w : World) : Calls Tryz.prog 21 #[.int .i64 5, V 3 a b E0] w fun e w' => e = .returned (.tuple #[V 3 a (-b) E0, .int .i64 0]) ∧ G w w' :=
  Unary_cpx a b ha hb 5 _ 0 0 _ _ _ _ (by decide) (by decide) (cpu_conj (fl a) (fl b)) (answer_cpx _ _ a (-b) (Fl.ofInt a ha.lt) (Fl.ofInt b hb.lt).neg ha.lt (by have := hb.lt; omega)) w
set_option maxRecDepth 100000 in
set_option maxHeartbeats 400000 in
theorem norm_of (k1 a1 b1 : Int) (s1 : ByteArray) (n : Int) (h3 : ∀ w, Calls Tryz.prog 21 #[.int .i64 6, V k1 a1 b1 s1] w fun e w' => e = .returned (.tuple #[V 2 n 0 E0, .int .i64 0]) ∧ G w w') (w : World) :
    Calls Tryz.prog 15 #[V k1 a1 b1 s1] w fun e w' => e = .returned (.tuple #[.int .i64 n, .bool true]) ∧ G w w' := by
  have H3 : Hid _ := h3
  clear h3
  go_enter Tryz.func15, Tryz.ntmps15
  go_wp2_with fail
  refine (H3.out _).mono ?_
  rintro e w1 ⟨rfl, hb1⟩
  go_wp2
  go_region
  go_wp2
  go_ret2
  exact ⟨rfl, by
    have g4 : G w w1 := ((G.refl w).alloc _).trans hb1
    repeat (first | exact g4 | refine G.drew ?_ | refine G.alloc ?_ _)⟩
end Go.Proofs.YtnoajhegcjoebaaGreatDoor
