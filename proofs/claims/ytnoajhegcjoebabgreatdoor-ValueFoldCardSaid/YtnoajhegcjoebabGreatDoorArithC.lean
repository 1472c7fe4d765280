/- Complex numbers: sums, differences, products within the parts' bounds. -/
import Derived.Test.YtnoajhegcjoebabGreatDoorCpx
import Derived.Test.YtnoajhegcjoebabGreatDoorArithW
import Derived.Test.YtnoajhegcjoebabGreatDoorUnC
namespace Go.Proofs.YtnoajhegcjoebabGreatDoor
open Go.RowKit
attribute [local go_sem] as_whole_str as_whole_whole as_cpx_str as_cpx_whole

/-- A part of a complex number. -/
def P25 (n : Int) : Prop := -33554432 ≤ n ∧ n ≤ 33554432
theorem P25.abs {n : Int} (h : P25 n) : n.natAbs ≤ 33554432 := by obtain ⟨h1, h2⟩ := h; omega
theorem P25.lt {n : Int} (h : P25 n) : n.natAbs < 2 ^ 53 := by obtain ⟨h1, h2⟩ := h; omega
theorem P25.mul {a b : Int} (ha : P25 a) (hb : P25 b) : (a * b).natAbs ≤ 1125899906842624 := by
  rw [Int.natAbs_mul]
  exact Nat.mul_le_mul ha.abs hb.abs
set_option maxRecDepth 100000 in
set_option maxHeartbeats 400000 in
theorem ca_add (x y z t p q : Nat) (a b : Int) (hc : cSumBits .add .f64 x y z t = some (p, q)) (hp : Fl p a) (hq : Fl q b) (ha : P25 a) (hb : P25 b) (w : World) :
    Calls Tryz.prog 158 #[.int .i64 1, .complex .f64 x y, .complex .f64 z t] w fun e w' => e = .returned (.tuple #[IC p q, .int .i64 0]) ∧ G w w' := by
  have e1 := fun w => run_complex_sum (P := Tryz.prog) w .add (.inl rfl) 70 .f64 x y z t p q hc
  have HF : Hid (∀ w, Calls Tryz.prog 106 #[.complex .f64 p q] w fun e w' => e = .returned (.tuple #[IC p q, .int .i64 0]) ∧ w' = w) := fun w => fit_ok p q a b hp hq ha.abs hb.abs w
  clear hc hp hq ha hb
  go_enter Tryz.func158, Tryz.ntmps158
  go_wp2_with fail
  refine (HF.out _).mono ?_
  rintro e w1 ⟨rfl, rfl⟩
  go_wp2
  go_ret2
  exact ⟨rfl, G.refl _⟩
set_option maxRecDepth 100000 in
set_option maxHeartbeats 400000 in
theorem ca_sub (x y z t p q : Nat) (a b : Int) (hc : cSumBits .sub .f64 x y z t = some (p, q)) (hp : Fl p a) (hq : Fl q b) (ha : P25 a) (hb : P25 b) (w : World) :
    Calls Tryz.prog 158 #[.int .i64 2, .complex .f64 x y, .complex .f64 z t] w fun e w' => e = .returned (.tuple #[IC p q, .int .i64 0]) ∧ G w w' := by
  have e1 := fun w => run_complex_sum (P := Tryz.prog) w .sub (.inr rfl) 70 .f64 x y z t p q hc
  have HF : Hid (∀ w, Calls Tryz.prog 106 #[.complex .f64 p q] w fun e w' => e = .returned (.tuple #[IC p q, .int .i64 0]) ∧ w' = w) := fun w => fit_ok p q a b hp hq ha.abs hb.abs w
  clear hc hp hq ha hb
  go_enter Tryz.func158, Tryz.ntmps158
  go_wp2_with fail
  refine (HF.out _).mono ?_
  rintro e w1 ⟨rfl, rfl⟩
  go_wp2
  go_ret2
  exact ⟨rfl, G.refl _⟩
set_option maxRecDepth 100000 in
set_option maxHeartbeats 400000 in
theorem ca_mul (x y z t p q : Nat) (a b : Int) (hc : cMulBits x y z t = some (p, q)) (hp : Fl p a) (hq : Fl q b) (ha : P25 a) (hb : P25 b) (w : World) :
    Calls Tryz.prog 158 #[.int .i64 3, .complex .f64 x y, .complex .f64 z t] w fun e w' => e = .returned (.tuple #[IC p q, .int .i64 0]) ∧ G w w' := by
  have e1 := fun w => run_complex_mul (P := Tryz.prog) w 70 x y z t p q hc
  have HF : Hid (∀ w, Calls Tryz.prog 106 #[.complex .f64 p q] w fun e w' => e = .returned (.tuple #[IC p q, .int .i64 0]) ∧ w' = w) := fun w => fit_ok p q a b hp hq ha.abs hb.abs w
  clear hc hp hq ha hb
  go_enter Tryz.func158, Tryz.ntmps158
  go_wp2_with fail
  refine (HF.out _).mono ?_
  rintro e w1 ⟨rfl, rfl⟩
  go_wp2
  go_ret2
  exact ⟨rfl, G.refl _⟩
set_option maxRecDepth 100000 in
set_option maxHeartbeats 400000 in
theorem mixed_cc (op : Int) (x1 y1 : Nat) (x2 y2 : Nat) (r : Value) (c : Int) (h : ∀ w, Calls Tryz.prog 158 #[.int .i64 op, .complex .f64 x1 y1, .complex .f64 x2 y2] w fun e w' => e = .returned (.tuple #[r, .int .i64 c]) ∧ G w w') (w : World) :
    Calls Tryz.prog 123 #[.int .i64 op, IC x1 y1, IC x2 y2] w fun e w' => e = .returned (.tuple #[r, .int .i64 c]) ∧ G w w' := by
  have H : Hid _ := h
  clear h
  have m1 := m_num_cpx x1 y1
  have m2 := m_num_cpx x2 y2
  go_enter Tryz.func123, Tryz.ntmps123
  go_wp2_with fail
  refine (num_cpx x1 y1 _).mono ?_
  rintro e w1 ⟨rfl, rfl⟩
  go_wp2_with fail
  refine (num_cpx x2 y2 _).mono ?_
  rintro e w1 ⟨rfl, rfl⟩
  go_wp2_with fail
  refine (H.out _).mono ?_
  rintro e w3 ⟨rfl, hb3⟩
  go_wp2
  go_ret2
  exact ⟨rfl, hb3⟩
set_option maxRecDepth 100000 in
set_option maxHeartbeats 400000 in
theorem arith_cc (op : Int) (x1 y1 : Nat) (x2 y2 : Nat) (r : Value) (c : Int) (h : ∀ w, Calls Tryz.prog 158 #[.int .i64 op, .complex .f64 x1 y1, .complex .f64 x2 y2] w fun e w' => e = .returned (.tuple #[r, .int .i64 c]) ∧ G w w') (w : World) :
    Calls Tryz.prog 87 #[.int .i64 op, IC x1 y1, IC x2 y2] w fun e w' => e = .returned (.tuple #[r, .int .i64 c]) ∧ G w w' := by
  have H : Hid (∀ w, Calls Tryz.prog 123 #[.int .i64 op, IC x1 y1, IC x2 y2] w fun e w' => e = .returned (.tuple #[r, .int .i64 c]) ∧ G w w') := fun w => mixed_cc op x1 y1 x2 y2 r c h w
  clear h
  go_enter Tryz.func87, Tryz.ntmps87
  go_wp2_with fail
  refine (H.out _).mono ?_
  rintro e w1 ⟨rfl, hb1⟩
  go_wp2
  go_ret2
  exact ⟨rfl, hb1⟩
set_option maxRecDepth 100000 in
set_option maxHeartbeats 400000 in
theorem mixed_cw (op : Int) (x1 y1 : Nat) (n2 : Int) (h2 : P25 n2) (r : Value) (c : Int) (h : ∀ w, Calls Tryz.prog 158 #[.int .i64 op, .complex .f64 x1 y1, .complex .f64 (fl n2) 0] w fun e w' => e = .returned (.tuple #[r, .int .i64 c]) ∧ G w w') (w : World) :
    Calls Tryz.prog 123 #[.int .i64 op, IC x1 y1, IW n2] w fun e w' => e = .returned (.tuple #[r, .int .i64 c]) ∧ G w w' := by
  have H : Hid _ := h
  clear h
  have m1 := m_num_cpx x1 y1
  have m2 := m_num_whole n2
  go_enter Tryz.func123, Tryz.ntmps123
  go_wp2_with fail
  refine (num_cpx x1 y1 _).mono ?_
  rintro e w1 ⟨rfl, rfl⟩
  go_wp2_with fail
  refine (num_whole n2 h2.1 h2.2 _).mono ?_
  rintro e w1 ⟨rfl, rfl⟩
  go_wp2_with fail
  refine (H.out _).mono ?_
  rintro e w3 ⟨rfl, hb3⟩
  go_wp2
  go_ret2
  exact ⟨rfl, hb3⟩
set_option maxRecDepth 100000 in
set_option maxHeartbeats 400000 in
theorem arith_cw (op : Int) (x1 y1 : Nat) (n2 : Int) (h2 : P25 n2) (r : Value) (c : Int) (h : ∀ w, Calls Tryz.prog 158 #[.int .i64 op, .complex .f64 x1 y1, .complex .f64 (fl n2) 0] w fun e w' => e = .returned (.tuple #[r, .int .i64 c]) ∧ G w w') (w : World) :
    Calls Tryz.prog 87 #[.int .i64 op, IC x1 y1, IW n2] w fun e w' => e = .returned (.tuple #[r, .int .i64 c]) ∧ G w w' := by
  have H : Hid (∀ w, Calls Tryz.prog 123 #[.int .i64 op, IC x1 y1, IW n2] w fun e w' => e = .returned (.tuple #[r, .int .i64 c]) ∧ G w w') := fun w => mixed_cw op x1 y1 n2 h2 r c h w
  clear h
  go_enter Tryz.func87, Tryz.ntmps87
  go_wp2_with fail
  refine (H.out _).mono ?_
  rintro e w1 ⟨rfl, hb1⟩
  go_wp2
  go_ret2
  exact ⟨rfl, hb1⟩
set_option maxRecDepth 100000 in
set_option maxHeartbeats 400000 in
theorem mixed_wc (op : Int) (n1 : Int) (h1 : P25 n1) (x2 y2 : Nat) (r : Value) (c : Int) (h : ∀ w, Calls Tryz.prog 158 #[.int .i64 op, .complex .f64 (fl n1) 0, .complex .f64 x2 y2] w fun e w' => e = .returned (.tuple #[r, .int .i64 c]) ∧ G w w') (w : World) :
    Calls Tryz.prog 123 #[.int .i64 op, IW n1, IC x2 y2] w fun e w' => e = .returned (.tuple #[r, .int .i64 c]) ∧ G w w' := by
  have H : Hid _ := h
  clear h
  have m1 := m_num_whole n1
  have m2 := m_num_cpx x2 y2
  go_enter Tryz.func123, Tryz.ntmps123
  go_wp2_with fail
  refine (num_whole n1 h1.1 h1.2 _).mono ?_
  rintro e w1 ⟨rfl, rfl⟩
  go_wp2_with fail
  refine (num_cpx x2 y2 _).mono ?_
  rintro e w1 ⟨rfl, rfl⟩
  go_wp2_with fail
  refine (H.out _).mono ?_
  rintro e w3 ⟨rfl, hb3⟩
  go_wp2
  go_ret2
  exact ⟨rfl, hb3⟩
set_option maxRecDepth 100000 in
set_option maxHeartbeats 400000 in
theorem arith_wc (op : Int) (n1 : Int) (h1 : P25 n1) (x2 y2 : Nat) (r : Value) (c : Int) (h : ∀ w, Calls Tryz.prog 158 #[.int .i64 op, .complex .f64 (fl n1) 0, .complex .f64 x2 y2] w fun e w' => e = .returned (.tuple #[r, .int .i64 c]) ∧ G w w') (w : World) :
    Calls Tryz.prog 87 #[.int .i64 op, IW n1, IC x2 y2] w fun e w' => e = .returned (.tuple #[r, .int .i64 c]) ∧ G w w' := by
  have H : Hid (∀ w, Calls Tryz.prog 123 #[.int .i64 op, IW n1, IC x2 y2] w fun e w' => e = .returned (.tuple #[r, .int .i64 c]) ∧ G w w') := fun w => mixed_wc op n1 h1 x2 y2 r c h w
  clear h
  go_enter Tryz.func87, Tryz.ntmps87
  go_wp2_with fail
  refine (H.out _).mono ?_
  rintro e w1 ⟨rfl, hb1⟩
  go_wp2
  go_ret2
  exact ⟨rfl, hb1⟩
theorem sum_bits {x y z t : Nat} {a b c d : Int} (h1 : Fl x a) (h2 : Fl y b) (h3 : Fl z c) (h4 : Fl t d) (g1 : (a + c).natAbs < 2 ^ 53) (g2 : (b + d).natAbs < 2 ^ 53) :
    ∃ p q, cSumBits .add .f64 x y z t = some (p, q) ∧ Fl p (a + c) ∧ Fl q (b + d) := by
  obtain ⟨p, hp, fp⟩ := h1.add h3 g1
  obtain ⟨q, hq, fq⟩ := h2.add h4 g2
  exact ⟨p, q, by simp [cSumBits, hp, hq], fp, fq⟩
theorem diff_bits {x y z t : Nat} {a b c d : Int} (h1 : Fl x a) (h2 : Fl y b) (h3 : Fl z c) (h4 : Fl t d) (g1 : (a - c).natAbs < 2 ^ 53) (g2 : (b - d).natAbs < 2 ^ 53) :
    ∃ p q, cSumBits .sub .f64 x y z t = some (p, q) ∧ Fl p (a - c) ∧ Fl q (b - d) := by
  obtain ⟨p, hp, fp⟩ := h1.sub h3 g1
  obtain ⟨q, hq, fq⟩ := h2.sub h4 g2
  exact ⟨p, q, by simp [cSumBits, hp, hq], fp, fq⟩
theorem prod_bits {x y z t : Nat} {a b c d : Int} (h1 : Fl x a) (h2 : Fl y b) (h3 : Fl z c) (h4 : Fl t d) (g1 : (a * c).natAbs < 2 ^ 53) (g2 : (b * d).natAbs < 2 ^ 53) (g3 : (a * d).natAbs < 2 ^ 53) (g4 : (b * c).natAbs < 2 ^ 53)
    (g5 : (a * c - b * d).natAbs < 2 ^ 53) (g6 : (a * d + b * c).natAbs < 2 ^ 53) : ∃ p q, cMulBits x y z t = some (p, q) ∧ Fl p (a * c - b * d) ∧ Fl q (a * d + b * c) := by
  obtain ⟨u1, k1, f1⟩ := h1.mul h3 g1
  obtain ⟨u2, k2, f2⟩ := h2.mul h4 g2
  obtain ⟨u3, k3, f3⟩ := h1.mul h4 g3
  obtain ⟨u4, k4, f4⟩ := h2.mul h3 g4
  obtain ⟨p, k5, fp⟩ := f1.sub f2 g5
  obtain ⟨q, k6, fq⟩ := f3.add f4 g6
  exact ⟨p, q, by simp [cMulBits, k1, k2, k3, k4, k5, k6], fp, fq⟩
theorem Bcc_add (a b : Int) (c d : Int) (ha : P25 a) (hb : P25 b) (hc : P25 c) (hd : P25 d) (hr : P25 (a + c)) (hi : P25 (b + d)) (w : World) :
    Calls Tryz.prog 14 #[.int .i64 1, V 3 a b E0, V 3 c d E0] w fun e w' => e = .returned (.tuple #[V 3 (a + c) (b + d) E0, .int .i64 0]) ∧ G w w' := by
  obtain ⟨p, q, hpq, fp, fq⟩ := sum_bits (Fl.ofInt a ha.lt) (Fl.ofInt b hb.lt) (Fl.ofInt c hc.lt) (Fl.ofInt d hd.lt) hr.lt hi.lt
  exact Binary_of 1 _ _ _ _ _ _ _ _ _ _ _ 0 0 _ _ _ _ (by decide) (by decide) (item_cpx a b ha.1 ha.2 hb.1 hb.2) (item_cpx c d hc.1 hc.2 hd.1 hd.2)
    (binary_arith 1 (by decide) (by decide) _ _ _ _ (isNull_cpx (fl a) (fl b)) (isNull_cpx (fl c) (fl d)) (arith_cc 1 (fl a) (fl b) (fl c) (fl d) _ _ (ca_add (fl a) (fl b) (fl c) (fl d) p q _ _ hpq fp fq hr hi)))
    (answer_cpx p q _ _ fp fq hr.lt hi.lt) w
theorem Bcc_sub (a b : Int) (c d : Int) (ha : P25 a) (hb : P25 b) (hc : P25 c) (hd : P25 d) (hr : P25 (a - c)) (hi : P25 (b - d)) (w : World) :
    Calls Tryz.prog 14 #[.int .i64 2, V 3 a b E0, V 3 c d E0] w fun e w' => e = .returned (.tuple #[V 3 (a - c) (b - d) E0, .int .i64 0]) ∧ G w w' := by
  obtain ⟨p, q, hpq, fp, fq⟩ := diff_bits (Fl.ofInt a ha.lt) (Fl.ofInt b hb.lt) (Fl.ofInt c hc.lt) (Fl.ofInt d hd.lt) hr.lt hi.lt
  exact Binary_of 2 _ _ _ _ _ _ _ _ _ _ _ 0 0 _ _ _ _ (by decide) (by decide) (item_cpx a b ha.1 ha.2 hb.1 hb.2) (item_cpx c d hc.1 hc.2 hd.1 hd.2)
    (binary_arith 2 (by decide) (by decide) _ _ _ _ (isNull_cpx (fl a) (fl b)) (isNull_cpx (fl c) (fl d)) (arith_cc 2 (fl a) (fl b) (fl c) (fl d) _ _ (ca_sub (fl a) (fl b) (fl c) (fl d) p q _ _ hpq fp fq hr hi)))
    (answer_cpx p q _ _ fp fq hr.lt hi.lt) w
theorem Bcc_mul (a b : Int) (c d : Int) (ha : P25 a) (hb : P25 b) (hc : P25 c) (hd : P25 d) (hr : P25 (a * c - b * d)) (hi : P25 (a * d + b * c)) (w : World) :
    Calls Tryz.prog 14 #[.int .i64 3, V 3 a b E0, V 3 c d E0] w fun e w' => e = .returned (.tuple #[V 3 (a * c - b * d) (a * d + b * c) E0, .int .i64 0]) ∧ G w w' := by
  have m1 := ha.mul hc; have m2 := hb.mul hd; have m3 := ha.mul hd; have m4 := hb.mul hc
  obtain ⟨p, q, hpq, fp, fq⟩ := prod_bits (Fl.ofInt a ha.lt) (Fl.ofInt b hb.lt) (Fl.ofInt c hc.lt) (Fl.ofInt d hd.lt) (by omega) (by omega) (by omega) (by omega) (by omega) (by omega)
  exact Binary_of 3 _ _ _ _ _ _ _ _ _ _ _ 0 0 _ _ _ _ (by decide) (by decide) (item_cpx a b ha.1 ha.2 hb.1 hb.2) (item_cpx c d hc.1 hc.2 hd.1 hd.2)
    (binary_arith 3 (by decide) (by decide) _ _ _ _ (isNull_cpx (fl a) (fl b)) (isNull_cpx (fl c) (fl d)) (arith_cc 3 (fl a) (fl b) (fl c) (fl d) _ _ (ca_mul (fl a) (fl b) (fl c) (fl d) p q _ _ hpq fp fq hr hi)))
    (answer_cpx p q _ _ fp fq hr.lt hi.lt) w
theorem Bcw_mul (a b : Int) (c : Int) (ha : P25 a) (hb : P25 b) (hc : P25 c) (hr : P25 (a * c - b * 0)) (hi : P25 (a * 0 + b * c)) (w : World) :
    Calls Tryz.prog 14 #[.int .i64 3, V 3 a b E0, V 2 c 0 E0] w fun e w' => e = .returned (.tuple #[V 3 (a * c - b * 0) (a * 0 + b * c) E0, .int .i64 0]) ∧ G w w' := by
  have m1 := ha.mul hc; have m2 := hb.mul (show P25 0 from ⟨by decide, by decide⟩); have m3 := ha.mul (show P25 0 from ⟨by decide, by decide⟩); have m4 := hb.mul hc
  obtain ⟨p, q, hpq, fp, fq⟩ := prod_bits (Fl.ofInt a ha.lt) (Fl.ofInt b hb.lt) (Fl.ofInt c hc.lt) Fl.zero (by omega) (by omega) (by omega) (by omega) (by omega) (by omega)
  exact Binary_of 3 _ _ _ _ _ _ _ _ _ _ _ 0 0 _ _ _ _ (by decide) (by decide) (item_cpx a b ha.1 ha.2 hb.1 hb.2) (item_whole c)
    (binary_arith 3 (by decide) (by decide) _ _ _ _ (isNull_cpx (fl a) (fl b)) (isNull_whole c) (arith_cw 3 (fl a) (fl b) c hc _ _ (ca_mul (fl a) (fl b) (fl c) 0 p q _ _ hpq fp fq hr hi)))
    (answer_cpx p q _ _ fp fq hr.lt hi.lt) w
end Go.Proofs.YtnoajhegcjoebabGreatDoor
