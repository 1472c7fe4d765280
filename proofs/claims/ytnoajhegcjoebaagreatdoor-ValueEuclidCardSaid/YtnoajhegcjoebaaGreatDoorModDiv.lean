/- Division of complex numbers, with a rest and without. -/
import Derived.Test.YtnoajhegcjoebaaGreatDoorFlFloor
import Derived.Test.YtnoajhegcjoebaaGreatDoorArithC
namespace Go.Proofs.YtnoajhegcjoebaaGreatDoor
open Go.RowKit

theorem norm_out (x y : Nat) (a b : Int) (hx : Fl x a) (hy : Fl y b) (ha : (a * a).natAbs < 2 ^ 53) (hb : (b * b).natAbs < 2 ^ 53) (hs : (a * a + b * b).natAbs < 2 ^ 53) :
    ∃ r, Fl r (a * a + b * b) ∧ ∀ w, Calls Tryz.prog 88 #[.complex .f64 x y] w fun e w' => e = .returned (.float .f64 r) ∧ w' = w := by
  obtain ⟨p, hp, fp⟩ := hx.mul hx ha
  obtain ⟨q, hq, fq⟩ := hy.mul hy hb
  obtain ⟨r, hr, fr⟩ := fp.add fq hs
  refine ⟨r, fr, fun w => ?_⟩
  have e1 := fun w => run_float_arith (P := Tryz.prog) w .mul 78 .f64 x x p hp
  have e2 := fun w => run_float_arith (P := Tryz.prog) w .mul 78 .f64 y y q hq
  have e3 := fun w => run_float_arith (P := Tryz.prog) w .add 78 .f64 p q r hr
  clear hp hq hr fp fq fr ha hb hs hx hy
  go_enter Tryz.func88, Tryz.ntmps88
  go_wp2
  go_ret
  exact ⟨rfl, rfl⟩
theorem zero_no {z t : Nat} {c d : Int} (hz : Fl z c) (ht : Fl t d) (h : c ≠ 0 ∨ d ≠ 0) : ((FloatKind.f64.format.order z 0 == some .eq) && (FloatKind.f64.format.order t 0 == some .eq)) = false := by
  have e1 : FloatKind.f64.format.order z 0 = some (compare c 0) := hz.order Fl.zero
  have e2 : FloatKind.f64.format.order t 0 = some (compare d 0) := ht.order Fl.zero
  rw [e1, e2]
  have k : ∀ n : Int, n ≠ 0 → (some (compare n 0) == some Ordering.eq) = false := fun n hn => by
    simp only [compare, compareOfLessAndEq]
    by_cases c : n < 0
    · simp [c]
    · simp [c, hn]
  rcases h with h | h
  · rw [k c h]; rfl
  · rw [k d h, Bool.and_false]
theorem zero_yes {z t : Nat} (hz : Fl z 0) (ht : Fl t 0) : ((FloatKind.f64.format.order z 0 == some .eq) && (FloatKind.f64.format.order t 0 == some .eq)) = true := by
  have e1 : FloatKind.f64.format.order z 0 = some (compare (0 : Int) 0) := hz.order Fl.zero
  have e2 : FloatKind.f64.format.order t 0 = some (compare (0 : Int) 0) := ht.order Fl.zero
  rw [e1, e2]
  rfl

set_option maxRecDepth 100000 in
set_option maxHeartbeats 400000 in
theorem ca_zero (op : Int) (ho : op = 4 ∨ op = 5) (x y z t : Nat) (hz : Fl z 0) (ht : Fl t 0) (w : World) :
    Calls Tryz.prog 76 #[.int .i64 op, .complex .f64 x y, .complex .f64 z t] w fun e w' => e = .returned (.tuple #[.nilIface, .int .i64 12]) ∧ G w w' := by
  have e0 := zero_yes hz ht
  have n1 : (op == 1) = false := by simp; omega
  have n2 : (op == 2) = false := by simp; omega
  have n3 : (op == 3) = false := by simp; omega
  clear hz ht ho
  go_enter Tryz.func76, Tryz.ntmps76
  go_wp2
  go_ret2
  exact ⟨rfl, G.refl _⟩

set_option maxRecDepth 100000 in
set_option maxHeartbeats 1000000 in
theorem ca_div (x y z t : Nat) (a b c d p q : Int) (hx : Fl x a) (hy : Fl y b) (hz : Fl z c) (ht : Fl t d) (ha : P25 a) (hb : P25 b) (hc : P25 c) (hd : P25 d) (hnz : c ≠ 0 ∨ d ≠ 0) (hD : 0 < c * c + d * d)
    (hb1 : (a * c - b * -d).natAbs + (c * c + d * d).natAbs ≤ 4503599627370496) (hb2 : (a * -d + b * c).natAbs + (c * c + d * d).natAbs ≤ 4503599627370496)
    (hp : a * c - b * -d = p * (c * c + d * d)) (hq : a * -d + b * c = q * (c * c + d * d)) (Pp : P25 p) (Pq : P25 q) :
    ∃ u v, Fl u p ∧ Fl v q ∧ ∀ w, Calls Tryz.prog 76 #[.int .i64 4, .complex .f64 x y, .complex .f64 z t] w fun e w' => e = .returned (.tuple #[IC u v, .int .i64 0]) ∧ G w w' := by
  have nd : P25 (-d) := by obtain ⟨h1, h2⟩ := hd; constructor <;> omega
  have m1 := ha.mul hc; have m2 := hb.mul nd; have m3 := ha.mul nd; have m4 := hb.mul hc; have m5 := hc.mul hc; have m6 := hd.mul hd
  obtain ⟨g, h, kc, fg, fh⟩ := prod_bits hx hy hz ht.neg (by omega) (by omega) (by omega) (by omega) (by omega) (by omega)
  obtain ⟨r, fr, HN⟩ := norm_out z t c d hz ht (by omega) (by omega) (by omega)
  obtain ⟨u, s1, M1, P1, ku, hu, rdu, hsu, Qu⟩ := fg.quo fr hD hb1
  obtain ⟨v, s2, M2, P2, kv, hv, rdv, hsv, Qv⟩ := fh.quo fr hD hb2
  have fu := Fl.quo_exact hu rdu hsu Qu hD hp
  have fv := Fl.quo_exact hv rdv hsv Qv hD hq
  refine ⟨u, v, fu, fv, fun w => ?_⟩
  have e0 := zero_no hz ht hnz
  have e1 := fun w => run_complex_mul (P := Tryz.prog) w 76 x y z (Op.negFloat .f64 t) g h kc
  have e2 := fun w => run_float_arith (P := Tryz.prog) w .quo 78 .f64 g r u ku
  have e3 := fun w => run_float_arith (P := Tryz.prog) w .quo 78 .f64 h r v kv
  have HF : Hid (∀ w, Calls Tryz.prog 86 #[.complex .f64 u v] w fun e w' => e = .returned (.tuple #[IC u v, .int .i64 0]) ∧ w' = w) := fun w => fit_ok u v p q fu fv Pp.abs Pq.abs w
  have HN' : Hid _ := HN
  clear HN hx hy hz ht ha hb hc hd hnz hD hb1 hb2 hp hq Pp Pq nd m1 m2 m3 m4 m5 m6 kc fg fh fr ku hu rdu hsu Qu kv hv rdv hsv Qv fu fv
  go_enter Tryz.func76, Tryz.ntmps76
  go_wp2_with fail
  refine (conj_any z t _).mono ?_
  rintro e w1 ⟨rfl, rfl⟩
  go_wp2_with fail
  refine (HN'.out _).mono ?_
  rintro e w1 ⟨rfl, rfl⟩
  go_wp2_with fail
  refine (HF.out _).mono ?_
  rintro e w1 ⟨rfl, rfl⟩
  go_wp2
  go_ret2
  exact ⟨rfl, G.refl _⟩

set_option maxRecDepth 100000 in
set_option maxHeartbeats 1000000 in
theorem ca_mod (x y z t : Nat) (a b c d p q : Int) (hx : Fl x a) (hy : Fl y b) (hz : Fl z c) (ht : Fl t d) (ha : P25 a) (hb : P25 b) (hc : P25 c) (hd : P25 d) (hnz : c ≠ 0 ∨ d ≠ 0) (hD : 0 < c * c + d * d)
    (hb1 : 2 * (a * c - b * -d).natAbs + 3 * (c * c + d * d).natAbs ≤ 4503599627370496) (hb2 : 2 * (a * -d + b * c).natAbs + 3 * (c * c + d * d).natAbs ≤ 4503599627370496)
    (hp1 : p * (2 * (c * c + d * d)) ≤ 2 * (a * c - b * -d) + (c * c + d * d)) (hp2 : 2 * (a * c - b * -d) + (c * c + d * d) < (p + 1) * (2 * (c * c + d * d)))
    (hq1 : q * (2 * (c * c + d * d)) ≤ 2 * (a * -d + b * c) + (c * c + d * d)) (hq2 : 2 * (a * -d + b * c) + (c * c + d * d) < (q + 1) * (2 * (c * c + d * d)))
    (Pp : P25 p) (Pq : P25 q) (Pr : P25 (a - (c * p - d * q))) (Ps : P25 (b - (c * q + d * p))) :
    ∃ u v, Fl u (a - (c * p - d * q)) ∧ Fl v (b - (c * q + d * p)) ∧ ∀ w, Calls Tryz.prog 76 #[.int .i64 5, .complex .f64 x y, .complex .f64 z t] w fun e w' => e = .returned (.tuple #[IC u v, .int .i64 0]) ∧ G w w' := by
  have nd : P25 (-d) := by obtain ⟨h1, h2⟩ := hd; constructor <;> omega
  have m1 := ha.mul hc; have m2 := hb.mul nd; have m3 := ha.mul nd; have m4 := hb.mul hc; have m5 := hc.mul hc; have m6 := hd.mul hd
  have m7 := hc.mul Pp; have m8 := hd.mul Pq; have m9 := hc.mul Pq; have m10 := hd.mul Pp
  obtain ⟨g, h, kc, fg, fh⟩ := prod_bits hx hy hz ht.neg (by omega) (by omega) (by omega) (by omega) (by omega) (by omega)
  obtain ⟨r, fr, HN⟩ := norm_out z t c d hz ht (by omega) (by omega) (by omega)
  obtain ⟨k, fk, HK⟩ := nearest_fl g r _ _ p fg fr hD hb1 hp1 hp2 Pp.lt
  obtain ⟨l, fl', HL⟩ := nearest_fl h r _ _ q fh fr hD hb2 hq1 hq2 Pq.lt
  obtain ⟨i, j, kj, fi, fj⟩ := prod_bits hz ht fk fl' (by omega) (by omega) (by omega) (by omega) (by omega) (by omega)
  obtain ⟨u, v, ku, fu, fv⟩ := diff_bits hx hy fi fj Pr.lt Ps.lt
  refine ⟨u, v, fu, fv, fun w => ?_⟩
  have e0 := zero_no hz ht hnz
  have e1 := fun w => run_complex_mul (P := Tryz.prog) w 76 x y z (Op.negFloat .f64 t) g h kc
  have e2 := fun w => run_complex_mul (P := Tryz.prog) w 76 z t k l i j kj
  have e3 := fun w => run_complex_sum (P := Tryz.prog) w .sub (.inr rfl) 76 .f64 x y i j u v ku
  have HF : Hid (∀ w, Calls Tryz.prog 86 #[.complex .f64 u v] w fun e w' => e = .returned (.tuple #[IC u v, .int .i64 0]) ∧ w' = w) := fun w => fit_ok u v _ _ fu fv Pr.abs Ps.abs w
  have HN' : Hid _ := HN; have HK' : Hid _ := HK; have HL' : Hid _ := HL
  clear HN HK HL hx hy hz ht ha hb hc hd hnz hD hb1 hb2 hp1 hp2 hq1 hq2 Pp Pq Pr Ps nd m1 m2 m3 m4 m5 m6 m7 m8 m9 m10 kc fg fh fr fk fl' kj fi fj ku fu fv
  go_enter Tryz.func76, Tryz.ntmps76
  go_wp2_with fail
  refine (conj_any z t _).mono ?_
  rintro e w1 ⟨rfl, rfl⟩
  go_wp2_with fail
  refine (HN'.out _).mono ?_
  rintro e w1 ⟨rfl, rfl⟩
  go_wp2_with fail
  refine (HK'.out _).mono ?_
  rintro e w1 ⟨rfl, rfl⟩
  go_wp2_with fail
  refine (HL'.out _).mono ?_
  rintro e w1 ⟨rfl, rfl⟩
  go_wp2_with fail
  refine (HF.out _).mono ?_
  rintro e w1 ⟨rfl, rfl⟩
  go_wp2
  go_ret2
  exact ⟨rfl, G.refl _⟩

/-- Binary on two complex numbers, out of complexArithmetic's answer. -/
theorem Bcc_of (op : Int) (ho : 1 ≤ op) (ho' : op ≤ 5) (a b c d p q : Int) (ha : P25 a) (hb : P25 b) (hc : P25 c) (hd : P25 d) (Pp : P25 p) (Pq : P25 q)
    (h : ∃ u v, Fl u p ∧ Fl v q ∧ ∀ w, Calls Tryz.prog 76 #[.int .i64 op, .complex .f64 (fl a) (fl b), .complex .f64 (fl c) (fl d)] w fun e w' => e = .returned (.tuple #[IC u v, .int .i64 0]) ∧ G w w') (w : World) :
    Calls Tryz.prog 14 #[.int .i64 op, V 3 a b E0, V 3 c d E0] w fun e w' => e = .returned (.tuple #[V 3 p q E0, .int .i64 0]) ∧ G w w' := by
  obtain ⟨u, v, fu, fv, hc'⟩ := h
  exact Binary_of op _ _ _ _ _ _ _ _ _ _ _ 0 0 _ _ _ _ ho (by omega) (item_cpx a b ha.1 ha.2 hb.1 hb.2) (item_cpx c d hc.1 hc.2 hd.1 hd.2)
    (binary_arith op ho ho' _ _ _ _ (isNull_cpx (fl a) (fl b)) (isNull_cpx (fl c) (fl d)) (arith_cc op (fl a) (fl b) (fl c) (fl d) _ _ hc')) (answer_cpx u v _ _ fu fv Pp.lt Pq.lt) w
theorem Bcc_zero (op : Int) (ho : op = 4 ∨ op = 5) (a b : Int) (ha : P25 a) (hb : P25 b) (w : World) :
    Calls Tryz.prog 14 #[.int .i64 op, V 3 a b E0, V 3 0 0 E0] w fun e w' => e = .returned (.tuple #[V 0 0 0 E0, .int .i64 12]) ∧ G w w' := by
  have z : P25 0 := ⟨by decide, by decide⟩
  exact Binary_of op _ _ _ _ _ _ _ _ _ _ _ 12 12 _ _ _ _ (by omega) (by omega) (item_cpx a b ha.1 ha.2 hb.1 hb.2) (item_cpx 0 0 z.1 z.2 z.1 z.2)
    (binary_arith op (by omega) (by omega) _ _ _ _ (isNull_cpx (fl a) (fl b)) (isNull_cpx (fl 0) (fl 0)) (arith_cc op (fl a) (fl b) (fl 0) (fl 0) _ _ (ca_zero op ho _ _ _ _ (Fl.ofInt 0 (by decide)) (Fl.ofInt 0 (by decide))))) (answer_err _ 12 (by decide)) w
end Go.Proofs.YtnoajhegcjoebaaGreatDoor
