/- Numbers: both answers of arithmetic, and what the answer is as an item. -/
import Derived.Test.YtnoajhegcjoebabGreatDoorBinAg2
namespace Go.Proofs.YtnoajhegcjoebabGreatDoor
open Go.RowKit Go.Lib Go.Shelf

/-- x is a number's item: of the value V k a b s. -/
def Nmb (x : Value) (k a b : Int) (s : ByteArray) : Prop := (k = 2 ∧ b = 0 ∧ s = E0 ∧ I64 a ∧ x = IW a) ∨ (k = 3 ∧ s = E0 ∧ P25 a ∧ P25 b ∧ ∃ u v, x = IC u v ∧ Fl u a ∧ Fl v b)
/-- An answer: a number's item, or an error. -/
def NumR (rv : Value) (c k a b : Int) (s : ByteArray) : Prop := (c = 0 ∧ Nmb rv k a b s) ∨ ((c = 0) = False ∧ k = 0 ∧ a = 0 ∧ b = 0 ∧ s = E0)
theorem numr_3 {u v : Nat} {a b : Int} (fu : Fl u a) (fv : Fl v b) (ha : P25 a) (hb : P25 b) : NumR (IC u v) 0 3 a b E0 := .inl ⟨rfl, .inr ⟨rfl, rfl, ha, hb, u, v, rfl, fu, fv⟩⟩
theorem numr_2 {a : Int} (ha : I64 a) : NumR (IW a) 0 2 a 0 E0 := .inl ⟨rfl, .inl ⟨rfl, rfl, rfl, ha, rfl⟩⟩
theorem numr_e {rv : Value} {c : Int} (h : (c = 0) = False) : NumR rv c 0 0 0 E0 := .inr ⟨h, rfl, rfl, rfl, rfl⟩
def CxN (op : Int) (x y z t : Nat) (a b c d : Int) : Prop := ∃ (rv : Value) (cd k3 a3 b3 : Int) (s3 : ByteArray), (∀ w, Calls Tryz.prog 158 #[.int .i64 op, .complex .f64 x y, .complex .f64 z t] w fun e w' => e = .returned (.tuple #[rv, .int .i64 cd]) ∧ G w w') ∧
  NumR rv cd k3 a3 b3 s3 ∧ (∀ w, Calls Tryz.prog 89 #[.int .i64 op, .int .i64 a, .int .i64 b, .int .i64 c, .int .i64 d] w fun e w' => e = .returned (.tuple #[V k3 a3 b3 s3, .int .i64 cd]) ∧ G w w')
def WwN (op a a' : Int) : Prop := ∃ (rv : Value) (c rk ra rb : Int) (rs : ByteArray), (∀ w, Calls Tryz.prog 122 #[.int .i64 op, .int .i64 a, .int .i64 a'] w fun e w' => e = .returned (.tuple #[rv, .int .i64 c]) ∧ G w w') ∧
  NumR rv c rk ra rb rs ∧ (∀ w, Calls Tryz.prog 88 #[.int .i64 op, .int .i64 a, .int .i64 a'] w fun e w' => e = .returned (.tuple #[V rk ra rb rs, .int .i64 c]) ∧ G w w')
set_option maxHeartbeats 1000000 in
theorem cxn_add {x y z t : Nat} {a b c d : Int} (hx : Fl x a) (hy : Fl y b) (hz : Fl z c) (ht : Fl t d) (ha : P25 a) (hb : P25 b) (hc : P25 c) (hd : P25 d) : CxN 1 x y z t a b c d := by
  have m1 := ha.mul hc; have m2 := hb.mul hd; have m3 := ha.mul hd; have m4 := hb.mul hc; have m5 := hc.mul hc; have m6 := hd.mul hd
  have a1 := ha.abs; have b1 := hb.abs; have c1 := hc.abs; have d1 := hd.abs
  obtain ⟨B1, B2, B3, B4, B5, B6, B7, B8, B9⟩ := base_w ha hb hc hd
  obtain ⟨p, q, kc, fp, fq⟩ := sum_bits hx hy hz ht (by omega) (by omega)
  have f1 : wrap64 (a + c) = a + c := wr (by omega)
  have f2 : wrap64 (b + d) = b + d := wr (by omega)
  by_cases h1 : P25 (a + c)
  · by_cases h2 : P25 (b + d)
    · exact ⟨_, 0, _, _, _, _, ca_add x y z t p q _ _ kc fp fq h1 h2, numr_3 fp fq h1 h2, rcx_1_ok a b c d _ _ _ _ _ _ _ _ _ B1 B2 B3 B4 B5 B6 B7 B8 B9 _ _ f1 f2 (part_q _ _ (part_yes h1)) (part_q _ _ (part_yes h2))⟩
    · exact ⟨_, 11, _, _, _, _, ca_add_no x y z t p q _ _ kc fp fq (fun h => h2 h.2), numr_e (by decide), rcx_1_r2 a b c d _ _ _ _ _ _ _ _ _ B1 B2 B3 B4 B5 B6 B7 B8 B9 _ _ f1 f2 (part_q _ _ (part_yes h1)) (part_q _ _ (part_no h2))⟩
  · exact ⟨_, 11, _, _, _, _, ca_add_no x y z t p q _ _ kc fp fq (fun h => h1 h.1), numr_e (by decide), rcx_1_r1 a b c d _ _ _ _ _ _ _ _ _ B1 B2 B3 B4 B5 B6 B7 B8 B9 _ _ f1 f2 (part_q _ _ (part_no h1))⟩
set_option maxHeartbeats 1000000 in
theorem cxn_sub {x y z t : Nat} {a b c d : Int} (hx : Fl x a) (hy : Fl y b) (hz : Fl z c) (ht : Fl t d) (ha : P25 a) (hb : P25 b) (hc : P25 c) (hd : P25 d) : CxN 2 x y z t a b c d := by
  have m1 := ha.mul hc; have m2 := hb.mul hd; have m3 := ha.mul hd; have m4 := hb.mul hc; have m5 := hc.mul hc; have m6 := hd.mul hd
  have a1 := ha.abs; have b1 := hb.abs; have c1 := hc.abs; have d1 := hd.abs
  obtain ⟨B1, B2, B3, B4, B5, B6, B7, B8, B9⟩ := base_w ha hb hc hd
  obtain ⟨p, q, kc, fp, fq⟩ := diff_bits hx hy hz ht (by omega) (by omega)
  have f1 : wrap64 (a - c) = a - c := wr (by omega)
  have f2 : wrap64 (b - d) = b - d := wr (by omega)
  by_cases h1 : P25 (a - c)
  · by_cases h2 : P25 (b - d)
    · exact ⟨_, 0, _, _, _, _, ca_sub x y z t p q _ _ kc fp fq h1 h2, numr_3 fp fq h1 h2, rcx_2_ok a b c d _ _ _ _ _ _ _ _ _ B1 B2 B3 B4 B5 B6 B7 B8 B9 _ _ f1 f2 (part_q _ _ (part_yes h1)) (part_q _ _ (part_yes h2))⟩
    · exact ⟨_, 11, _, _, _, _, ca_sub_no x y z t p q _ _ kc fp fq (fun h => h2 h.2), numr_e (by decide), rcx_2_r2 a b c d _ _ _ _ _ _ _ _ _ B1 B2 B3 B4 B5 B6 B7 B8 B9 _ _ f1 f2 (part_q _ _ (part_yes h1)) (part_q _ _ (part_no h2))⟩
  · exact ⟨_, 11, _, _, _, _, ca_sub_no x y z t p q _ _ kc fp fq (fun h => h1 h.1), numr_e (by decide), rcx_2_r1 a b c d _ _ _ _ _ _ _ _ _ B1 B2 B3 B4 B5 B6 B7 B8 B9 _ _ f1 f2 (part_q _ _ (part_no h1))⟩
set_option maxHeartbeats 1000000 in
theorem cxn_mul {x y z t : Nat} {a b c d : Int} (hx : Fl x a) (hy : Fl y b) (hz : Fl z c) (ht : Fl t d) (ha : P25 a) (hb : P25 b) (hc : P25 c) (hd : P25 d) : CxN 3 x y z t a b c d := by
  have m1 := ha.mul hc; have m2 := hb.mul hd; have m3 := ha.mul hd; have m4 := hb.mul hc; have m5 := hc.mul hc; have m6 := hd.mul hd
  have a1 := ha.abs; have b1 := hb.abs; have c1 := hc.abs; have d1 := hd.abs
  obtain ⟨B1, B2, B3, B4, B5, B6, B7, B8, B9⟩ := base_w ha hb hc hd
  obtain ⟨p, q, kc, fp, fq⟩ := prod_bits hx hy hz ht (by omega) (by omega) (by omega) (by omega) (by omega) (by omega)
  have f1 : wrap64 (a * c - b * d) = a * c - b * d := wr (by omega)
  have f2 : wrap64 (a * d + b * c) = a * d + b * c := wr (by omega)
  by_cases h1 : P25 (a * c - b * d)
  · by_cases h2 : P25 (a * d + b * c)
    · exact ⟨_, 0, _, _, _, _, ca_mul x y z t p q _ _ kc fp fq h1 h2, numr_3 fp fq h1 h2, rcx_3_ok a b c d _ _ _ _ _ _ _ _ _ B1 B2 B3 B4 B5 B6 B7 B8 B9 _ _ f1 f2 (part_q _ _ (part_yes h1)) (part_q _ _ (part_yes h2))⟩
    · exact ⟨_, 11, _, _, _, _, ca_mul_no x y z t p q _ _ kc fp fq (fun h => h2 h.2), numr_e (by decide), rcx_3_r2 a b c d _ _ _ _ _ _ _ _ _ B1 B2 B3 B4 B5 B6 B7 B8 B9 _ _ f1 f2 (part_q _ _ (part_yes h1)) (part_q _ _ (part_no h2))⟩
  · exact ⟨_, 11, _, _, _, _, ca_mul_no x y z t p q _ _ kc fp fq (fun h => h1 h.1), numr_e (by decide), rcx_3_r1 a b c d _ _ _ _ _ _ _ _ _ B1 B2 B3 B4 B5 B6 B7 B8 B9 _ _ f1 f2 (part_q _ _ (part_no h1))⟩
set_option maxHeartbeats 1000000 in
theorem cxn_zero {x y z t : Nat} {a b c d : Int} (hz : Fl z c) (ht : Fl t d) (ha : P25 a) (hb : P25 b) (hc : P25 c) (hd : P25 d) (op : Int) (ho : op = 4 ∨ op = 5) (h : c = 0 ∧ d = 0) : CxN op x y z t a b c d := by
  have m1 := ha.mul hc; have m2 := hb.mul hd; have m3 := ha.mul hd; have m4 := hb.mul hc; have m5 := hc.mul hc; have m6 := hd.mul hd
  have a1 := ha.abs; have b1 := hb.abs; have c1 := hc.abs; have d1 := hd.abs
  obtain ⟨B1, B2, B3, B4, B5, B6, B7, B8, B9⟩ := base_w ha hb hc hd
  have z1 : Fl z 0 := h.1 ▸ hz
  have z2 : Fl t 0 := h.2 ▸ ht
  have z3 : c * c + d * d = 0 := by rw [h.1, h.2]; rfl
  rcases ho with rfl | rfl
  · exact ⟨_, 12, _, _, _, _, ca_zero 4 (.inl rfl) x y z t z1 z2, numr_e (by decide), rcx_4_z a b c d _ _ _ _ _ _ _ _ _ B1 B2 B3 B4 B5 B6 B7 B8 B9 z3⟩
  · exact ⟨_, 12, _, _, _, _, ca_zero 5 (.inr rfl) x y z t z1 z2, numr_e (by decide), rcx_5_z a b c d _ _ _ _ _ _ _ _ _ B1 B2 B3 B4 B5 B6 B7 B8 B9 z3⟩
set_option maxHeartbeats 1000000 in
theorem cxn_div {x y z t : Nat} {a b c d : Int} (hx : Fl x a) (hy : Fl y b) (hz : Fl z c) (ht : Fl t d) (ha : P25 a) (hb : P25 b) (hc : P25 c) (hd : P25 d) : CxN 4 x y z t a b c d := by
  by_cases h0 : c = 0 ∧ d = 0
  · exact cxn_zero (x := x) (y := y) hz ht ha hb hc hd 4 (.inl rfl) h0
  have hnz : c ≠ 0 ∨ d ≠ 0 := by omega
  have hN := norm_pos hnz
  have m1 := ha.mul hc; have m2 := hb.mul hd; have m3 := ha.mul hd; have m4 := hb.mul hc; have m5 := hc.mul hc; have m6 := hd.mul hd
  have a1 := ha.abs; have b1 := hb.abs; have c1 := hc.abs; have d1 := hd.abs
  obtain ⟨B1, B2, B3, B4, B5, B6, B7, B8, B9⟩ := base_w ha hb hc hd
  have e1 : a * c - b * -d = a * c + b * d := by rw [Int.mul_neg]; omega
  have e2 : a * -d + b * c = b * c - a * d := by rw [Int.mul_neg]; omega
  have zN : ((c * c + d * d) == 0) = false := by simp; omega
  have nN : ¬ c * c + d * d = 0 := by omega
  have tm : ∀ n : Int, (¬ ∃ p, n = p * (c * c + d * d)) → n.tmod (c * c + d * d) ≠ 0 := fun n h e => h ⟨n.tdiv (c * c + d * d), by
    have := Int.tmod_add_mul_tdiv n (c * c + d * d)
    rw [e, Int.zero_add, Int.mul_comm] at this
    exact this.symm⟩
  rcases ca_div x y z t a b c d hx hy hz ht ha hb hc hd hnz with ⟨p, q, u, v, hp, hq, Pp, Pq, fu, fv, hcall⟩ | ⟨hno, hcall⟩
  · rw [e1] at hp
    rw [e2] at hq
    have p1 := Pp.abs; have q1 := Pq.abs
    refine ⟨_, 0, _, _, _, _, hcall, numr_3 fu fv Pp Pq, rcx_4_ok a b c d _ _ _ _ _ _ _ _ _ B1 B2 B3 B4 B5 B6 B7 B8 B9 zN nN p q ?_ ?_ ?_ ?_ (part_q _ _ (part_yes Pp)) (part_q _ _ (part_yes Pq))⟩
    · rw [hp]; exact Int.mul_tmod_left _ _
    · rw [hq]; exact Int.mul_tmod_left _ _
    · rw [hp, Int.mul_tdiv_cancel _ nN]; exact wr (by omega)
    · rw [hq, Int.mul_tdiv_cancel _ nN]; exact wr (by omega)
  · rw [e1, e2] at hno
    by_cases hX : ∃ p, a * c + b * d = p * (c * c + d * d)
    · have hY : ¬ ∃ q, b * c - a * d = q * (c * c + d * d) := by
        rcases hno with h | h
        · exact absurd hX h
        · exact h
      obtain ⟨p, hp⟩ := hX
      exact ⟨_, 13, _, _, _, _, hcall, numr_e (by decide), rcx_4_i2 a b c d _ _ _ _ _ _ _ _ _ B1 B2 B3 B4 B5 B6 B7 B8 B9 zN nN _ (by rw [hp]; exact Int.mul_tmod_left _ _) rfl (by simpa using tm _ hY)⟩
    · exact ⟨_, 13, _, _, _, _, hcall, numr_e (by decide), rcx_4_i1 a b c d _ _ _ _ _ _ _ _ _ B1 B2 B3 B4 B5 B6 B7 B8 B9 zN nN _ rfl (by simpa using tm _ hX)⟩
set_option maxHeartbeats 1000000 in
theorem cxn_mod {x y z t : Nat} {a b c d : Int} (hx : Fl x a) (hy : Fl y b) (hz : Fl z c) (ht : Fl t d) (ha : P25 a) (hb : P25 b) (hc : P25 c) (hd : P25 d) : CxN 5 x y z t a b c d := by
  by_cases h0 : c = 0 ∧ d = 0
  · exact cxn_zero (x := x) (y := y) hz ht ha hb hc hd 5 (.inr rfl) h0
  have hnz : c ≠ 0 ∨ d ≠ 0 := by omega
  have hN := norm_pos hnz
  obtain ⟨B1, B2, B3, B4, B5, B6, B7, B8, B9⟩ := base_w ha hb hc hd
  have e1 : a * c - b * -d = a * c + b * d := by rw [Int.mul_neg]; omega
  have e2 : a * -d + b * c = b * c - a * d := by rw [Int.mul_neg]; omega
  have zN : ((c * c + d * d) == 0) = false := by simp; omega
  have nN : ¬ c * c + d * d = 0 := by omega
  obtain ⟨p, q, u, v, hp, hq, Pp, Pq, Pr, Ps, fu, fv, hcall⟩ := ca_mod x y z t a b c d hx hy hz ht ha hb hc hd hnz
  rw [e1] at hp
  rw [e2] at hq
  have c1' : c * p = p * c := Int.mul_comm _ _
  have c2' : d * q = q * d := Int.mul_comm _ _
  have c3' : c * q = q * c := Int.mul_comm _ _
  have c4' : d * p = p * d := Int.mul_comm _ _
  rw [c1', c2'] at Pr fu
  rw [c3', c4'] at Ps fv
  have cs : q * c + p * d = p * d + q * c := Int.add_comm _ _
  rw [cs] at Ps fv
  obtain ⟨x1, x2, x3⟩ := xy_b ha hb hc hd
  have k1 := rfloor (2 * (a * c + b * d) + (c * c + d * d)) (2 * (c * c + d * d)) (by omega) (fl_b x1 x3).1 (fl_b x1 x3).2
  have k2 := rfloor (2 * (b * c - a * d) + (c * c + d * d)) (2 * (c * c + d * d)) (by omega) (fl_b x2 x3).1 (fl_b x2 x3).2
  rw [← hp] at k1
  rw [← hq] at k2
  obtain ⟨w1, w2, w3, w4, w5, w6, w7, w8, w9, w10, w11, w12, w13⟩ := w_13 (a * c + b * d) (b * c - a * d) (c * c + d * d) (p * c) (q * d) (p * d) (q * c) a b x1 x2 x3 (Pp.mul hc) (Pq.mul hd) (Pp.mul hd) (Pq.mul hc) ha.abs hb.abs
  exact ⟨_, 0, _, _, _, _, hcall, numr_3 fu fv Pr Ps, rcx_5_ok a b c d _ _ _ _ _ _ _ _ _ B1 B2 B3 B4 B5 B6 B7 B8 B9 zN nN _ _ _ _ _ p q _ _ _ _ _ _ _ _ w1 w2 w3 w4 w5 w6 w7 w8 w9 w10 w11 w12 w13 k1 k2 (part_q _ _ (part_yes Pr)) (part_q _ _ (part_yes Ps))⟩
set_option maxHeartbeats 1000000 in
theorem cxn_any {x y z t : Nat} {a b c d : Int} (hx : Fl x a) (hy : Fl y b) (hz : Fl z c) (ht : Fl t d) (ha : P25 a) (hb : P25 b) (hc : P25 c) (hd : P25 d) (op : Int) (h1 : 1 ≤ op) (h5 : op ≤ 5) : CxN op x y z t a b c d := by
  have : op = 1 ∨ op = 2 ∨ op = 3 ∨ op = 4 ∨ op = 5 := by omega
  rcases this with rfl | rfl | rfl | rfl | rfl
  · exact cxn_add hx hy hz ht ha hb hc hd
  · exact cxn_sub hx hy hz ht ha hb hc hd
  · exact cxn_mul hx hy hz ht ha hb hc hd
  · exact cxn_div hx hy hz ht ha hb hc hd
  · exact cxn_mod hx hy hz ht ha hb hc hd
theorem wwn_1 (a b : Int) (ha : I64 a) (hb : I64 b) : WwN 1 a b := by
  by_cases h : I64 (a + b)
  · exact ⟨_, 0, _, _, _, _, wa_add a b h, numr_2 h, rin_add a b ha hb h⟩
  · exact ⟨_, 11, _, _, _, _, wa_add_no a b ha hb h, numr_e (by decide), rin_add_no a b ha hb h⟩
theorem wwn_2 (a b : Int) (ha : I64 a) (hb : I64 b) : WwN 2 a b := by
  by_cases hm : b = -9223372036854775808
  · subst hm
    by_cases h : a < 0
    · have h64 : I64 (a - -9223372036854775808) := by obtain ⟨h1, h2⟩ := ha; constructor <;> omega
      have := rin_sub_m a ha h
      rw [show a + 9223372036854775808 = a - -9223372036854775808 by omega] at this
      exact ⟨_, 0, _, _, _, _, wa_sub a _ h64, numr_2 h64, this⟩
    · have h64 : ¬ I64 (a - -9223372036854775808) := by unfold I64; omega
      exact ⟨_, 11, _, _, _, _, wa_sub_no a _ ha hb h64, numr_e (by decide), rin_sub_mno a h⟩
  · by_cases h : I64 (a - b)
    · exact ⟨_, 0, _, _, _, _, wa_sub a b h, numr_2 h, rin_sub a b ha hb (beq_false_of_ne hm) h⟩
    · exact ⟨_, 11, _, _, _, _, wa_sub_no a b ha hb h, numr_e (by decide), rin_sub_no a b ha hb (beq_false_of_ne hm) h⟩
theorem wwn_3 (a b : Int) (ha : I64 a) (hb : I64 b) : WwN 3 a b := by
  by_cases h : I64 (a * b)
  · exact ⟨_, 0, _, _, _, _, wa_mul a b h hb, numr_2 h, rin_mul a b ha hb h⟩
  · exact ⟨_, 11, _, _, _, _, wa_mul_no a b ha hb h, numr_e (by decide), rin_mul_no a b ha hb h⟩
theorem wwn_4 (a b : Int) (ha : I64 a) : WwN 4 a b := by
  by_cases h0 : b = 0
  · subst h0
    exact ⟨_, 12, _, _, _, _, wa_zero 4 a (.inl rfl), numr_e (by decide), rin_zero4 a⟩
  · by_cases h1 : b = -1
    · subst h1
      by_cases hm : a = -9223372036854775808
      · subst hm
        exact ⟨_, 11, _, _, _, _, wa_div _ _ _ _ rfl divWhole_range, numr_e (by decide), rin_div_mno⟩
      · have e : a.tdiv (-1) = -a := by rw [Int.tdiv_neg, Int.tdiv_one]
        have hw : wrap64 (a.tdiv (-1)) = -a := by rw [e]; obtain ⟨h1, h2⟩ := ha; unfold wrap64; omega
        exact ⟨_, 0, _, _, _, _, wa_div _ _ _ _ rfl (divWhole_ok a (-1) _ (by decide) (.inl (beq_false_of_ne hm)) hw), numr_2 (by obtain ⟨h1, h2⟩ := ha; constructor <;> omega), rin_div_m a (by obtain ⟨h1, h2⟩ := ha; omega) ha.2⟩
    · have hw := w64 (tdiv_i64 a b ha h0 (fun h => h1 h.2))
      exact ⟨_, 0, _, _, _, _, wa_div _ _ _ _ (beq_false_of_ne h0) (divWhole_ok a b _ h0 (.inr (beq_false_of_ne h1)) hw), numr_2 (tdiv_i64 a b ha h0 (fun h => h1 h.2)), rin_div a b _ (beq_false_of_ne h0) (beq_false_of_ne h1) h0 hw⟩
theorem wwn_5 (a b : Int) (ha : I64 a) : WwN 5 a b := by
  by_cases h0 : b = 0
  · subst h0
    exact ⟨_, 12, _, _, _, _, wa_zero 5 a (.inr rfl), numr_e (by decide), rin_zero5 a⟩
  · by_cases h1 : b = -1
    · subst h1
      have e : a.tmod (-1) = 0 := by rw [Int.tmod_neg, Int.tmod_one]
      by_cases hm : a = -9223372036854775808
      · subst hm
        exact ⟨_, 0, _, _, _, _, wa_mod _ _ _ rfl (by decide) e, numr_2 ⟨by decide, by decide⟩, rin_mod_mm⟩
      · exact ⟨_, 0, _, _, _, _, wa_mod _ _ _ rfl (by decide) e, numr_2 ⟨by decide, by decide⟩, rin_mod_m a (by obtain ⟨h1, h2⟩ := ha; omega) ha.2⟩
    · have hw := w64 (tdiv_i64 a b ha h0 (fun h => h1 h.2))
      have hmi := tmod_i64 a b ha
      have t1 := Int.tmod_add_mul_tdiv a b
      have hp : b * a.tdiv b = a - a.tmod b := by omega
      have e : (a.tmod b).natAbs = a.natAbs % b.natAbs := Int.natAbs_tmod a b
      have hle : a.natAbs % b.natAbs ≤ a.natAbs := Nat.mod_le _ _
      have hsg : I64 (a - a.tmod b) := by
        obtain ⟨h1, h2⟩ := ha
        by_cases c : 0 ≤ a
        · have := Int.tmod_nonneg b c
          constructor <;> omega
        · have h3 : (-a).tmod b = -(a.tmod b) := Int.neg_tmod a b
          have h4 := Int.tmod_nonneg b (show 0 ≤ -a by omega)
          constructor <;> omega
      have hpw : wrap64 (b * a.tdiv b) = a - a.tmod b := by rw [hp]; exact w64 hsg
      have hs : wrap64 (a - (a - a.tmod b)) = a.tmod b := by
        rw [show a - (a - a.tmod b) = a.tmod b by omega]
        exact w64 hmi
      exact ⟨_, 0, _, _, _, _, wa_mod _ _ _ (beq_false_of_ne h0) h0 rfl, numr_2 hmi, rin_mod a b _ _ _ (beq_false_of_ne h0) (beq_false_of_ne h1) h0 hw hpw hs⟩
theorem wwn_any (op a b : Int) (h1 : 1 ≤ op) (h5 : op ≤ 5) (ha : I64 a) (hb : I64 b) : WwN op a b := by
  have : op = 1 ∨ op = 2 ∨ op = 3 ∨ op = 4 ∨ op = 5 := by omega
  rcases this with rfl | rfl | rfl | rfl | rfl
  · exact wwn_1 a b ha hb
  · exact wwn_2 a b ha hb
  · exact wwn_3 a b ha hb
  · exact wwn_4 a b ha
  · exact wwn_5 a b ha
/-- Both answers of arithmetic at two numbers. -/
theorem arn_any (op : Int) (h1 : 1 ≤ op) (h5 : op ≤ 5) {x y : Value} {k a b k' a' b' : Int} {s s' : ByteArray} (hx : Nmb x k a b s) (hy : Nmb y k' a' b' s') :
    ∃ (rv : Value) (c rk ra rb : Int) (rs : ByteArray), (∀ w, Calls Tryz.prog 87 #[.int .i64 op, x, y] w fun e w' => e = .returned (.tuple #[rv, .int .i64 c]) ∧ G w w') ∧ NumR rv c rk ra rb rs ∧ (∀ w, Calls Tryz.prog 45 #[.int .i64 op, V k a b s, V k' a' b' s'] w fun e w' => e = .returned (.tuple #[V rk ra rb rs, .int .i64 c]) ∧ G w w') := by
  rcases hx with ⟨rfl, rfl, rfl, ha, rfl⟩ | ⟨rfl, rfl, pa, pb, u, v, rfl, fu, fv⟩
  · rcases hy with ⟨rfl, rfl, rfl, ha', rfl⟩ | ⟨rfl, rfl, pa', pb', u', v', rfl, fu', fv'⟩
    · obtain ⟨rv, c, rk, ra, rb, rs, g1, g2, g3⟩ := wwn_any op a a' h1 h5 ha ha'
      exact ⟨rv, c, rk, ra, rb, rs, arith_ww op a a' _ _ g1, g2, rww_any op a 0 a' 0 E0 E0 h1 h5 rk ra rb rs c g3⟩
    · have hn := as_cpx_whole (.complex .f64 u' v')
      by_cases hp : P25 a
      · obtain ⟨rv, c, rk, ra, rb, rs, g1, g2, g3⟩ := cxn_any (x := fl a) (y := 0) (a := a) (b := 0) (Fl.ofInt a (by have := hp.abs; omega)) Fl.zero fu' fv' hp ⟨by decide, by decide⟩ pa' pb' op h1 h5
        exact ⟨rv, c, rk, ra, rb, rs, ar_wx op a _ _ _ hn (mx_0_0 op _ _ _ _ _ _ (in_whole a hp.1 hp.2) (in_cpx _ _) rv c g1), g2, rcx_any_23 op a 0 a' b' E0 E0 h1 h5 rk ra rb rs c (part_q _ _ (part_yes hp)) (part_q _ _ (part_yes pa')) g3⟩
      · exact ⟨_, 11, _, _, _, _, ar_wx op a _ _ _ hn (mx_11_0 op _ _ _ _ _ _ (in_whole_no a (part_no hp)) (in_cpx _ _)), numr_e (by decide), rr_23 op a 0 a' b' E0 E0 h1 h5 (part_q _ _ (part_no hp))⟩
  · have n1 := as_cpx_str (.complex .f64 u v)
    have n2 := as_cpx_whole (.complex .f64 u v)
    rcases hy with ⟨rfl, rfl, rfl, ha', rfl⟩ | ⟨rfl, rfl, pa', pb', u', v', rfl, fu', fv'⟩
    · by_cases hp : P25 a'
      · obtain ⟨rv, c, rk, ra, rb, rs, g1, g2, g3⟩ := cxn_any (z := fl a') (t := 0) (c := a') (d := 0) fu fv (Fl.ofInt a' (by have := hp.abs; omega)) Fl.zero pa pb hp ⟨by decide, by decide⟩ op h1 h5
        exact ⟨rv, c, rk, ra, rb, rs, ar_mx op _ _ _ _ n1 n2 (mx_0_0 op _ _ _ _ _ _ (in_cpx _ _) (in_whole a' hp.1 hp.2) rv c g1), g2, rcx_any_32 op a b a' 0 E0 E0 h1 h5 rk ra rb rs c (part_q _ _ (part_yes pa)) (part_q _ _ (part_yes hp)) g3⟩
      · exact ⟨_, 11, _, _, _, _, ar_mx op _ _ _ _ n1 n2 (mx_0_11 op _ _ _ _ _ _ (in_cpx _ _) (in_whole_no a' (part_no hp))), numr_e (by decide), rr_32 op a b a' 0 E0 E0 h1 h5 (part_q _ _ (part_yes pa)) (part_q _ _ (part_no hp))⟩
    · obtain ⟨rv, c, rk, ra, rb, rs, g1, g2, g3⟩ := cxn_any fu fv fu' fv' pa pb pa' pb' op h1 h5
      exact ⟨rv, c, rk, ra, rb, rs, ar_mx op _ _ _ _ n1 n2 (mx_0_0 op _ _ _ _ _ _ (in_cpx _ _) (in_cpx _ _) rv c g1), g2, rcx_any_33 op a b a' b' E0 E0 h1 h5 rk ra rb rs c (part_q _ _ (part_yes pa)) (part_q _ _ (part_yes pa')) g3⟩
end Go.Proofs.YtnoajhegcjoebabGreatDoor
