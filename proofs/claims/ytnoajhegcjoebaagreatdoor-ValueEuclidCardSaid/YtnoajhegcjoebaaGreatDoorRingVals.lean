/- ring and norms at complex numbers with parts up to 255, ring at whole numbers up to 2^20 - 1. -/
import Derived.Test.YtnoajhegcjoebaaGreatDoorNorms
namespace Go.Proofs.YtnoajhegcjoebaaGreatDoor
open Go.RowKit

/-- Between -M and M. -/
def Bd (M x : Int) : Prop := -M ≤ x ∧ x ≤ M
theorem Bd.add {M N x y : Int} (h : Bd M x) (k : Bd N y) : Bd (M + N) (x + y) := by obtain ⟨a, b⟩ := h; obtain ⟨c, d⟩ := k; constructor <;> omega
theorem Bd.sub {M N x y : Int} (h : Bd M x) (k : Bd N y) : Bd (M + N) (x - y) := by obtain ⟨a, b⟩ := h; obtain ⟨c, d⟩ := k; constructor <;> omega
theorem Bd.neg {M x : Int} (h : Bd M x) : Bd M (-x) := by obtain ⟨a, b⟩ := h; constructor <;> omega
theorem natAbs_mul_le {x y : Int} {M N : Nat} (hx : x.natAbs ≤ M) (hy : y.natAbs ≤ N) : (x * y).natAbs ≤ M * N := by
  rw [Int.natAbs_mul]; exact Nat.mul_le_mul hx hy
theorem Bd.mul {M N x y : Int} (h : Bd M x) (k : Bd N y) : Bd (M * N) (x * y) := by
  have h1 : x.natAbs ≤ M.toNat := by obtain ⟨a, b⟩ := h; omega
  have h2 : y.natAbs ≤ N.toNat := by obtain ⟨a, b⟩ := k; omega
  have h3 := natAbs_mul_le h1 h2
  have h4 : ((M.toNat * N.toNat : Nat) : Int) = M * N := by
    rw [Int.natCast_mul, Int.toNat_of_nonneg (by obtain ⟨a, b⟩ := h; omega), Int.toNat_of_nonneg (by obtain ⟨a, b⟩ := k; omega)]
  generalize x * y = t at h3
  generalize M.toNat * N.toNat = m at h3 h4
  constructor <;> omega
theorem Bd.mono {M N x : Int} (h : Bd M x) (l : M ≤ N) : Bd N x := by obtain ⟨a, b⟩ := h; constructor <;> omega
theorem Bd.p25 {M x : Int} (h : Bd M x) (l : M ≤ 33554432) : P25 x := h.mono l
theorem Bd.i64 {M x : Int} (h : Bd M x) (l : M ≤ 9223372036854775807) : I64 x := by obtain ⟨a, b⟩ := h; constructor <;> omega
/-- 'does' on two complex numbers. -/
theorem dc_add (a b c d : Int) (ha : P25 a) (hb : P25 b) (hc : P25 c) (hd : P25 d) (hr : P25 (a + c)) (hi : P25 (b + d)) (w : World) :
    Calls Tryz.prog 13 #[.int .i64 1, V 3 a b E0, V 3 c d E0] w fun e w' => e = .returned (.tuple #[V 3 (a + c) (b + d) E0, .bool true]) ∧ G w w' :=
  does_of 1 3 a b 3 c d E0 E0 3 _ _ E0 (by decide) (Bcc_add a b c d ha hb hc hd hr hi) w
theorem dc_sub (a b c d : Int) (ha : P25 a) (hb : P25 b) (hc : P25 c) (hd : P25 d) (hr : P25 (a - c)) (hi : P25 (b - d)) (w : World) :
    Calls Tryz.prog 13 #[.int .i64 2, V 3 a b E0, V 3 c d E0] w fun e w' => e = .returned (.tuple #[V 3 (a - c) (b - d) E0, .bool true]) ∧ G w w' :=
  does_of 2 3 a b 3 c d E0 E0 3 _ _ E0 (by decide) (Bcc_sub a b c d ha hb hc hd hr hi) w
theorem dc_mul (a b c d : Int) (ha : P25 a) (hb : P25 b) (hc : P25 c) (hd : P25 d) (hr : P25 (a * c - b * d)) (hi : P25 (a * d + b * c)) (w : World) :
    Calls Tryz.prog 13 #[.int .i64 3, V 3 a b E0, V 3 c d E0] w fun e w' => e = .returned (.tuple #[V 3 (a * c - b * d) (a * d + b * c) E0, .bool true]) ∧ G w w' :=
  does_of 3 3 a b 3 c d E0 E0 3 _ _ E0 (by decide) (Bcc_mul a b c d ha hb hc hd hr hi) w
theorem dw_add (a b : Int) (h : I64 (a + b)) (w : World) : Calls Tryz.prog 13 #[.int .i64 1, V 2 a 0 E0, V 2 b 0 E0] w fun e w' => e = .returned (.tuple #[V 2 (a + b) 0 E0, .bool true]) ∧ G w w' :=
  does_of 1 2 a 0 2 b 0 E0 E0 2 _ _ E0 (by decide) (Bw_add a b h) w
theorem dw_sub (a b : Int) (h : I64 (a - b)) (w : World) : Calls Tryz.prog 13 #[.int .i64 2, V 2 a 0 E0, V 2 b 0 E0] w fun e w' => e = .returned (.tuple #[V 2 (a - b) 0 E0, .bool true]) ∧ G w w' :=
  does_of 2 2 a 0 2 b 0 E0 E0 2 _ _ E0 (by decide) (Bw_sub a b h) w
theorem dw_mul (a b : Int) (h : I64 (a * b)) (hb : I64 b) (w : World) : Calls Tryz.prog 13 #[.int .i64 3, V 2 a 0 E0, V 2 b 0 E0] w fun e w' => e = .returned (.tuple #[V 2 (a * b) 0 E0, .bool true]) ∧ G w w' :=
  does_of 3 2 a 0 2 b 0 E0 E0 2 _ _ E0 (by decide) (Bw_mul a b h hb) w

theorem two_bd (u v : Int) (s t : Nat) (h1 : u.natAbs ≤ 255 * s) (h2 : v.natAbs ≤ 255 * t) (h : s + t ≤ 510) : Bd 130050 (u + v) ∧ Bd 130050 (u - v) := by
  refine ⟨⟨?_, ?_⟩, ⟨?_, ?_⟩⟩ <;> omega
theorem sum_bd (p q : Int) (h1 : Bd 130050 (p + q)) (h2 : Bd 130050 (p - q)) : p.natAbs + q.natAbs ≤ 130050 := by
  obtain ⟨a, b⟩ := h1; obtain ⟨c, d⟩ := h2; omega
theorem last_bd (u v : Int) (s t : Nat) (h1 : u.natAbs ≤ s * 255) (h2 : v.natAbs ≤ t * 255) (h : s + t ≤ 130050) : Bd 33162750 (u + v) ∧ Bd 33162750 (u - v) := by
  refine ⟨⟨?_, ?_⟩, ⟨?_, ?_⟩⟩ <;> omega
theorem abs_of {x : Int} (h : Bd 255 x) : x.natAbs ≤ 255 := by obtain ⟨a, b⟩ := h; omega
/-- The parts of a product of three. -/
theorem three_bd (a b c d e f : Int) (ha : Bd 255 a) (hb : Bd 255 b) (hc : Bd 255 c) (hd : Bd 255 d) (he : Bd 255 e) (hf : Bd 255 f) :
    Bd 33162750 ((a * c - b * d) * e - (a * d + b * c) * f) ∧ Bd 33162750 ((a * c - b * d) * f + (a * d + b * c) * e) := by
  have hcd : (c + d).natAbs + (c - d).natAbs ≤ 510 := by obtain ⟨h1, h2⟩ := hc; obtain ⟨h3, h4⟩ := hd; omega
  have hdc : (c - d).natAbs + (c + d).natAbs ≤ 510 := by omega
  have e1 : (a * c - b * d) + (a * d + b * c) = a * (c + d) + b * (c - d) := by simp only [Int.mul_add, Int.mul_sub]; omega
  have e2 : (a * c - b * d) - (a * d + b * c) = a * (c - d) - b * (c + d) := by simp only [Int.mul_add, Int.mul_sub]; omega
  have k1 := (two_bd _ _ _ _ (natAbs_mul_le (abs_of ha) (Nat.le_refl (c + d).natAbs)) (natAbs_mul_le (abs_of hb) (Nat.le_refl (c - d).natAbs)) hcd).1
  have k2 := (two_bd _ _ _ _ (natAbs_mul_le (abs_of ha) (Nat.le_refl (c - d).natAbs)) (natAbs_mul_le (abs_of hb) (Nat.le_refl (c + d).natAbs)) hdc).2
  rw [← e1] at k1
  rw [← e2] at k2
  have hp := sum_bd _ _ k1 k2
  exact ⟨(last_bd _ _ _ _ (natAbs_mul_le (Nat.le_refl _) (abs_of he)) (natAbs_mul_le (Nat.le_refl _) (abs_of hf)) hp).2, (last_bd _ _ _ _ (natAbs_mul_le (Nat.le_refl _) (abs_of hf)) (natAbs_mul_le (Nat.le_refl _) (abs_of he)) hp).1⟩
theorem mul_assoc_re (a b c d e f : Int) : (a * c - b * d) * e - (a * d + b * c) * f = a * (c * e - d * f) - b * (c * f + d * e) := by
  simp only [Int.sub_mul, Int.add_mul, Int.mul_sub, Int.mul_add, Int.mul_assoc]; omega
theorem mul_assoc_im (a b c d e f : Int) : (a * c - b * d) * f + (a * d + b * c) * e = a * (c * f + d * e) + b * (c * e - d * f) := by
  simp only [Int.sub_mul, Int.add_mul, Int.mul_sub, Int.mul_add, Int.mul_assoc]; omega

theorem ring_cpx (a b c d e f : Int) (ha : Bd 255 a) (hb : Bd 255 b) (hc : Bd 255 c) (hd : Bd 255 d) (he : Bd 255 e) (hf : Bd 255 f) (w : World) :
    Calls Tryz.prog 10 #[V 3 a b E0, V 3 c d E0, V 3 e f E0] w fun e w' => e = .returned (.bool true) ∧ G w w' := by
  have t3 := three_bd a b c d e f ha hb hc hd he hf
  have e5a : a * c - b * d + (a * e - b * f) = a * (c + e) - b * (d + f) := by simp only [Int.mul_add]; omega
  have e5b : a * d + b * c + (a * f + b * e) = a * (d + f) + b * (c + e) := by simp only [Int.mul_add]; omega
  have e6a : (c + e) * a - (d + f) * b = a * (c + e) - b * (d + f) := by rw [Int.mul_comm (c + e) a, Int.mul_comm (d + f) b]
  have e6b : (c + e) * b + (d + f) * a = a * (d + f) + b * (c + e) := by rw [Int.mul_comm (c + e) b, Int.mul_comm (d + f) a]; omega
  have e9a := mul_assoc_re a b c d e f
  have e9b := mul_assoc_im a b c d e f
  have pa := ha.p25 (by decide); have pb := hb.p25 (by decide); have pc := hc.p25 (by decide); have pd := hd.p25 (by decide); have pe := he.p25 (by decide); have pf := hf.p25 (by decide)
  have pS1 := (hc.add he).p25 (by decide); have pS2 := (hd.add hf).p25 (by decide)
  have pL1 := ((ha.mul (hc.add he)).sub (hb.mul (hd.add hf))).p25 (by decide); have pL2 := ((ha.mul (hd.add hf)).add (hb.mul (hc.add he))).p25 (by decide)
  have pX1 := ((ha.mul hc).sub (hb.mul hd)).p25 (by decide); have pX2 := ((ha.mul hd).add (hb.mul hc)).p25 (by decide)
  have pY1 := ((ha.mul he).sub (hb.mul hf)).p25 (by decide); have pY2 := ((ha.mul hf).add (hb.mul he)).p25 (by decide)
  have pW1 := ((hc.mul he).sub (hd.mul hf)).p25 (by decide); have pW2 := ((hc.mul hf).add (hd.mul he)).p25 (by decide)
  have pU1 := t3.1.p25 (by decide); have pU2 := t3.2.p25 (by decide)
  have pP1 := (ha.add hc).p25 (by decide); have pP2 := (hb.add hd).p25 (by decide)
  refine ring_of 3 a b 3 c d 3 e f 3 (c + e) (d + f) 3 (a * (c + e) - b * (d + f)) (a * (d + f) + b * (c + e)) 3 (a * c - b * d) (a * d + b * c) 3 (a * e - b * f) (a * f + b * e)
    3 ((a * c - b * d) * e - (a * d + b * c) * f) ((a * c - b * d) * f + (a * d + b * c) * e) 3 (c * e - d * f) (c * f + d * e) 3 (a + c) (b + d)
    (dc_add c d e f pc pd pe pf pS1 pS2) (dc_mul a b (c + e) (d + f) pa pb pS1 pS2 pL1 pL2) (dc_mul a b c d pa pb pc pd pX1 pX2) (dc_mul a b e f pa pb pe pf pY1 pY2)
    (fun w => ?_) (fun w => ?_) (dc_mul _ _ e f pX1 pX2 pe pf pU1 pU2) (dc_mul c d e f pc pd pe pf pW1 pW2) (fun w => ?_) (dc_add a b c d pa pb pc pd pP1 pP2) (fun w => ?_) (fun w => ?_) w
  · have := dc_add (a * c - b * d) (a * d + b * c) (a * e - b * f) (a * f + b * e) pX1 pX2 pY1 pY2 (by rw [e5a]; exact pL1) (by rw [e5b]; exact pL2) w
    rwa [e5a, e5b] at this
  · have := dc_mul (c + e) (d + f) a b pS1 pS2 pa pb (by rw [e6a]; exact pL1) (by rw [e6b]; exact pL2) w
    rwa [e6a, e6b] at this
  · have := dc_mul a b (c * e - d * f) (c * f + d * e) pa pb pW1 pW2 (by rw [← e9a]; exact pU1) (by rw [← e9b]; exact pU2) w
    rwa [← e9a, ← e9b] at this
  · have := dc_add c d a b pc pd pa pb (by rw [Int.add_comm]; exact pP1) (by rw [Int.add_comm]; exact pP2) w
    rwa [Int.add_comm c a, Int.add_comm d b] at this
  · have e1 : a + c - c = a := by omega
    have e2 : b + d - d = b := by omega
    have := dc_sub (a + c) (b + d) c d pP1 pP2 pc pd (by rw [e1]; exact pa) (by rw [e2]; exact pb) w
    rwa [e1, e2] at this

theorem sq_mul (a b c d : Int) : (a * c - b * d) * (a * c - b * d) + (a * d + b * c) * (a * d + b * c) = (a * a + b * b) * (c * c + d * d) := by
  have h1 : ∀ x y : Int, (x - y) * (x - y) = x * x - 2 * (x * y) + y * y := fun x y => by
    rw [Int.sub_mul, Int.mul_sub, Int.mul_sub, Int.mul_comm y x]; omega
  have h2 : ∀ x y : Int, (x + y) * (x + y) = x * x + 2 * (x * y) + y * y := fun x y => by
    rw [Int.add_mul, Int.mul_add, Int.mul_add, Int.mul_comm y x]; omega
  have q : ∀ x y : Int, (x * y) * (x * y) = (x * x) * (y * y) := fun x y => by
    rw [Int.mul_assoc, Int.mul_left_comm y x y, ← Int.mul_assoc]
  have r : (a * c) * (b * d) = (a * d) * (b * c) := by
    rw [Int.mul_assoc, Int.mul_left_comm c b d, Int.mul_assoc, Int.mul_left_comm d b c, Int.mul_comm c d]
  rw [h1, h2, q, q, q, q, r, Int.add_mul, Int.mul_add, Int.mul_add]
  omega
theorem norms_cpx (a b c d : Int) (ha : Bd 255 a) (hb : Bd 255 b) (hc : Bd 255 c) (hd : Bd 255 d) (w : World) :
    Calls Tryz.prog 11 #[V 3 a b E0, V 3 c d E0] w fun e w' => e = .returned (.bool true) ∧ G w w' := by
  have pa := ha.p25 (by decide); have pb := hb.p25 (by decide); have pc := hc.p25 (by decide); have pd := hd.p25 (by decide)
  have pX1 := ((ha.mul hc).sub (hb.mul hd)).p25 (by decide); have pX2 := ((ha.mul hd).add (hb.mul hc)).p25 (by decide)
  have nb := hb.neg.p25 (by decide)
  have e1 : a * a - b * -b = a * a + b * b := by rw [Int.mul_neg]; omega
  have e2 : a * -b + b * a = 0 := by rw [Int.mul_neg, Int.mul_comm b a]; omega
  have hx := (ha.mul ha).add (hb.mul hb)
  have hy := (hc.mul hc).add (hd.mul hd)
  have hw : wrap64 ((a * a + b * b) * (c * c + d * d)) = (a * a + b * b) * (c * c + d * d) := by
    obtain ⟨h1, h2⟩ := hx.mul hy
    generalize (a * a + b * b) * (c * c + d * d) = t at h1 h2
    unfold wrap64; omega
  refine norms_of a b c d (a * c - b * d) (a * d + b * c) a (-b) (a * a + b * b) (c * c + d * d) hw (dc_mul a b c d pa pb pc pd pX1 pX2) (norm_of 3 a b E0 _ (U_norm a b pa pb)) (norm_of 3 c d E0 _ (U_norm c d pc pd)) (fun w => ?_) (U_conj a b pa pb) (fun w => ?_) (fun w => ?_) w
  · have := norm_of 3 (a * c - b * d) (a * d + b * c) E0 _ (U_norm _ _ pX1 pX2) w
    rwa [sq_mul] at this
  · have := dc_mul a b a (-b) pa pb pa nb (by rw [e1]; exact hx.p25 (by decide)) (by rw [e2]; exact ⟨by decide, by decide⟩) w
    rwa [e1, e2] at this
  · exact dc_mul 0 1 0 1 ⟨by decide, by decide⟩ ⟨by decide, by decide⟩ ⟨by decide, by decide⟩ ⟨by decide, by decide⟩ ⟨by decide, by decide⟩ ⟨by decide, by decide⟩ w

theorem ring_whole (a b c : Int) (ha : Bd 1048575 a) (hb : Bd 1048575 b) (hc : Bd 1048575 c) (w : World) :
    Calls Tryz.prog 10 #[V 2 a 0 E0, V 2 b 0 E0, V 2 c 0 E0] w fun e w' => e = .returned (.bool true) ∧ G w w' := by
  have iab := (ha.mul hb).i64 (by decide); have iac := (ha.mul hc).i64 (by decide); have ibc := (hb.mul hc).i64 (by decide)
  have is := (hb.add hc).i64 (by decide); have ias := (ha.mul (hb.add hc)).i64 (by decide); have iabc := ((ha.mul hb).mul hc).i64 (by decide)
  have ia := ha.i64 (by decide); have ib := hb.i64 (by decide); have ic := hc.i64 (by decide); have ip := (ha.add hb).i64 (by decide)
  have e5 : a * b + a * c = a * (b + c) := by rw [Int.mul_add]
  have e6 : (b + c) * a = a * (b + c) := Int.mul_comm _ _
  have e9 : a * (b * c) = a * b * c := by rw [Int.mul_assoc]
  refine ring_of 2 a 0 2 b 0 2 c 0 2 (b + c) 0 2 (a * (b + c)) 0 2 (a * b) 0 2 (a * c) 0 2 (a * b * c) 0 2 (b * c) 0 2 (a + b) 0
    (dw_add b c is) (dw_mul a (b + c) ias is) (dw_mul a b iab ib) (dw_mul a c iac ic)
    (fun w => ?_) (fun w => ?_) (dw_mul (a * b) c iabc ic) (dw_mul b c ibc ic) (fun w => ?_) (dw_add a b ip) (fun w => ?_) (fun w => ?_) w
  · have := dw_add (a * b) (a * c) (by rw [e5]; exact ias) w
    rwa [e5] at this
  · have := dw_mul (b + c) a (by rw [e6]; exact ias) ia w
    rwa [e6] at this
  · have := dw_mul a (b * c) (by rw [e9]; exact iabc) ibc w
    rwa [e9] at this
  · have := dw_add b a (by rw [Int.add_comm]; exact ip) w
    rwa [Int.add_comm b a] at this
  · have e1 : a + b - b = a := by omega
    have := dw_sub (a + b) b (by rw [e1]; exact ia) w
    rwa [e1] at this
end Go.Proofs.YtnoajhegcjoebaaGreatDoor
