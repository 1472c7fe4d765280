/- ValueEuclid's walk. -/
import Derived.Test.YtnoajhegcjoebaaGreatDoorEuclid
import Derived.Test.YtnoajhegcjoebaaGreatDoorEuclidMath
import Derived.Test.YtnoajhegcjoebaaGreatDoorWholes
import Derived.Test.YtnoajhegcjoebaaGreatDoorModDiv
namespace Go.Proofs.YtnoajhegcjoebaaGreatDoor
open Go.RowKit

theorem edge_of (a b : Int) (he : ¬ (a = -9223372036854775808 ∧ b = -1)) : (a == -9223372036854775808) = false ∨ ((a == -9223372036854775808) = true ∧ (b == -1) = false) := by
  by_cases h1 : a = -9223372036854775808
  · refine Or.inr ⟨beq_iff_eq.2 h1, beq_eq_false_iff_ne.2 fun h2 => he ⟨h1, h2⟩⟩
  · exact Or.inl (beq_eq_false_iff_ne.2 h1)
theorem wholes_all (a b : Int) (ha : I64 a) (hb : I64 b) (w : World) : Calls Tryz.prog 16 #[.int .i64 a, .int .i64 b] w fun e w' => e = .returned (.bool true) ∧ G w w' := by
  by_cases b0 : b = 0
  · subst b0
    exact wholes_zero a (Bw_err 4 (by decide) (by decide) a 0 12 (by decide) (wa_zero 4 a (.inl rfl))) (Bw_err 5 (by decide) (by decide) a 0 12 (by decide) (wa_zero 5 a (.inr rfl))) w
  by_cases he : a = -9223372036854775808 ∧ b = -1
  · obtain ⟨rfl, rfl⟩ := he
    exact wholes_edge (Bw_err 4 (by decide) (by decide) _ _ 11 (by decide) (wa_div _ _ _ 11 (by decide) divWhole_range)) (Bw_ok 5 (by decide) (by decide) _ _ 0 (wa_mod _ _ 0 (by decide) (by decide) (by decide))) w
  have hb0 : (b == 0) = false := beq_eq_false_iff_ne.2 b0
  have ed := edge_of a b he
  have ed' : (a == -9223372036854775808) = false ∨ (b == -1) = false := by
    rcases ed with h | h
    · exact Or.inl h
    · exact Or.inr h.2
  have hQ := tdiv_i64 a b ha b0 he
  have h1 := Bw_ok 4 (by decide) (by decide) a b (a.tdiv b) (wa_div a b _ 0 hb0 (divWhole_ok a b (a.tdiv b) b0 ed' (w64 hQ)))
  have h2 := Bw_ok 5 (by decide) (by decide) a b (a.tmod b) (wa_mod a b (a.tmod b) hb0 b0 rfl)
  have s3 : a.tdiv b * b + a.tmod b = a := Int.tdiv_mul_add_tmod a b
  have nm : (a.tmod b).natAbs = a.natAbs % b.natAbs := Int.natAbs_tmod a b
  have lt : a.natAbs % b.natAbs < b.natAbs := Nat.mod_lt _ (by omega)
  have le : a.natAbs % b.natAbs ≤ a.natAbs := Nat.mod_le _ _
  have sp : 0 ≤ a → 0 ≤ a.tmod b := fun h => Int.tmod_nonneg b h
  have sn : a < 0 → a.tmod b ≤ 0 := fun h => by
    have h3 : (-a).tmod b = -(a.tmod b) := Int.neg_tmod a b
    have h4 := Int.tmod_nonneg b (show 0 ≤ -a by omega)
    omega
  have wa := w64 ha
  generalize a.tdiv b = Q at h1 s3 hQ
  generalize a.tmod b = R at h2 s3 nm sp sn
  have iQ : I64 (Q * b) := by
    obtain ⟨x, y⟩ := ha
    by_cases h : 0 ≤ a
    · have := sp h; constructor <;> omega
    · have := sn (by omega); constructor <;> omega
  have s1 := w64 iQ
  have iR : I64 R := by
    obtain ⟨x, y⟩ := ha
    by_cases h : 0 ≤ a
    · have := sp h; constructor <;> omega
    · have := sn (by omega); constructor <;> omega
  have l1 : R < (b.natAbs : Int) := by omega
  have l2 : -R < (b.natAbs : Int) := by omega
  have l3 : IntKind.i64.wrap (-R) = -R := by
    obtain ⟨x1, y1⟩ := ha; obtain ⟨x2, y2⟩ := hb
    have b1 : -9223372036854775808 ≤ -R := by omega
    have b2 : -R < 9223372036854775808 := by omega
    simp only [IntKind.wrap, IntKind.signed, IntKind.bits]
    simp
    omega
  by_cases bm : b = -9223372036854775808
  · subst bm
    have ed2 : (a == -9223372036854775808) = false ∨ ((a == -9223372036854775808) = true ∧ True) := by
      rcases ed with h | h
      · exact Or.inl h
      · exact Or.inr ⟨h.1, trivial⟩
    by_cases r0 : R = 0
    · subst r0
      exact wholes_r0_min a Q h1 h2 ed2 wa (by omega) w
    · by_cases rn : R < 0
      · exact wholes_rm_min a Q R h1 h2 ed2 wa s1 s3 rn (by refine Int.not_le.1 fun h => ?_; have := sp h; omega) w
      · exact wholes_rp_min a Q R h1 h2 ed2 wa s1 s3 r0 rn (by intro h; have := sn h; omega) w
  · have hbm : (b == -9223372036854775808) = false := beq_eq_false_iff_ne.2 bm
    have hs := size_any b (by obtain ⟨x, y⟩ := hb; omega) hb.2
    by_cases r0 : R = 0
    · subst r0
      exact wholes_r0_not a b Q h1 h2 hb0 ed wa (by omega) hbm l1 hs w
    · by_cases rn : R < 0
      · exact wholes_rm_not a b Q R h1 h2 hb0 ed wa s1 s3 rn (by refine Int.not_le.1 fun h => ?_; have := sp h; omega) hbm l1 l2 hs l3 w
      · exact wholes_rp_not a b Q R h1 h2 hb0 ed wa s1 s3 r0 rn (by intro h; have := sn h; omega) hbm l1 l2 hs l3 w

/-- The law at two complex numbers with parts up to 2^24. -/
theorem euclid_vals (a b c d A B C E : Int) (hA : Bd 16777216 A) (hB : Bd 16777216 B) (hC : Bd 16777216 C) (hE : Bd 16777216 E) (hnz : C ≠ 0 ∨ E ≠ 0) (ia : I64 a) (ic : I64 c)
    (h1 : ∀ w, Calls Tryz.prog 9 #[.int .i64 a, .int .i64 b, .int .i64 16777216] w fun e w' => e = .returned (V 3 A B E0) ∧ G w w')
    (h2 : ∀ w, Calls Tryz.prog 9 #[.int .i64 c, .int .i64 d, .int .i64 16777216] w fun e w' => e = .returned (V 3 C E E0) ∧ G w w') (w : World) :
    Calls Tryz.prog 5 #[.int .i64 a, .int .i64 b, .int .i64 c, .int .i64 d] w fun e w' => e = .returned (.bool true) ∧ G w w' := by
  have hD := sq_pos hnz
  have hD2 := sq_bd hC hE
  have tb := top_bd 16777216 A B C E hA hB
  have n1 := ((hA.mul hC).sub (hB.mul hE.neg)); have n2 := ((hA.mul hE.neg).add (hB.mul hC))
  have dd := ((hC.mul hC).add (hE.mul hE))
  -- the quotient's parts
  have fl1 : ∀ n D : Int, 0 < D → (2 * n + D) / (2 * D) * (2 * D) ≤ 2 * n + D := fun n D h => Int.ediv_mul_le _ (by omega)
  have fl2 : ∀ n D : Int, 0 < D → 2 * n + D < ((2 * n + D) / (2 * D) + 1) * (2 * D) := fun n D h => Int.lt_ediv_add_one_mul_self _ (by omega)
  have p1 := fl1 (A * C - B * -E) (C * C + E * E) hD
  have p2 := fl2 (A * C - B * -E) (C * C + E * E) hD
  have q1 := fl1 (A * -E + B * C) (C * C + E * E) hD
  have q2 := fl2 (A * -E + B * C) (C * C + E * E) hD
  generalize (2 * (A * C - B * -E) + (C * C + E * E)) / (2 * (C * C + E * E)) = p at p1 p2
  generalize (2 * (A * -E + B * C) + (C * C + E * E)) / (2 * (C * C + E * E)) = q at q1 q2
  have bp := quot_bd 16777216 _ _ p hD tb.1 p1 p2
  have bq := quot_bd 16777216 _ _ q hD tb.2 q1 q2
  have small := rest_small A B C E p q hD p1 p2 q1 q2
  have br1 := part_of_sq (M := 16777216) (Int.le_trans (Int.mul_le_mul_of_nonneg_left (Int.le_refl _) (by decide)) (Int.le_trans small hD2)) (by decide)
  have br2 : Bd 16777216 (B - (C * q + E * p)) := part_of_sq (M := 16777216) (r := B - (C * q + E * p)) (s := A - (C * p - E * q)) (by
    have := Int.le_trans small hD2
    rw [Int.add_comm]; exact this) (by decide)
  -- the parts' bounds
  have pA := hA.p25 (by decide); have pB := hB.p25 (by decide); have pC := hC.p25 (by decide); have pE := hE.p25 (by decide)
  have pr1 := br1.p25 (by decide); have pr2 := br2.p25 (by decide); have pp := bp.p25 (by decide); have pq := bq.p25 (by decide)
  have e1 : A - (A - (C * p - E * q)) = C * p - E * q := by omega
  have e2 : B - (B - (C * q + E * p)) = C * q + E * p := by omega
  have bt1 : Bd 33554432 (C * p - E * q) := by have := (hA.sub br1).mono (show (16777216 : Int) + 16777216 ≤ 33554432 by decide); rwa [e1] at this
  have bt2 : Bd 33554432 (C * q + E * p) := by have := (hB.sub br2).mono (show (16777216 : Int) + 16777216 ≤ 33554432 by decide); rwa [e2] at this
  have pt1 : P25 (C * p - E * q) := bt1; have pt2 : P25 (C * q + E * p) := bt2
  have hb1 : 2 * (A * C - B * -E).natAbs + 3 * (C * C + E * E).natAbs ≤ 4503599627370496 := by obtain ⟨x, y⟩ := n1; obtain ⟨x2, y2⟩ := dd; omega
  have hb2 : 2 * (A * -E + B * C).natAbs + 3 * (C * C + E * E).natAbs ≤ 4503599627370496 := by obtain ⟨x, y⟩ := n2; obtain ⟨x2, y2⟩ := dd; omega
  have hmod := Bcc_of 5 (by decide) (by decide) A B C E _ _ pA pB pC pE pr1 pr2 (ca_mod (fl A) (fl B) (fl C) (fl E) A B C E p q (Fl.ofInt A pA.lt) (Fl.ofInt B pB.lt) (Fl.ofInt C pC.lt) (Fl.ofInt E pE.lt) pA pB pC pE hnz hD hb1 hb2 p1 p2 q1 q2 pp pq pr1 pr2)
  have k1 := ((bt1.mul hC).sub (bt2.mul hE.neg)); have k2 := ((bt1.mul hE.neg).add (bt2.mul hC))
  have hc1 : ((C * p - E * q) * C - (C * q + E * p) * -E).natAbs + (C * C + E * E).natAbs ≤ 4503599627370496 := by obtain ⟨x, y⟩ := k1; obtain ⟨x2, y2⟩ := dd; omega
  have hc2 : ((C * p - E * q) * -E + (C * q + E * p) * C).natAbs + (C * C + E * E).natAbs ≤ 4503599627370496 := by obtain ⟨x, y⟩ := k2; obtain ⟨x2, y2⟩ := dd; omega
  have hdiv := Bcc_of 4 (by decide) (by decide) _ _ C E p q pt1 pt2 pC pE pp pq (ca_div (fl (C * p - E * q)) (fl (C * q + E * p)) (fl C) (fl E) _ _ C E p q (Fl.ofInt _ pt1.lt) (Fl.ofInt _ pt2.lt) (Fl.ofInt C pC.lt) (Fl.ofInt E pE.lt) pt1 pt2 pC pE hnz hD hc1 hc2 (back_re C E p q) (back_im C E p q) pp pq)
  -- the law's steps
  have N1 := norm_of 3 _ _ E0 _ (U_norm _ _ pr1 pr2)
  have N2 := norm_of 3 _ _ E0 _ (U_norm C E pC pE)
  have hsub := fun w => dc_sub A B (A - (C * p - E * q)) (B - (C * q + E * p)) pA pB pr1 pr2 (by rw [e1]; exact pt1) (by rw [e2]; exact pt2) w
  simp only [e1, e2] at hsub
  have hdo := does_of 4 3 (C * p - E * q) (C * q + E * p) 3 C E E0 E0 3 p q E0 (by decide) hdiv
  have f1 : p * C - q * E = C * p - E * q := by rw [Int.mul_comm p C, Int.mul_comm q E]
  have f2 : p * E + q * C = C * q + E * p := by rw [Int.mul_comm p E, Int.mul_comm q C]; omega
  have hmul := fun w => dc_mul p q C E pp pq pC pE (by rw [f1]; exact pt1) (by rw [f2]; exact pt2) w
  simp only [f1, f2] at hmul
  have g1 : C * p - E * q + (A - (C * p - E * q)) = A := by omega
  have g2 : C * q + E * p + (B - (C * q + E * p)) = B := by omega
  have hadd := fun w => dc_add (C * p - E * q) (C * q + E * p) (A - (C * p - E * q)) (B - (C * q + E * p)) pt1 pt2 pr1 pr2 (by rw [g1]; exact pA) (by rw [g2]; exact pB) w
  simp only [g1, g2] at hadd
  have rr := (br1.mul br1).add (br2.mul br2)
  generalize (A - (C * p - E * q)) * (A - (C * p - E * q)) + (B - (C * q + E * p)) * (B - (C * q + E * p)) = N at N1 small rr
  generalize C * C + E * E = K at N2 small hD
  have hy : (C == 0) = false ∨ ((C == 0) = true ∧ (E == 0) = false) := by
    by_cases h : C = 0
    · refine Or.inr ⟨beq_iff_eq.2 h, beq_eq_false_iff_ne.2 ?_⟩
      rcases hnz with hz | hz
      · exact absurd h hz
      · exact hz
    · exact Or.inl (beq_eq_false_iff_ne.2 h)
  have hN : wrap64 (2 * N) = 2 * N := by obtain ⟨x, y⟩ := rr; unfold wrap64; omega
  have hK : decide (K < 2 * N) = false := by simp; omega
  exact euclid_of a b c d A B C E _ _ _ _ p q N K hy hN hK h1 h2 hmod N1 N2 hsub hdo hmul hadd (wholes_all a c ia ic) w

theorem tmod_bd' (n : Int) : Bd 16777216 (n.tmod 16777217) := by
  have h1 := Int.lt_tmod_of_pos n (show (0 : Int) < 16777217 by decide)
  have h2 := Int.tmod_lt_of_pos n (show (0 : Int) < 16777217 by decide)
  constructor <;> omega
theorem euclid_law (a b c d : Int) (w : World) (a1 : -9223372036854775808 ≤ a) (a2 : a ≤ 9223372036854775807) (_ : -9223372036854775808 ≤ b) (_ : b ≤ 9223372036854775807) (c1 : -9223372036854775808 ≤ c) (c2 : c ≤ 9223372036854775807) (_ : -9223372036854775808 ≤ d) (_ : d ≤ 9223372036854775807) :
    Calls Tryz.prog 5 #[.int .i64 a, .int .i64 b, .int .i64 c, .int .i64 d] w fun e w' => e = .returned (.bool true) ∧ G w w' := by
  have h1 := gauss_any a b 16777216 (by decide) (by decide)
  have h2 := gauss_any c d 16777216 (by decide) (by decide)
  have e : (16777216 : Int) + 1 = 16777217 := by decide
  rw [e] at h1 h2
  have bA := tmod_bd' a; have bB := tmod_bd' b; have bC := tmod_bd' c; have bE := tmod_bd' d
  generalize a.tmod 16777217 = A at h1 bA
  generalize b.tmod 16777217 = B at h1 bB
  generalize c.tmod 16777217 = C at h2 bC
  generalize d.tmod 16777217 = E at h2 bE
  by_cases hz : C = 0 ∧ E = 0
  · obtain ⟨rfl, rfl⟩ := hz
    exact euclid_zero a b c d A B h1 h2 (Bcc_zero 5 (.inr rfl) A B (bA.p25 (by decide)) (bB.p25 (by decide))) (Bcc_zero 4 (.inl rfl) A B (bA.p25 (by decide)) (bB.p25 (by decide))) w
  · exact euclid_vals a b c d A B C E bA bB bC bE (by omega) ⟨a1, a2⟩ ⟨c1, c2⟩ h1 h2 w
end Go.Proofs.YtnoajhegcjoebaaGreatDoor
