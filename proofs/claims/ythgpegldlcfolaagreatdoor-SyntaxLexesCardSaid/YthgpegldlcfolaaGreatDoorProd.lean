/- trellisref1: sums, products of whole numbers, or none. -/
import Derived.Test.YthgpegldlcfolaaGreatDoorBase
import Derived.LoopTactic
namespace Go.Proofs.YthgpegldlcfolaaGreatDoor
section
/-- An int64. -/
def I64 (n : Int) : Prop := -9223372036854775808 ≤ n ∧ n ≤ 9223372036854775807
end
open Go.RowKit

set_option maxRecDepth 100000 in
set_option maxHeartbeats 400000 in
theorem rsum_yes (a b : Int) (ha : I64 a) (hb : I64 b) (h : I64 (a + b)) (w : World) : Calls Tryz.prog 82 #[.int .i64 a, .int .i64 b] w fun e w' => e = .returned (.tuple #[.int .i64 (a + b), .bool true]) ∧ w' = w := by
  obtain ⟨a1, a2⟩ := ha; obtain ⟨b1, b2⟩ := hb; obtain ⟨h1, h2⟩ := h
  by_cases c : 0 < b
  · have c1 : ¬ 9223372036854775807 - b < a := by omega
    have c2 : ¬ b < 0 := by omega
    go_enter Tryz.func82, Tryz.ntmps82
    go_wp2
    go_ret2
    exact ⟨rfl, rfl⟩
  · by_cases d : b < 0
    · have c1 : ¬ a < -9223372036854775808 - b := by omega
      go_enter Tryz.func82, Tryz.ntmps82
      go_wp2
      go_ret2
      exact ⟨rfl, rfl⟩
    · go_enter Tryz.func82, Tryz.ntmps82
      go_wp2
      go_ret2
      exact ⟨rfl, rfl⟩
set_option maxRecDepth 100000 in
set_option maxHeartbeats 400000 in
theorem rsum_no (a b : Int) (ha : I64 a) (hb : I64 b) (h : ¬ I64 (a + b)) (w : World) : Calls Tryz.prog 82 #[.int .i64 a, .int .i64 b] w fun e w' => e = .returned (.tuple #[.int .i64 0, .bool false]) ∧ w' = w := by
  unfold I64 at h
  obtain ⟨a1, a2⟩ := ha; obtain ⟨b1, b2⟩ := hb
  by_cases c : 0 < b
  · have c1 : 9223372036854775807 - b < a := by omega
    clear h
    go_enter Tryz.func82, Tryz.ntmps82
    go_wp2
    go_ret2
    exact ⟨rfl, rfl⟩
  · have d : b < 0 := by omega
    have c1 : a < -9223372036854775808 - b := by omega
    clear h
    go_enter Tryz.func82, Tryz.ntmps82
    go_wp2
    go_ret2
    exact ⟨rfl, rfl⟩
set_option maxHeartbeats 400000 in
theorem rminus_yes (a : Int) (h1 : -9223372036854775808 < a) (h2 : a ≤ 9223372036854775807) (w : World) : Calls Tryz.prog 83 #[.int .i64 a] w fun e w' => e = .returned (.tuple #[.int .i64 (-a), .bool true]) ∧ w' = w := by
  have c : (a == -9223372036854775808) = false := by simp; omega
  go_enter Tryz.func83, Tryz.ntmps83
  go_wp2
  go_ret2
  exact ⟨rfl, rfl⟩
set_option maxHeartbeats 400000 in
theorem rminus_no (w : World) : Calls Tryz.prog 83 #[.int .i64 (-9223372036854775808)] w fun e w' => e = .returned (.tuple #[.int .i64 0, .bool false]) ∧ w' = w := by
  go_enter Tryz.func83, Tryz.ntmps83
  go_wp2
  go_ret2
  exact ⟨rfl, rfl⟩
/-- Without its sign, a minus ahead. -/
def lo (a : Int) : Int := if 0 < a then -a else a
theorem lo_bd {a : Int} (h : I64 a) : -9223372036854775808 ≤ lo a ∧ lo a ≤ 0 := by
  obtain ⟨h1, h2⟩ := h
  unfold lo; split <;> omega
set_option maxHeartbeats 400000 in
theorem rbelow_any (a : Int) (h1 : -9223372036854775808 ≤ a) (h2 : a ≤ 9223372036854775807) (w : World) : Calls Tryz.prog 85 #[.int .i64 a] w fun e w' => e = .returned (.int .i64 (lo a)) ∧ w' = w := by
  unfold lo
  by_cases c : 0 < a
  · rw [if_pos c]
    go_enter Tryz.func85, Tryz.ntmps85
    go_wp2
    go_ret
    exact ⟨rfl, rfl⟩
  · rw [if_neg c]
    go_enter Tryz.func85, Tryz.ntmps85
    go_wp2
    go_ret
    exact ⟨rfl, rfl⟩
theorem half (n : Int) (h : n ≤ 0) : (n.tmod 2 = 0 ∧ n = 2 * n.tdiv 2 ∨ n.tmod 2 = -1 ∧ n = 2 * n.tdiv 2 - 1) ∧ n.tdiv 2 ≤ 0 ∧ n ≤ n.tdiv 2 ∧ (n < 0 → n < n.tdiv 2) := by
  obtain ⟨m, rfl⟩ : ∃ m : Int, n = -m := ⟨-n, by omega⟩
  have hm : 0 ≤ m := by omega
  rw [Int.neg_tmod, Int.neg_tdiv, Int.tmod_eq_emod_of_nonneg hm, Int.tdiv_eq_ediv_of_nonneg hm]
  omega
/-- What is left to add: x for each of -n. -/
def Left (T x n o : Int) : Prop := T = o - x * n
theorem Left.even {T x n o q : Int} (h : Left T x n o) (hq : n = 2 * q) : Left T (x + x) q o := by
  unfold Left at *
  rw [h, hq, Int.add_mul, show x * (2 * q) = 2 * (x * q) by rw [Int.mul_left_comm]]
  omega
theorem Left.odd {T x n o q : Int} (h : Left T x n o) (hq : n = 2 * q - 1) : Left T (x + x) q (o + x) := by
  unfold Left at *
  rw [h, hq, Int.add_mul, Int.mul_sub, show x * (2 * q) = 2 * (x * q) by rw [Int.mul_left_comm], Int.mul_one]
  omega
theorem Left.le {T x n o : Int} (h : Left T x n o) (hx : x ≤ 0) (hn : n ≤ 0) : T ≤ o := by
  unfold Left at h
  have : 0 ≤ x * n := Int.mul_nonneg_of_nonpos_of_nonpos hx hn
  omega
theorem Left.lt {T x n o : Int} (h : Left T x n o) (hx : x ≤ 0) (hn : n < 0) : T ≤ o + x := by
  unfold Left at h
  obtain ⟨m, rfl⟩ : ∃ m : Int, n = m - 1 := ⟨n + 1, by omega⟩
  have : 0 ≤ x * m := Int.mul_nonneg_of_nonpos_of_nonpos hx (by omega)
  rw [Int.mul_sub, Int.mul_one] at h
  omega
/-- The round's state: what is known of it. -/
def Mid (T x n o : Int) (ov : Bool) : Prop := -9223372036854775808 ≤ x ∧ x ≤ 0 ∧ -9223372036854775808 ≤ n ∧ n ≤ 0 ∧ -9223372036854775808 ≤ o ∧ o ≤ 0 ∧ ((ov = false ∧ Left T x n o) ∨ (ov = true ∧ n < 0 ∧ T < -9223372036854775808))
/-- The product and whether it is an int64. -/
def ProdIs (e : Ending) (P : Int) : Prop := (I64 P ∧ e = .returned (.tuple #[.int .i64 P, .bool true])) ∨ (¬ I64 P ∧ e = .returned (.tuple #[.int .i64 0, .bool false]))
theorem lo_mul (a b : Int) : lo a * lo b = a * b ∨ lo a * lo b = -(a * b) := by
  unfold lo
  split <;> split <;> simp [Int.neg_mul, Int.mul_neg]
theorem lo_sign {a b : Int} (ha : a ≠ 0) (hb : b ≠ 0) : (decide (a < 0) == decide (b < 0)) = true → lo a * lo b = a * b := by
  unfold lo
  intro h
  split <;> split
  · rw [Int.neg_mul_neg]
  · exfalso
    rw [decide_eq_false (by omega), decide_eq_true (by omega)] at h; exact Bool.noConfusion h
  · exfalso
    rw [decide_eq_true (by omega), decide_eq_false (by omega)] at h; exact Bool.noConfusion h
  · rfl
theorem lo_sign' {a b : Int} (ha : a ≠ 0) (hb : b ≠ 0) : (decide (a < 0) == decide (b < 0)) = false → lo a * lo b = -(a * b) := by
  unfold lo
  intro h
  split <;> split
  · exfalso
    rw [decide_eq_false (by omega), decide_eq_false (by omega)] at h; exact Bool.noConfusion h
  · rw [Int.neg_mul]
  · rw [Int.mul_neg]
  · exfalso
    rw [decide_eq_true (by omega), decide_eq_true (by omega)] at h; exact Bool.noConfusion h
theorem Mid.over {T x n o : Int} {ov : Bool} (h : Mid T x n o ov) (hv : ov = true) : T < -9223372036854775808 := by
  obtain ⟨_, _, _, _, _, _, ⟨h1, _⟩ | ⟨_, _, h2⟩⟩ := h
  · rw [hv] at h1; cases h1
  · exact h2
theorem Mid.last {T x o : Int} {ov : Bool} (h : Mid T x 0 o ov) : ov = false ∧ T = o ∧ -9223372036854775808 ≤ o ∧ o ≤ 0 := by
  obtain ⟨_, _, _, _, h5, h6, ⟨h1, h2⟩ | ⟨_, h2, _⟩⟩ := h
  · unfold Left at h2; rw [Int.mul_zero] at h2; exact ⟨h1, by omega, h5, h6⟩
  · omega
/-- An even round, and it goes on. -/
theorem Mid.evenYes {T x n o q : Int} {ov : Bool} (h : Mid T x n o ov) (hq : n = 2 * q) (hn : q < 0) (hx : I64 (x + x)) : Mid T (x + x) q o ov := by
  obtain ⟨h1, h2, h3, h4, h5, h6, h7⟩ := h
  refine ⟨hx.1, by omega, by omega, by omega, h5, h6, ?_⟩
  rcases h7 with ⟨h7, h8⟩ | ⟨h7, h8, h9⟩
  · exact Or.inl ⟨h7, h8.even hq⟩
  · exact Or.inr ⟨h7, hn, h9⟩
theorem Mid.evenNo {T x n o q : Int} {ov : Bool} (h : Mid T x n o ov) (hq : n = 2 * q) (hn : q < 0) (hx : ¬ I64 (x + x)) : Mid T 0 q o true := by
  obtain ⟨h1, h2, h3, h4, h5, h6, h7⟩ := h
  refine ⟨by omega, by omega, by omega, by omega, h5, h6, Or.inr ⟨rfl, hn, ?_⟩⟩
  rcases h7 with ⟨h7, h8⟩ | ⟨h7, h8, h9⟩
  · have := (h8.even hq).lt (by omega) hn
    unfold I64 at hx; omega
  · exact h9
theorem Mid.oddFull {T x n o q : Int} (h : Mid T x n o false) (hq : n = 2 * q - 1) (hq0 : q ≤ 0) (hx : ¬ I64 (o + x)) : T < -9223372036854775808 := by
  obtain ⟨h1, h2, h3, h4, h5, h6, h7⟩ := h
  rcases h7 with ⟨h7, h8⟩ | ⟨h7, h8, h9⟩
  · have := (h8.odd hq).le (by omega) hq0
    unfold I64 at hx; omega
  · exact h9
theorem Mid.oddYes {T x n o q : Int} (h : Mid T x n o false) (hq : n = 2 * q - 1) (hn : q < 0) (ho : I64 (o + x)) (hx : I64 (x + x)) : Mid T (x + x) q (o + x) false := by
  obtain ⟨h1, h2, h3, h4, h5, h6, h7⟩ := h
  refine ⟨hx.1, by omega, by omega, by omega, ho.1, by omega, ?_⟩
  rcases h7 with ⟨h7, h8⟩ | ⟨h7, h8, h9⟩
  · exact Or.inl ⟨rfl, h8.odd hq⟩
  · cases h7
theorem Mid.oddNo {T x n o q : Int} (h : Mid T x n o false) (hq : n = 2 * q - 1) (hn : q < 0) (ho : I64 (o + x)) (hx : ¬ I64 (x + x)) : Mid T 0 q (o + x) true := by
  obtain ⟨h1, h2, h3, h4, h5, h6, h7⟩ := h
  refine ⟨by omega, by omega, by omega, by omega, ho.1, by omega, Or.inr ⟨rfl, hn, ?_⟩⟩
  rcases h7 with ⟨h7, h8⟩ | ⟨h7, h8, h9⟩
  · have := (h8.odd hq).lt (by omega) hn
    have := ho.2
    unfold I64 at hx; omega
  · cases h7
theorem Mid.oddEnd {T x n o : Int} (h : Mid T x n o false) (hq : n = 2 * 0 - 1) (ho : I64 (o + x)) : Mid T x 0 (o + x) false := by
  obtain ⟨h1, h2, h3, h4, h5, h6, h7⟩ := h
  refine ⟨h1, h2, by omega, by omega, ho.1, by omega, ?_⟩
  rcases h7 with ⟨h7, h8⟩ | ⟨h7, h8, h9⟩
  · refine Or.inl ⟨rfl, ?_⟩
    have := h8.odd hq
    unfold Left at this ⊢; rw [Int.mul_zero] at this ⊢; exact this
  · cases h7
/-- No int64, on either side. -/
theorem too_far {P L T : Int} (h : T < -9223372036854775808) (hT : -L = T) (hP : L = P ∨ L = -P) : ¬ I64 P := by unfold I64; omega
set_option maxRecDepth 100000 in
set_option maxHeartbeats 2000000 in
theorem rproduct_any (a b : Int) (ha : I64 a) (hb : I64 b) (w : World) : Calls Tryz.prog 81 #[.int .i64 a, .int .i64 b] w fun e w' => ProdIs e (a * b) ∧ w' = w := by
  by_cases za : a = 0
  · subst za
    go_enter Tryz.func81, Tryz.ntmps81
    go_wp2
    go_ret2
    exact ⟨Or.inl ⟨by simp [I64], by simp⟩, rfl⟩
  by_cases zb : b = 0
  · subst zb
    have z1 : (a == 0) = false := by simpa using za
    go_enter Tryz.func81, Tryz.ntmps81
    go_wp2
    go_ret2
    exact ⟨Or.inl ⟨by simp [I64], by simp⟩, rfl⟩
  have z1 : (a == 0) = false := by simpa using za
  have z2 : (b == 0) = false := by simpa using zb
  have HA : Hid _ := rbelow_any a ha.1 ha.2
  have HB : Hid _ := rbelow_any b hb.1 hb.2
  have M0 : Hid (Mid (-(lo a * lo b)) (lo a) (lo b) 0 false) := ⟨(lo_bd ha).1, (lo_bd ha).2, (lo_bd hb).1, (lo_bd hb).2, by decide, by decide, Or.inl ⟨rfl, by unfold Left; omega⟩⟩
  have S0 : Hid _ := lo_mul a b
  have S1 : Hid _ := lo_sign za zb
  have S2 : Hid _ := lo_sign' za zb
  clear za zb ha hb
  have HT : Hid (∃ T, T = -(lo a * lo b)) := ⟨_, rfl⟩
  obtain ⟨TT, hTT⟩ := HT.out
  rw [← hTT] at M0
  have NO : Hid (TT < -9223372036854775808 → ¬ I64 (a * b)) := fun h => too_far h hTT.symm S0.out
  have EQ1 : Hid ((decide (a < 0) == decide (b < 0)) = true → a * b = -TT) := fun h => by rw [← S1.out h, hTT]; omega
  have EQ2 : Hid ((decide (a < 0) == decide (b < 0)) = false → a * b = TT) := fun h => by have := S2.out h; omega
  clear S0 S1 S2 HT hTT
  generalize lo a = x0 at *
  generalize lo b = n0 at *
  generalize a * b = PP at *
  go_enter Tryz.func81, Tryz.ntmps81
  go_wp2_with fail
  refine (HA.out _).mono ?_
  rintro e w1 ⟨rfl, rfl⟩
  go_wp2_with fail
  refine (HB.out _).mono ?_
  rintro e w1 ⟨rfl, rfl⟩
  go_wp2
  go_loop [6, 7, 8, 9, 10] (fun x n o f v => ∃ (X N O : Int) (fb ov : Bool), x = .int .i64 X ∧ n = .int .i64 N ∧ o = .int .i64 O ∧ f = .bool fb ∧ v = .bool ov ∧ Mid TT X N O ov) (fun _ n _ _ _ => (-(intOf n)).toNat)
  case atStart => exact ⟨x0, n0, 0, true, false, rfl, rfl, rfl, rfl, rfl, M0.out⟩
  case round =>
    clear M0 HA HB
    obtain ⟨X, N, O, fb, ov, rfl, rfl, rfl, rfl, rfl, hM⟩ := hrel
    have HM : Hid (Mid TT X N O ov) := hM
    clear hM
    by_cases hz : N = 0
    · subst hz
      obtain ⟨rfl, rfl, o1, o2⟩ := HM.out.last
      cases hs : (decide (a < 0) == decide (b < 0))
      · go_wp2
        go_ret2
        exact ⟨Or.inl ⟨by rw [EQ2.out hs]; exact ⟨o1, by omega⟩, by rw [EQ2.out hs]; rfl⟩, rfl⟩
      · by_cases hm : TT = -9223372036854775808
        · have K := rminus_no
          subst hm
          have KH : Hid _ := K
          clear K
          go_wp2_with fail
          refine (KH.out _).mono ?_
          rintro e w1 ⟨rfl, rfl⟩
          go_wp2
          go_ret2
          exact ⟨Or.inr ⟨by rw [EQ1.out hs]; unfold I64; omega, rfl⟩, rfl⟩
        · have KH : Hid _ := rminus_yes TT (by omega) (by omega)
          go_wp2_with fail
          refine (KH.out _).mono ?_
          rintro e w1 ⟨rfl, rfl⟩
          go_wp2
          go_ret2
          exact ⟨Or.inl ⟨by rw [EQ1.out hs]; unfold I64; omega, by rw [EQ1.out hs]; rfl⟩, rfl⟩
    · have hb := HM.out
      obtain ⟨x1, x2, n1, n2, o1, o2, _⟩ := hb
      obtain ⟨hp, hq1, hq2, hq3⟩ := half N n2
      have hlt : N < N.tdiv 2 := hq3 (by omega)
      have hz' : (N == 0) = false := by simpa using hz
      have q1 : -9223372036854775808 ≤ N.tdiv 2 := by omega
      clear hq3 hq2
      have e : Hid (N.tmod 2 = 0 ∧ N = 2 * N.tdiv 2 ∨ N.tmod 2 = -1 ∧ N = 2 * N.tdiv 2 - 1) := hp
      clear hp
      rcases e.out with ⟨t, e1⟩ | ⟨t, e1⟩
      · have E1 : Hid _ := e1
        have hq0 : N.tdiv 2 < 0 := by omega
        have hqz : (N.tdiv 2 == 0) = false := by simp; omega
        clear e1
        by_cases hx : I64 (X + X)
        · have KS : Hid _ := rsum_yes X X ⟨x1, by omega⟩ ⟨x1, by omega⟩ hx
          have HX : Hid _ := hx
          clear hx
          go_wp2_with fail
          refine (KS.out _).mono ?_
          rintro e w1 ⟨rfl, rfl⟩
          go_wp2
          go_round
          case rel => exact ⟨X + X, N.tdiv 2, O, true, ov, rfl, rfl, rfl, rfl, rfl, HM.out.evenYes E1.out hq0 HX.out⟩
          case measure => simp [intOf]; omega
        · have KS : Hid _ := rsum_no X X ⟨x1, by omega⟩ ⟨x1, by omega⟩ hx
          have HX : Hid _ := hx
          clear hx
          go_wp2_with fail
          refine (KS.out _).mono ?_
          rintro e w1 ⟨rfl, rfl⟩
          go_wp2
          go_round
          case rel => exact ⟨0, N.tdiv 2, O, false, true, rfl, rfl, rfl, rfl, rfl, HM.out.evenNo E1.out hq0 HX.out⟩
          case measure => simp [intOf]; omega
      · have E1 : Hid _ := e1
        clear e1
        cases ov
        · by_cases ho : I64 (O + X)
          · have KO : Hid _ := rsum_yes O X ⟨o1, by omega⟩ ⟨x1, by omega⟩ ho
            have HO : Hid _ := ho
            clear ho
            by_cases hq0 : N.tdiv 2 = 0
            · have EE : Hid (N = 2 * 0 - 1) := by have := E1.out; rw [hq0] at this; exact this
              go_wp2_with fail
              refine (KO.out _).mono ?_
              rintro e w1 ⟨rfl, rfl⟩
              go_wp2
              go_round
              case rel => exact ⟨X, 0, O + X, true, false, rfl, rfl, rfl, rfl, rfl, HM.out.oddEnd EE.out HO.out⟩
              case measure => simp [intOf]; omega
            · have hql : N.tdiv 2 < 0 := by omega
              have hqz : (N.tdiv 2 == 0) = false := by simpa using hq0
              clear hq0
              by_cases hx : I64 (X + X)
              · have KS : Hid _ := rsum_yes X X ⟨x1, by omega⟩ ⟨x1, by omega⟩ hx
                have HX : Hid _ := hx
                clear hx
                go_wp2_with fail
                refine (KO.out _).mono ?_
                rintro e w1 ⟨rfl, rfl⟩
                go_wp2_with fail
                refine (KS.out _).mono ?_
                rintro e w1 ⟨rfl, rfl⟩
                go_wp2
                go_round
                case rel => exact ⟨X + X, N.tdiv 2, O + X, true, false, rfl, rfl, rfl, rfl, rfl, HM.out.oddYes E1.out hql HO.out HX.out⟩
                case measure => simp [intOf]; omega
              · have KS : Hid _ := rsum_no X X ⟨x1, by omega⟩ ⟨x1, by omega⟩ hx
                have HX : Hid _ := hx
                clear hx
                go_wp2_with fail
                refine (KO.out _).mono ?_
                rintro e w1 ⟨rfl, rfl⟩
                go_wp2_with fail
                refine (KS.out _).mono ?_
                rintro e w1 ⟨rfl, rfl⟩
                go_wp2
                go_round
                case rel => exact ⟨0, N.tdiv 2, O + X, false, true, rfl, rfl, rfl, rfl, rfl, HM.out.oddNo E1.out hql HO.out HX.out⟩
                case measure => simp [intOf]; omega
          · have KO : Hid _ := rsum_no O X ⟨o1, by omega⟩ ⟨x1, by omega⟩ ho
            have HO : Hid _ := ho
            clear ho
            go_wp2_with fail
            refine (KO.out _).mono ?_
            rintro e w1 ⟨rfl, rfl⟩
            go_wp2
            go_ret2
            exact ⟨Or.inr ⟨NO.out (HM.out.oddFull E1.out hq1 HO.out), rfl⟩, rfl⟩
        · go_wp2
          go_ret2
          exact ⟨Or.inr ⟨NO.out (HM.out.over rfl), rfl⟩, rfl⟩
end Go.Proofs.YthgpegldlcfolaaGreatDoor
