/- trellislaw1.float: some double, whatever it is asked. -/
import Derived.Test.YtficmpaeochcgaaGreatDoorFlCalls
namespace Go.Proofs.YtficmpaeochcgaaGreatDoor
open Go.RowKit Ieee

def nanW (w : World) : Nat := (Question.nanBits .f64 0 0).cut (w.tape w.drawn (.nanBits .f64 0 0))
theorem nanW_lt (w : World) : nanW w < 2 ^ 64 := by
  unfold nanW
  simp only [Question.cut]
  omega
theorem run_nan (w : World) : (binOp .quo 84 (.float .f64 0) (.float .f64 0)).run Tryz.prog w = .ok (.float .f64 (nanW w)) w.drew := by
  have h : FloatKind.f64.format.div 0 0 = none := by decide +kernel
  simp [binOp, Op.floatArith, h, Question.forced, nanW]
theorem word_read (s : Bool) (r : Nat) (h : r ≤ 9218868437227405312) (t : Bool) (f : Nat) : double.read (double.word s r) ≠ .nan t f := by
  intro he
  have hw := (read_word s r (by omega)).2
  unfold Format.read at he
  dsimp only at he
  rw [d_sw, d_inf, hw] at he
  split at he
  · cases he
  · split at he
    · cases he
    · split at he
      · cases he
      · omega
theorem int_read (n : Int) (t : Bool) (f : Nat) : double.read (floatOfInt .f64 n) ≠ .nan t f := by
  show double.read (double.nearest (decide (n < 0)) n.natAbs 0) ≠ _
  unfold Format.nearest
  split
  · exact word_read _ _ (by omega) t f
  · dsimp only
    rw [d_inf]
    exact word_read _ _ (Nat.min_le_right _ _) t f
theorem quo_ex (n : Int) (y : Nat) (s : Bool) (m : Nat) (p : Int) (hy : double.read y = .number s m p) (hm : m ≠ 0) : ∃ r, floatBits .quo .f64 (floatOfInt .f64 n) y = some r := by
  show ∃ r, ((double.read (floatOfInt .f64 n)).quotient (double.fractionBits + 2) (double.read y)).map double.write = some r
  rw [hy]
  cases h : double.read (floatOfInt .f64 n) with
  | nan t f => exact absurd h (int_read n t f)
  | infinity t => exact ⟨_, rfl⟩
  | number t q i => simp [Datum.quotient, hm]
theorem mul_ex (n : Int) (y : Nat) (s : Bool) (m : Nat) (p : Int) (hy : double.read y = .number s m p) (hm : m ≠ 0) : ∃ r, floatBits .mul .f64 (floatOfInt .f64 n) y = some r := by
  show ∃ r, ((double.read (floatOfInt .f64 n)).product (double.read y)).map double.write = some r
  rw [hy]
  cases h : double.read (floatOfInt .f64 n) with
  | nan t f => exact absurd h (int_read n t f)
  | infinity t => simp [Datum.product, hm]
  | number t q i => exact ⟨_, rfl⟩
theorem add_ex (n : Int) (y : Nat) (s : Bool) (m : Nat) (p : Int) (hy : double.read y = .number s m p) : ∃ r, floatBits .add .f64 (floatOfInt .f64 n) y = some r := by
  show ∃ r, ((double.read (floatOfInt .f64 n)).sum (double.read y)).map double.write = some r
  rw [hy]
  cases h : double.read (floatOfInt .f64 n) with
  | nan t f => exact absurd h (int_read n t f)
  | infinity t => exact ⟨_, rfl⟩
  | number t q i => exact ⟨_, rfl⟩
theorem bits_lt {op : BinOp} {x y r : Nat} (h : floatBits op .f64 x y = some r) : r < 2 ^ 64 := by
  have := floatBits_wf h
  simpa [Lit.wf] using this
theorem int_lt (n : Int) : floatOfInt .f64 n < 2 ^ 64 := by
  have := floatOfInt_wf .f64 n
  simpa [Lit.wf] using this
theorem rd_num (y : Nat) (h : (match double.read y with | .number _ m _ => m != 0 | _ => false) = true) : ∃ s m p, double.read y = .number s m p ∧ m ≠ 0 := by
  cases e : double.read y with
  | nan t f => rw [e] at h; cases h
  | infinity t => rw [e] at h; cases h
  | number t q i => rw [e] at h; exact ⟨t, q, i, rfl, by simpa using h⟩
/-- What float answers. -/
def FloatAns (x odd : Int) (w : World) : Prop := Calls Tryz.prog 66 #[.int .i64 x, .int .i64 odd] w fun e w' => ∃ b, e = .returned (.float .f64 b) ∧ b < 2 ^ 64 ∧ G w w'
set_option maxRecDepth 100000 in
set_option maxHeartbeats 1000000 in
theorem flo_1 (x : Int) (w : World) : FloatAns x 1 w := by
  have hn := run_nan
  unfold FloatAns
  go_enter Tryz.func66, Tryz.ntmps66
  go_wp2
  go_ret
  exact ⟨_, rfl, nanW_lt _, (G.refl _).drew⟩
set_option maxRecDepth 100000 in
set_option maxHeartbeats 1000000 in
theorem flo_2 (x : Int) (w : World) : FloatAns x 2 w := by
  have hb : floatBits .quo .f64 4607182418800017408 0 = some 9218868437227405312 := by decide +kernel
  have hn := fun w => run_float_arith (P := Tryz.prog) w .quo 84 .f64 _ _ _ hb
  unfold FloatAns
  go_enter Tryz.func66, Tryz.ntmps66
  go_wp2
  go_ret
  exact ⟨_, rfl, by decide, G.refl _⟩
set_option maxRecDepth 100000 in
set_option maxHeartbeats 1000000 in
theorem flo_3 (x : Int) (w : World) : FloatAns x 3 w := by
  have hb : floatBits .quo .f64 13830554455654793216 0 = some 18442240474082181120 := by decide +kernel
  have hn := fun w => run_float_arith (P := Tryz.prog) w .quo 84 .f64 _ _ _ hb
  unfold FloatAns
  go_enter Tryz.func66, Tryz.ntmps66
  go_wp2
  go_ret
  exact ⟨_, rfl, by decide, G.refl _⟩
set_option maxRecDepth 100000 in
set_option maxHeartbeats 1000000 in
theorem flo_4 (x : Int) (w : World) : FloatAns x 4 w := by
  have hn : Op.unary .neg (.float .f64 0) = pure (.float .f64 9223372036854775808) := rfl
  unfold FloatAns
  go_enter Tryz.func66, Tryz.ntmps66
  go_wp2
  go_ret
  exact ⟨_, rfl, by decide, G.refl _⟩
set_option maxRecDepth 100000 in
set_option maxHeartbeats 1000000 in
theorem flo_5 (x : Int) (w : World) : FloatAns x 5 w := by
  obtain ⟨s, m, p, hy, hm⟩ := rd_num 4621819117588971520 (by decide +kernel)
  obtain ⟨r, hb⟩ := quo_ex x 4621819117588971520 s m p hy hm
  have hn := fun w => run_float_arith (P := Tryz.prog) w .quo 84 .f64 _ _ _ hb
  have hl := bits_lt hb
  have HL : Hid _ := hl
  clear hb hy hm hl
  unfold FloatAns
  go_enter Tryz.func66, Tryz.ntmps66
  go_wp2
  go_ret
  exact ⟨_, rfl, HL.out, G.refl _⟩
set_option maxRecDepth 100000 in
set_option maxHeartbeats 1000000 in
theorem flo_6 (x : Int) (w : World) : FloatAns x 6 w := by
  obtain ⟨s, m, p, hy, hm⟩ := rd_num 4613937818241073152 (by decide +kernel)
  obtain ⟨r, hb⟩ := quo_ex x 4613937818241073152 s m p hy hm
  have hn := fun w => run_float_arith (P := Tryz.prog) w .quo 84 .f64 _ _ _ hb
  have hl := bits_lt hb
  have HL : Hid _ := hl
  clear hb hy hm hl
  unfold FloatAns
  go_enter Tryz.func66, Tryz.ntmps66
  go_wp2
  go_ret
  exact ⟨_, rfl, HL.out, G.refl _⟩
set_option maxRecDepth 100000 in
set_option maxHeartbeats 1000000 in
theorem flo_7 (x : Int) (w : World) : FloatAns x 7 w := by
  obtain ⟨s, m, p, hy, hm⟩ := rd_num 1 (by decide +kernel)
  obtain ⟨r, hb⟩ := mul_ex x 1 s m p hy hm
  have hn := fun w => run_float_arith (P := Tryz.prog) w .mul 84 .f64 _ _ _ hb
  have hl := bits_lt hb
  have HL : Hid _ := hl
  clear hb hy hm hl
  unfold FloatAns
  go_enter Tryz.func66, Tryz.ntmps66
  go_wp2
  go_ret
  exact ⟨_, rfl, HL.out, G.refl _⟩
set_option maxRecDepth 100000 in
set_option maxHeartbeats 1000000 in
theorem flo_8 (x : Int) (w : World) : FloatAns x 8 w := by
  obtain ⟨s, m, p, hy, hm⟩ := rd_num 4472406533629990549 (by decide +kernel)
  obtain ⟨r, hb⟩ := add_ex x 4472406533629990549 s m p hy
  have hn := fun w => run_float_arith (P := Tryz.prog) w .add 84 .f64 _ _ _ hb
  have hl := bits_lt hb
  have HL : Hid _ := hl
  clear hb hy hm hl
  unfold FloatAns
  go_enter Tryz.func66, Tryz.ntmps66
  go_wp2
  go_ret
  exact ⟨_, rfl, HL.out, G.refl _⟩
set_option maxRecDepth 100000 in
set_option maxHeartbeats 1000000 in
theorem flo_d (x : Int) (odd : Int) (ho : odd < 1 ∨ 9 < odd) (w : World) : FloatAns x odd w := by
  have n1 : (odd == 1) = false := by simp; omega
  have n2 : (odd == 2) = false := by simp; omega
  have n3 : (odd == 3) = false := by simp; omega
  have n4 : (odd == 4) = false := by simp; omega
  have n5 : (odd == 5) = false := by simp; omega
  have n6 : (odd == 6) = false := by simp; omega
  have n7 : (odd == 7) = false := by simp; omega
  have n8 : (odd == 8) = false := by simp; omega
  have n9 : (odd == 9) = false := by simp; omega
  clear ho
  obtain ⟨s, m, p, hy, hm⟩ := rd_num 4616189618054758400 (by decide +kernel)
  obtain ⟨r, hb⟩ := quo_ex x 4616189618054758400 s m p hy hm
  have hn := fun w => run_float_arith (P := Tryz.prog) w .quo 84 .f64 _ _ _ hb
  have hl := bits_lt hb
  have HL : Hid _ := hl
  clear hb hy hm hl
  unfold FloatAns
  go_enter Tryz.func66, Tryz.ntmps66
  go_wp2
  go_ret
  exact ⟨_, rfl, HL.out, G.refl _⟩
set_option maxRecDepth 100000 in
set_option maxHeartbeats 1000000 in
theorem flo_9 (x : Int) (w : World) : FloatAns x 9 w := by
  unfold FloatAns
  go_enter Tryz.func66, Tryz.ntmps66
  go_wp2
  go_ret
  exact ⟨_, rfl, int_lt x, G.refl _⟩
theorem float_any (x odd : Int) (w : World) : FloatAns x odd w := by
  by_cases h : odd < 1 ∨ 9 < odd
  · exact flo_d x odd h w
  · have : odd = 1 ∨ odd = 2 ∨ odd = 3 ∨ odd = 4 ∨ odd = 5 ∨ odd = 6 ∨ odd = 7 ∨ odd = 8 ∨ odd = 9 := by omega
    rcases this with rfl | rfl | rfl | rfl | rfl | rfl | rfl | rfl | rfl
    · exact flo_1 x w
    · exact flo_2 x w
    · exact flo_3 x w
    · exact flo_4 x w
    · exact flo_5 x w
    · exact flo_6 x w
    · exact flo_7 x w
    · exact flo_8 x w
    · exact flo_9 x w
end Go.Proofs.YtficmpaeochcgaaGreatDoor
