/- ValueRing's walk. -/
import Derived.Test.YtnoajhegcjoebaaGreatDoorRingVals
import Derived.Deep.CutRange
namespace Go.Proofs.YtnoajhegcjoebaaGreatDoor
open Go.RowKit
attribute [local go_sem] eqV neqV

theorem tmod_bd (n : Int) (m : Int) (h : 0 < m) : Bd (m - 1) (n.tmod m) := by
  have h1 := Int.lt_tmod_of_pos n h
  have h2 := Int.tmod_lt_of_pos n h
  constructor <;> omega
set_option maxRecDepth 100000 in
set_option maxHeartbeats 8000000 in
theorem ring_law (a b c d e f : Int) (w : World) (_ : -9223372036854775808 ≤ a) (_ : a ≤ 9223372036854775807) (_ : -9223372036854775808 ≤ b) (_ : b ≤ 9223372036854775807) (_ : -9223372036854775808 ≤ c) (_ : c ≤ 9223372036854775807)
    (_ : -9223372036854775808 ≤ d) (_ : d ≤ 9223372036854775807) (_ : -9223372036854775808 ≤ e) (_ : e ≤ 9223372036854775807) (_ : -9223372036854775808 ≤ f) (_ : f ≤ 9223372036854775807) :
    Calls Tryz.prog 4 #[.int .i64 a, .int .i64 b, .int .i64 c, .int .i64 d, .int .i64 e, .int .i64 f] w fun e w' => e = .returned (.bool true) ∧ G w w' := by
  have Ba : Hid (Bd 255 (a.tmod 256)) := tmod_bd a 256 (by decide); have Bb : Hid (Bd 255 (b.tmod 256)) := tmod_bd b 256 (by decide); have Bc : Hid (Bd 255 (c.tmod 256)) := tmod_bd c 256 (by decide)
  have Be : Hid (Bd 255 (e.tmod 256)) := tmod_bd e 256 (by decide); have Bdd : Hid (Bd 255 (d.tmod 256)) := tmod_bd d 256 (by decide); have Bf : Hid (Bd 255 (f.tmod 256)) := tmod_bd f 256 (by decide)
  have Wa : Hid (Bd 1048575 (a.tmod 1048576)) := tmod_bd a 1048576 (by decide); have Wc : Hid (Bd 1048575 (c.tmod 1048576)) := tmod_bd c 1048576 (by decide); have We : Hid (Bd 1048575 (e.tmod 1048576)) := tmod_bd e 1048576 (by decide)
  have H1 : Hid _ := gauss_any a b 255 (by decide) (by decide)
  have H2 : Hid _ := gauss_any c d 255 (by decide) (by decide)
  have H3 : Hid _ := gauss_any e f 255 (by decide) (by decide)
  have H4 : Hid _ := ring_cpx (a.tmod 256) (b.tmod 256) (c.tmod 256) (d.tmod 256) (e.tmod 256) (f.tmod 256) Ba.out Bb.out Bc.out Bdd.out Be.out Bf.out
  have H5 : Hid _ := norms_cpx (a.tmod 256) (b.tmod 256) (c.tmod 256) (d.tmod 256) Ba.out Bb.out Bc.out Bdd.out
  have H6 : Hid (∀ w, Calls Tryz.prog 12 #[.int .i64 a, .int .i64 1048575] w fun e w' => e = .returned (.int .i64 (a.tmod 1048576)) ∧ G w w') := fun w => (cut_any a 1048575 (by decide) (by decide) w).mono (fun _ _ h => ⟨h.1, h.2 ▸ G.refl _⟩)
  have H7 : Hid (∀ w, Calls Tryz.prog 12 #[.int .i64 c, .int .i64 1048575] w fun e w' => e = .returned (.int .i64 (c.tmod 1048576)) ∧ G w w') := fun w => (cut_any c 1048575 (by decide) (by decide) w).mono (fun _ _ h => ⟨h.1, h.2 ▸ G.refl _⟩)
  have H8 : Hid (∀ w, Calls Tryz.prog 12 #[.int .i64 e, .int .i64 1048575] w fun ee w' => ee = .returned (.int .i64 (e.tmod 1048576)) ∧ G w w') := fun w => (cut_any e 1048575 (by decide) (by decide) w).mono (fun _ _ h => ⟨h.1, h.2 ▸ G.refl _⟩)
  have H9 : Hid _ := ring_whole (a.tmod 1048576) (c.tmod 1048576) (e.tmod 1048576) Wa.out Wc.out We.out
  have H10 : Hid _ := dw_mul (a.tmod 1048576) (c.tmod 1048576) ((Wa.out.mul Wc.out).i64 (by decide)) (Wc.out.i64 (by decide))
  have hwp : wrap64 (a.tmod 1048576 * c.tmod 1048576) = a.tmod 1048576 * c.tmod 1048576 := by
    obtain ⟨h1, h2⟩ := Wa.out.mul Wc.out
    generalize a.tmod 1048576 * c.tmod 1048576 = t at h1 h2
    unfold wrap64; omega
  have HC : Hid (∀ w, Calls Tryz.prog 12 #[.int .i64 a, .int .i64 255] w fun e w' => e = .returned (.int .i64 (a.tmod 256)) ∧ G w w') := fun w => (cut_any a 255 (by decide) (by decide) w).mono (fun _ _ h => ⟨h.1, h.2 ▸ G.refl _⟩)
  have pr := ((Ba.out.mul Ba.out).sub (Bb.out.mul (show Bd 0 0 from ⟨by decide, by decide⟩))).p25 (by decide)
  have pi := ((Ba.out.mul (show Bd 0 0 from ⟨by decide, by decide⟩)).add (Bb.out.mul Ba.out)).p25 (by decide)
  have HD : Hid _ := does_of 3 3 (a.tmod 256) (b.tmod 256) 2 (a.tmod 256) 0 E0 E0 3 _ _ E0 (by decide) (Bcw_mul (a.tmod 256) (b.tmod 256) (a.tmod 256) (Ba.out.p25 (by decide)) (Bb.out.p25 (by decide)) (Ba.out.p25 (by decide)) pr pi)
  have HE : Hid _ := dc_mul (a.tmod 256) (b.tmod 256) (a.tmod 256) 0 (Ba.out.p25 (by decide)) (Bb.out.p25 (by decide)) (Ba.out.p25 (by decide)) ⟨by decide, by decide⟩ pr pi
  generalize a.tmod 256 * a.tmod 256 - b.tmod 256 * 0 = q1 at HD HE
  generalize a.tmod 256 * 0 + b.tmod 256 * a.tmod 256 = q2 at HD HE
  clear Ba Bb Bc Be Bdd Bf Wa Wc We pr pi
  go_enter Tryz.func4, Tryz.ntmps4
  go_wp2_with fail
  refine (H1.out _).mono ?_
  rintro e w1 ⟨rfl, hb1⟩
  have g1 : G w w1 := (G.refl w).trans hb1
  clear hb1
  go_wp2_with fail
  refine (H2.out _).mono ?_
  rintro e w2 ⟨rfl, hb2⟩
  have s2 : G w1 w2 := ((G.refl w1).alloc _).trans hb2
  have c_b0_2 := G.cells hb2 (b := w1.heap.size) (f := fun o => [Value.int IntKind.i64 3, Value.int IntKind.i64 (a.tmod 256), Value.int IntKind.i64 (b.tmod 256), Value.string E0][o]?) (by simp) (by simp)
  have z_b0_2 : w1.heap.size < w2.heap.size := by have := hb2.size; simp at this; omega
  have g2 : G w w2 := g1.trans s2
  clear  hb2 s2 g1
  go_wp2_with fail
  refine (H3.out _).mono ?_
  rintro e w3 ⟨rfl, hb3⟩
  have s3 : G w2 w3 := ((G.refl w2).alloc _).trans hb3
  have c_b0_3 := G.cells s3 c_b0_2 z_b0_2
  have z_b0_3 := Nat.lt_of_lt_of_le z_b0_2 s3.size
  have c_b1_3 := G.cells hb3 (b := w2.heap.size) (f := fun o => [Value.int IntKind.i64 3, Value.int IntKind.i64 (c.tmod 256), Value.int IntKind.i64 (d.tmod 256), Value.string E0][o]?) (by simp) (by simp)
  have z_b1_3 : w2.heap.size < w3.heap.size := by have := hb3.size; simp at this; omega
  have g3 : G w w3 := g2.trans s3
  clear c_b0_2 z_b0_2 hb3 s3 g2
  go_wp2_with fail
  refine (H4.out _).mono ?_
  rintro e w4 ⟨rfl, hb4⟩
  have s4 : G w3 w4 := ((G.refl w3).alloc _).trans hb4
  have c_b0_4 := G.cells s4 c_b0_3 z_b0_3
  have z_b0_4 := Nat.lt_of_lt_of_le z_b0_3 s4.size
  have c_b1_4 := G.cells s4 c_b1_3 z_b1_3
  have z_b1_4 := Nat.lt_of_lt_of_le z_b1_3 s4.size
  have c_b2_4 := G.cells hb4 (b := w3.heap.size) (f := fun o => [Value.int IntKind.i64 3, Value.int IntKind.i64 (e.tmod 256), Value.int IntKind.i64 (f.tmod 256), Value.string E0][o]?) (by simp) (by simp)
  have z_b2_4 : w3.heap.size < w4.heap.size := by have := hb4.size; simp at this; omega
  have g4 : G w w4 := g3.trans s4
  clear c_b0_3 z_b0_3 c_b1_3 z_b1_3 hb4 s4 g3
  go_wp2_with fail
  refine (H5.out _).mono ?_
  rintro e w5 ⟨rfl, hb5⟩
  have s5 : G w4 w5 := (G.refl w4).trans hb5
  have c_b0_5 := G.cells s5 c_b0_4 z_b0_4
  have z_b0_5 := Nat.lt_of_lt_of_le z_b0_4 s5.size
  have c_b1_5 := G.cells s5 c_b1_4 z_b1_4
  have z_b1_5 := Nat.lt_of_lt_of_le z_b1_4 s5.size
  have c_b2_5 := G.cells s5 c_b2_4 z_b2_4
  have z_b2_5 := Nat.lt_of_lt_of_le z_b2_4 s5.size
  have g5 : G w w5 := g4.trans s5
  clear c_b0_4 z_b0_4 c_b1_4 z_b1_4 c_b2_4 z_b2_4 hb5 s5 g4
  go_wp2_with fail
  refine (H6.out _).mono ?_
  rintro e w6 ⟨rfl, hb6⟩
  have s6 : G w5 w6 := (G.refl w5).trans hb6
  have c_b0_6 := G.cells s6 c_b0_5 z_b0_5
  have z_b0_6 := Nat.lt_of_lt_of_le z_b0_5 s6.size
  have c_b1_6 := G.cells s6 c_b1_5 z_b1_5
  have z_b1_6 := Nat.lt_of_lt_of_le z_b1_5 s6.size
  have c_b2_6 := G.cells s6 c_b2_5 z_b2_5
  have z_b2_6 := Nat.lt_of_lt_of_le z_b2_5 s6.size
  have g6 : G w w6 := g5.trans s6
  clear c_b0_5 z_b0_5 c_b1_5 z_b1_5 c_b2_5 z_b2_5 hb6 s6 g5
  go_wp2_with fail
  refine (H7.out _).mono ?_
  rintro e w7 ⟨rfl, hb7⟩
  have s7 : G w6 w7 := ((G.refl w6).alloc _).trans hb7
  have c_b0_7 := G.cells s7 c_b0_6 z_b0_6
  have z_b0_7 := Nat.lt_of_lt_of_le z_b0_6 s7.size
  have c_b1_7 := G.cells s7 c_b1_6 z_b1_6
  have z_b1_7 := Nat.lt_of_lt_of_le z_b1_6 s7.size
  have c_b2_7 := G.cells s7 c_b2_6 z_b2_6
  have z_b2_7 := Nat.lt_of_lt_of_le z_b2_6 s7.size
  have c_b3_7 := G.cells hb7 (b := w6.heap.size) (f := fun o => [Value.int IntKind.i64 2, Value.int IntKind.i64 (a.tmod 1048576), Value.int IntKind.i64 0, Value.string E0][o]?) (by simp) (by simp)
  have z_b3_7 : w6.heap.size < w7.heap.size := by have := hb7.size; simp at this; omega
  have g7 : G w w7 := g6.trans s7
  clear c_b0_6 z_b0_6 c_b1_6 z_b1_6 c_b2_6 z_b2_6 hb7 s7 g6
  go_wp2_with fail
  refine (H8.out _).mono ?_
  rintro e w8 ⟨rfl, hb8⟩
  have s8 : G w7 w8 := ((G.refl w7).alloc _).trans hb8
  have c_b0_8 := G.cells s8 c_b0_7 z_b0_7
  have z_b0_8 := Nat.lt_of_lt_of_le z_b0_7 s8.size
  have c_b1_8 := G.cells s8 c_b1_7 z_b1_7
  have z_b1_8 := Nat.lt_of_lt_of_le z_b1_7 s8.size
  have c_b2_8 := G.cells s8 c_b2_7 z_b2_7
  have z_b2_8 := Nat.lt_of_lt_of_le z_b2_7 s8.size
  have c_b3_8 := G.cells s8 c_b3_7 z_b3_7
  have z_b3_8 := Nat.lt_of_lt_of_le z_b3_7 s8.size
  have c_b4_8 := G.cells hb8 (b := w7.heap.size) (f := fun o => [Value.int IntKind.i64 2, Value.int IntKind.i64 (c.tmod 1048576), Value.int IntKind.i64 0, Value.string E0][o]?) (by simp) (by simp)
  have z_b4_8 : w7.heap.size < w8.heap.size := by have := hb8.size; simp at this; omega
  have g8 : G w w8 := g7.trans s8
  clear c_b0_7 z_b0_7 c_b1_7 z_b1_7 c_b2_7 z_b2_7 c_b3_7 z_b3_7 hb8 s8 g7
  go_wp2_with fail
  refine (H9.out _).mono ?_
  rintro e w9 ⟨rfl, hb9⟩
  have s9 : G w8 w9 := ((G.refl w8).alloc _).trans hb9
  have c_b0_9 := G.cells s9 c_b0_8 z_b0_8
  have z_b0_9 := Nat.lt_of_lt_of_le z_b0_8 s9.size
  have c_b1_9 := G.cells s9 c_b1_8 z_b1_8
  have z_b1_9 := Nat.lt_of_lt_of_le z_b1_8 s9.size
  have c_b2_9 := G.cells s9 c_b2_8 z_b2_8
  have z_b2_9 := Nat.lt_of_lt_of_le z_b2_8 s9.size
  have c_b3_9 := G.cells s9 c_b3_8 z_b3_8
  have z_b3_9 := Nat.lt_of_lt_of_le z_b3_8 s9.size
  have c_b4_9 := G.cells s9 c_b4_8 z_b4_8
  have z_b4_9 := Nat.lt_of_lt_of_le z_b4_8 s9.size
  have c_b5_9 := G.cells hb9 (b := w8.heap.size) (f := fun o => [Value.int IntKind.i64 2, Value.int IntKind.i64 (e.tmod 1048576), Value.int IntKind.i64 0, Value.string E0][o]?) (by simp) (by simp)
  have z_b5_9 : w8.heap.size < w9.heap.size := by have := hb9.size; simp at this; omega
  have g9 : G w w9 := g8.trans s9
  clear c_b0_8 z_b0_8 c_b1_8 z_b1_8 c_b2_8 z_b2_8 c_b3_8 z_b3_8 c_b4_8 z_b4_8 hb9 s9 g8
  go_wp2_with fail
  refine (H10.out _).mono ?_
  rintro e w10 ⟨rfl, hb10⟩
  have s10 : G w9 w10 := (G.refl w9).trans hb10
  have c_b0_10 := G.cells s10 c_b0_9 z_b0_9
  have z_b0_10 := Nat.lt_of_lt_of_le z_b0_9 s10.size
  have c_b1_10 := G.cells s10 c_b1_9 z_b1_9
  have z_b1_10 := Nat.lt_of_lt_of_le z_b1_9 s10.size
  have c_b2_10 := G.cells s10 c_b2_9 z_b2_9
  have z_b2_10 := Nat.lt_of_lt_of_le z_b2_9 s10.size
  have c_b3_10 := G.cells s10 c_b3_9 z_b3_9
  have z_b3_10 := Nat.lt_of_lt_of_le z_b3_9 s10.size
  have c_b4_10 := G.cells s10 c_b4_9 z_b4_9
  have z_b4_10 := Nat.lt_of_lt_of_le z_b4_9 s10.size
  have c_b5_10 := G.cells s10 c_b5_9 z_b5_9
  have z_b5_10 := Nat.lt_of_lt_of_le z_b5_9 s10.size
  have g10 : G w w10 := g9.trans s10
  clear c_b0_9 z_b0_9 c_b1_9 z_b1_9 c_b2_9 z_b2_9 c_b3_9 z_b3_9 c_b4_9 z_b4_9 c_b5_9 z_b5_9 hb10 s10 g9
  go_wp2_with fail
  generalize hw11 : w10.alloc _ = w11
  have s11 : G w10 w11 := hw11 ▸ (G.refl w10).alloc _
  have c_b0_11 := G.cells s11 c_b0_10 z_b0_10
  have z_b0_11 := Nat.lt_of_lt_of_le z_b0_10 s11.size
  have c_b1_11 := G.cells s11 c_b1_10 z_b1_10
  have z_b1_11 := Nat.lt_of_lt_of_le z_b1_10 s11.size
  have c_b2_11 := G.cells s11 c_b2_10 z_b2_10
  have z_b2_11 := Nat.lt_of_lt_of_le z_b2_10 s11.size
  have c_b3_11 := G.cells s11 c_b3_10 z_b3_10
  have z_b3_11 := Nat.lt_of_lt_of_le z_b3_10 s11.size
  have c_b4_11 := G.cells s11 c_b4_10 z_b4_10
  have z_b4_11 := Nat.lt_of_lt_of_le z_b4_10 s11.size
  have c_b5_11 := G.cells s11 c_b5_10 z_b5_10
  have z_b5_11 := Nat.lt_of_lt_of_le z_b5_10 s11.size
  have c_b6_11 : ∀ o, w11.cell? ⟨w10.heap.size, o, none⟩ = [Value.int IntKind.i64 2, Value.int IntKind.i64 (a.tmod 1048576 * c.tmod 1048576), Value.int IntKind.i64 0, Value.string E0][o]? := by subst hw11; simp
  have z_b6_11 : w10.heap.size < w11.heap.size := by subst hw11; simp
  have g11 : G w w11 := g10.trans s11
  clear c_b0_10 z_b0_10 c_b1_10 z_b1_10 c_b2_10 z_b2_10 c_b3_10 z_b3_10 c_b4_10 z_b4_10 c_b5_10 z_b5_10 hw11 s11 g10
  have gw : G w w11 := g11
  clear g11
  go_cut [23, 24] from 27 to 112 (fun p ok W => ∃ b, p = .pointer (some ⟨b, 0, none⟩) ∧ ok = .bool true ∧ W.cell? { block := b, off := 0 } = some (Value.int IntKind.i64 3) ∧ W.cell? { block := b, off := 1 } = some (Value.int IntKind.i64 q1) ∧ W.cell? { block := b, off := 2 } = some (Value.int IntKind.i64 q2) ∧ W.cell? { block := b, off := 3 } = some (Value.string E0) ∧ b < W.heap.size ∧ G w11 W)
  case first =>
    have HS : Hid (∀ W, G w11 W → (∀ (o : Nat), W.cell? { block := w1.heap.size, off := o } = [Value.int IntKind.i64 3, Value.int IntKind.i64 (a.tmod 256), Value.int IntKind.i64 (b.tmod 256), Value.string E0][o]?) ∧ G w11 W) := fun W h => ⟨G.cells h c_b0_11 z_b0_11, h⟩
    go_region_held3 (fun W => (∀ (o : Nat), W.cell? { block := w1.heap.size, off := o } = [Value.int IntKind.i64 3, Value.int IntKind.i64 (a.tmod 256), Value.int IntKind.i64 (b.tmod 256), Value.string E0][o]?) ∧ G w11 W) ((exact HS.out _ (by repeat (first | exact G.refl _ | refine G.drew ?_ | refine G.alloc ?_ _ | refine G.setCell ?_ (G.size ?_) _ | refine G.trans ?_ (by assumption))))) (first | (go_at_call 12; refine (HC.out _).mono ?_; rintro e wy ⟨rfl, hb_wy⟩; obtain ⟨hc_wy, hf_wy⟩ := hb_wy.rules; have hs_wy := hb_wy.size; (try simp at hs_wy); try (have hz_wy : w11.heap.size < wy.heap.size := by omega)) | (go_at_call 13; refine (HD.out _).mono ?_; rintro e wz ⟨rfl, hb_wz⟩; obtain ⟨hc_wz, hf_wz⟩ := hb_wz.rules; have hs_wz := hb_wz.size; (try simp at hs_wz); try (have hz_wz : w11.heap.size < wz.heap.size := by omega)))
    all_goals (go_wp2_with fail; go_meet)
    all_goals
      refine ⟨_, rfl, rfl, ?_, ?_, ?_, ?_, ?_, by repeat (first | exact G.refl _ | refine G.drew ?_ | refine G.alloc ?_ _ | refine G.setCell ?_ (G.size ?_) _ | refine G.trans ?_ (by assumption))⟩
      all_goals first | (simp [go_sem]; done) | (simp [go_sem, hc_wz]; done) | (simp [go_sem, hc_wz, hc_wy, hz_wy]; done) | (simp; omega)
  case' rest => skip
  obtain ⟨p23, rfl, rfl, c_p23_0, c_p23_1, c_p23_2, c_p23_3, z_p23, gA⟩ := hcut
  replace gw := gw.trans gA
  have c_b0_t := G.cells gA c_b0_11 z_b0_11
  have z_b0_t := Nat.lt_of_lt_of_le z_b0_11 gA.size
  have c_b3_t := G.cells gA c_b3_11 z_b3_11
  have z_b3_t := Nat.lt_of_lt_of_le z_b3_11 gA.size
  have c_b4_t := G.cells gA c_b4_11 z_b4_11
  have z_b4_t := Nat.lt_of_lt_of_le z_b4_11 gA.size
  have c_b6_t := G.cells gA c_b6_11 z_b6_11
  have z_b6_t := Nat.lt_of_lt_of_le z_b6_11 gA.size
  clear c_b0_11 z_b0_11 c_b3_11 z_b3_11 c_b4_11 z_b4_11 c_b6_11 z_b6_11
  have c_b0_c := c_b0_t; have z_b0_c := z_b0_t
  have c_b3_c := c_b3_t; have z_b3_c := z_b3_t
  have c_b4_c := c_b4_t; have z_b4_c := z_b4_t
  have c_b6_c := c_b6_t; have z_b6_c := z_b6_t
  clear c_b0_t z_b0_t c_b3_t z_b3_t c_b4_t z_b4_t c_b6_t z_b6_t
  clear gA
  go_wp2_with fail
  go_cut [25, 26] from 27 to 112 (fun p ok W => ∃ b, p = .pointer (some ⟨b, 0, none⟩) ∧ ok = .bool true ∧ W.cell? { block := b, off := 0 } = some (Value.int IntKind.i64 3) ∧ W.cell? { block := b, off := 1 } = some (Value.int IntKind.i64 q1) ∧ W.cell? { block := b, off := 2 } = some (Value.int IntKind.i64 q2) ∧ W.cell? { block := b, off := 3 } = some (Value.string E0) ∧ b < W.heap.size ∧ G wc W)
  case first =>
    have HS : Hid (∀ W, G wc W → (∀ (o : Nat), W.cell? { block := w1.heap.size, off := o } = [Value.int IntKind.i64 3, Value.int IntKind.i64 (a.tmod 256), Value.int IntKind.i64 (b.tmod 256), Value.string E0][o]?) ∧ G wc W) := fun W h => ⟨G.cells h c_b0_c z_b0_c, h⟩
    go_region_held3 (fun W => (∀ (o : Nat), W.cell? { block := w1.heap.size, off := o } = [Value.int IntKind.i64 3, Value.int IntKind.i64 (a.tmod 256), Value.int IntKind.i64 (b.tmod 256), Value.string E0][o]?) ∧ G wc W) ((exact HS.out _ (by repeat (first | exact G.refl _ | refine G.drew ?_ | refine G.alloc ?_ _ | refine G.setCell ?_ (G.size ?_) _ | refine G.trans ?_ (by assumption))))) (first | (go_at_call 12; refine (HC.out _).mono ?_; rintro e wy ⟨rfl, hb_wy⟩; obtain ⟨hc_wy, hf_wy⟩ := hb_wy.rules; have hs_wy := hb_wy.size; (try simp at hs_wy); try (have hz_wy : wc.heap.size < wy.heap.size := by omega)) | (go_at_call 13; refine (HE.out _).mono ?_; rintro e wz ⟨rfl, hb_wz⟩; obtain ⟨hc_wz, hf_wz⟩ := hb_wz.rules; have hs_wz := hb_wz.size; (try simp at hs_wz); try (have hz_wz : wc.heap.size < wz.heap.size := by omega)))
    all_goals (go_wp2_with fail; go_meet)
    all_goals
      refine ⟨_, rfl, rfl, ?_, ?_, ?_, ?_, ?_, by repeat (first | exact G.refl _ | refine G.drew ?_ | refine G.alloc ?_ _ | refine G.setCell ?_ (G.size ?_) _ | refine G.trans ?_ (by assumption))⟩
      all_goals first | (simp [go_sem]; done) | (simp [go_sem, hc_wz]; done) | (simp [go_sem, hc_wz, hc_wy, hz_wy]; done) | (simp; omega)
  case' rest => skip
  obtain ⟨p25, rfl, rfl, c_p25_0, c_p25_1, c_p25_2, c_p25_3, z_p25, gA⟩ := hcut
  replace gw := gw.trans gA
  have c_b0_t := G.cells gA c_b0_c z_b0_c
  have z_b0_t := Nat.lt_of_lt_of_le z_b0_c gA.size
  have c_b3_t := G.cells gA c_b3_c z_b3_c
  have z_b3_t := Nat.lt_of_lt_of_le z_b3_c gA.size
  have c_b4_t := G.cells gA c_b4_c z_b4_c
  have z_b4_t := Nat.lt_of_lt_of_le z_b4_c gA.size
  have c_b6_t := G.cells gA c_b6_c z_b6_c
  have z_b6_t := Nat.lt_of_lt_of_le z_b6_c gA.size
  clear c_b0_c z_b0_c c_b3_c z_b3_c c_b4_c z_b4_c c_b6_c z_b6_c
  have c_b0_c := c_b0_t; have z_b0_c := z_b0_t
  have c_b3_c := c_b3_t; have z_b3_c := z_b3_t
  have c_b4_c := c_b4_t; have z_b4_c := z_b4_t
  have c_b6_c := c_b6_t; have z_b6_c := z_b6_t
  clear c_b0_t z_b0_t c_b3_t z_b3_t c_b4_t z_b4_t c_b6_t z_b6_t
  replace c_p23_0 := (gA.cell z_p23).trans c_p23_0
  replace c_p23_1 := (gA.cell z_p23).trans c_p23_1
  replace c_p23_2 := (gA.cell z_p23).trans c_p23_2
  replace c_p23_3 := (gA.cell z_p23).trans c_p23_3
  clear gA
  go_wp2_with fail
  go_ret
  exact ⟨rfl, gw⟩
end Go.Proofs.YtnoajhegcjoebaaGreatDoor
