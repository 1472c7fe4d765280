/- kleene, case by case. -/
import Derived.Test.YtnoajhegcjoebaaGreatDoorLawLogic
import Derived.Deep.CutRange
namespace Go.Proofs.YtnoajhegcjoebaaGreatDoor
open Go.RowKit
attribute [local go_sem] eqV neqV

set_option maxRecDepth 100000 in
set_option maxHeartbeats 20000000 in
theorem kleene_22 (w : World) : Calls Tryz.prog 7 #[V 0 0 0 E0, V 0 0 0 E0] w fun e w' => e = .returned (.bool true) ∧ G w w' := by
  have wr0 : IntKind.i64.wrap 0 = 0 := by decide
  have wr1 : IntKind.i64.wrap 1 = 1 := by decide
  have wr2 : IntKind.i64.wrap 2 = 2 := by decide
  go_enter Tryz.func7, Tryz.ntmps7
  go_wp2_with fail
  refine (Not_2 _).mono ?_
  rintro e w1 ⟨rfl, hb1⟩
  have g1 : G w w1 := (((G.refl w).alloc _).alloc _).trans hb1
  have z_b0_1 : w.heap.size < w1.heap.size := by have := hb1.size; simp at this; omega
  have z_b1_1 : w.heap.size + 1 < w1.heap.size := by have := hb1.size; simp at this; omega
  have c_b0_1 := G.cells (((G.refl (w.alloc _)).alloc _).trans hb1) (b := w.heap.size) (f := fun o => [Value.int IntKind.i64 0, Value.int IntKind.i64 0, Value.int IntKind.i64 0, Value.string E0][o]?) (by simp) (by simp)
  have c_b1_1 := G.cells hb1 (b := w.heap.size + 1) (f := fun o => [Value.int IntKind.i64 0, Value.int IntKind.i64 0, Value.int IntKind.i64 0, Value.string E0][o]?) (by simp) (by simp)
  clear hb1
  go_wp2_with fail
  refine (Not_2 _).mono ?_
  rintro e w2 ⟨rfl, hb2⟩
  have s2 : G w1 w2 := ((G.refl w1).alloc _).trans hb2
  have c_b0_2 := G.cells s2 c_b0_1 z_b0_1
  have z_b0_2 := Nat.lt_of_lt_of_le z_b0_1 s2.size
  have c_b1_2 := G.cells s2 c_b1_1 z_b1_1
  have z_b1_2 := Nat.lt_of_lt_of_le z_b1_1 s2.size
  have c_b2_2 := G.cells hb2 (b := w1.heap.size) (f := fun o => [Value.int IntKind.i64 0, Value.int IntKind.i64 0, Value.int IntKind.i64 0, Value.string E0][o]?) (by simp) (by simp)
  have z_b2_2 : w1.heap.size < w2.heap.size := by have := hb2.size; simp at this; omega
  have g2 : G w w2 := g1.trans s2
  clear c_b0_1 z_b0_1 c_b1_1 z_b1_1 hb2 s2 g1
  go_wp2_with fail
  refine (ll_12_22 _).mono ?_
  rintro e w3 ⟨rfl, hb3⟩
  have s3 : G w2 w3 := ((G.refl w2).alloc _).trans hb3
  have c_b0_3 := G.cells s3 c_b0_2 z_b0_2
  have z_b0_3 := Nat.lt_of_lt_of_le z_b0_2 s3.size
  have c_b1_3 := G.cells s3 c_b1_2 z_b1_2
  have z_b1_3 := Nat.lt_of_lt_of_le z_b1_2 s3.size
  have c_b2_3 := G.cells s3 c_b2_2 z_b2_2
  have z_b2_3 := Nat.lt_of_lt_of_le z_b2_2 s3.size
  have c_b3_3 := G.cells hb3 (b := w2.heap.size) (f := fun o => [Value.int IntKind.i64 0, Value.int IntKind.i64 0, Value.int IntKind.i64 0, Value.string E0][o]?) (by simp) (by simp)
  have z_b3_3 : w2.heap.size < w3.heap.size := by have := hb3.size; simp at this; omega
  have g3 : G w w3 := g2.trans s3
  clear c_b0_2 z_b0_2 c_b1_2 z_b1_2 c_b2_2 z_b2_2 hb3 s3 g2
  go_wp2_with fail
  refine (ll_13_22 _).mono ?_
  rintro e w4 ⟨rfl, hb4⟩
  have s4 : G w3 w4 := ((G.refl w3).alloc _).trans hb4
  have c_b0_4 := G.cells s4 c_b0_3 z_b0_3
  have z_b0_4 := Nat.lt_of_lt_of_le z_b0_3 s4.size
  have c_b1_4 := G.cells s4 c_b1_3 z_b1_3
  have z_b1_4 := Nat.lt_of_lt_of_le z_b1_3 s4.size
  have c_b2_4 := G.cells s4 c_b2_3 z_b2_3
  have z_b2_4 := Nat.lt_of_lt_of_le z_b2_3 s4.size
  have c_b3_4 := G.cells s4 c_b3_3 z_b3_3
  have z_b3_4 := Nat.lt_of_lt_of_le z_b3_3 s4.size
  have c_b4_4 := G.cells hb4 (b := w3.heap.size) (f := fun o => [Value.int IntKind.i64 0, Value.int IntKind.i64 0, Value.int IntKind.i64 0, Value.string E0][o]?) (by simp) (by simp)
  have z_b4_4 : w3.heap.size < w4.heap.size := by have := hb4.size; simp at this; omega
  have g4 : G w w4 := g3.trans s4
  clear c_b0_3 z_b0_3 c_b1_3 z_b1_3 c_b2_3 z_b2_3 c_b3_3 z_b3_3 hb4 s4 g3
  go_wp2_with fail
  refine (Not_2 _).mono ?_
  rintro e w5 ⟨rfl, hb5⟩
  have s5 : G w4 w5 := ((G.refl w4).alloc _).trans hb5
  have c_b0_5 := G.cells s5 c_b0_4 z_b0_4
  have z_b0_5 := Nat.lt_of_lt_of_le z_b0_4 s5.size
  have c_b1_5 := G.cells s5 c_b1_4 z_b1_4
  have z_b1_5 := Nat.lt_of_lt_of_le z_b1_4 s5.size
  have c_b2_5 := G.cells s5 c_b2_4 z_b2_4
  have z_b2_5 := Nat.lt_of_lt_of_le z_b2_4 s5.size
  have c_b3_5 := G.cells s5 c_b3_4 z_b3_4
  have z_b3_5 := Nat.lt_of_lt_of_le z_b3_4 s5.size
  have c_b4_5 := G.cells s5 c_b4_4 z_b4_4
  have z_b4_5 := Nat.lt_of_lt_of_le z_b4_4 s5.size
  have c_b5_5 := G.cells hb5 (b := w4.heap.size) (f := fun o => [Value.int IntKind.i64 0, Value.int IntKind.i64 0, Value.int IntKind.i64 0, Value.string E0][o]?) (by simp) (by simp)
  have z_b5_5 : w4.heap.size < w5.heap.size := by have := hb5.size; simp at this; omega
  have g5 : G w w5 := g4.trans s5
  clear c_b0_4 z_b0_4 c_b1_4 z_b1_4 c_b2_4 z_b2_4 c_b3_4 z_b3_4 c_b4_4 z_b4_4 hb5 s5 g4
  go_wp2_with fail
  refine (ll_14_22 _).mono ?_
  rintro e w6 ⟨rfl, hb6⟩
  have s6 : G w5 w6 := ((G.refl w5).alloc _).trans hb6
  have c_b0_6 := G.cells s6 c_b0_5 z_b0_5
  have z_b0_6 := Nat.lt_of_lt_of_le z_b0_5 s6.size
  have c_b1_6 := G.cells s6 c_b1_5 z_b1_5
  have z_b1_6 := Nat.lt_of_lt_of_le z_b1_5 s6.size
  have c_b2_6 := G.cells s6 c_b2_5 z_b2_5
  have z_b2_6 := Nat.lt_of_lt_of_le z_b2_5 s6.size
  have c_b3_6 := G.cells s6 c_b3_5 z_b3_5
  have z_b3_6 := Nat.lt_of_lt_of_le z_b3_5 s6.size
  have c_b4_6 := G.cells s6 c_b4_5 z_b4_5
  have z_b4_6 := Nat.lt_of_lt_of_le z_b4_5 s6.size
  have c_b5_6 := G.cells s6 c_b5_5 z_b5_5
  have z_b5_6 := Nat.lt_of_lt_of_le z_b5_5 s6.size
  have c_b6_6 := G.cells hb6 (b := w5.heap.size) (f := fun o => [Value.int IntKind.i64 0, Value.int IntKind.i64 0, Value.int IntKind.i64 0, Value.string E0][o]?) (by simp) (by simp)
  have z_b6_6 : w5.heap.size < w6.heap.size := by have := hb6.size; simp at this; omega
  have g6 : G w w6 := g5.trans s6
  clear c_b0_5 z_b0_5 c_b1_5 z_b1_5 c_b2_5 z_b2_5 c_b3_5 z_b3_5 c_b4_5 z_b4_5 c_b5_5 z_b5_5 hb6 s6 g5
  go_wp2_with fail
  refine (ll_12_22 _).mono ?_
  rintro e w7 ⟨rfl, hb7⟩
  have s7 : G w6 w7 := ((G.refl w6).alloc _).trans hb7
  have c_b0_7 := G.cells s7 c_b0_6 z_b0_6
  have z_b0_7 := Nat.lt_of_lt_of_le z_b0_6 s7.size
  have c_b1_7 := G.cells s7 c_b1_6 z_b1_6
  have z_b1_7 := Nat.lt_of_lt_of_le z_b1_6 s7.size
  have c_b2_7 := G.cells s7 c_b2_6 z_b2_6
  have z_b2_7 := Nat.lt_of_lt_of_le z_b2_6 s7.size
  have c_b3_7 := G.cells s7 c_b3_6 z_b3_6
  have z_b3_7 := Nat.lt_of_lt_of_le z_b3_6 s7.size
  have c_b4_7 := G.cells s7 c_b4_6 z_b4_6
  have z_b4_7 := Nat.lt_of_lt_of_le z_b4_6 s7.size
  have c_b5_7 := G.cells s7 c_b5_6 z_b5_6
  have z_b5_7 := Nat.lt_of_lt_of_le z_b5_6 s7.size
  have c_b6_7 := G.cells s7 c_b6_6 z_b6_6
  have z_b6_7 := Nat.lt_of_lt_of_le z_b6_6 s7.size
  have c_b7_7 := G.cells hb7 (b := w6.heap.size) (f := fun o => [Value.int IntKind.i64 0, Value.int IntKind.i64 0, Value.int IntKind.i64 0, Value.string E0][o]?) (by simp) (by simp)
  have z_b7_7 : w6.heap.size < w7.heap.size := by have := hb7.size; simp at this; omega
  have g7 : G w w7 := g6.trans s7
  clear c_b0_6 z_b0_6 c_b1_6 z_b1_6 c_b2_6 z_b2_6 c_b3_6 z_b3_6 c_b4_6 z_b4_6 c_b5_6 z_b5_6 c_b6_6 z_b6_6 hb7 s7 g6
  go_wp2_with fail
  generalize hw8 : w7.alloc _ = w8
  have s8 : G w7 w8 := hw8 ▸ (G.refl w7).alloc _
  have c_b0_8 := G.cells s8 c_b0_7 z_b0_7
  have z_b0_8 := Nat.lt_of_lt_of_le z_b0_7 s8.size
  have c_b1_8 := G.cells s8 c_b1_7 z_b1_7
  have z_b1_8 := Nat.lt_of_lt_of_le z_b1_7 s8.size
  have c_b2_8 := G.cells s8 c_b2_7 z_b2_7
  have z_b2_8 := Nat.lt_of_lt_of_le z_b2_7 s8.size
  have c_b3_8 := G.cells s8 c_b3_7 z_b3_7
  have z_b3_8 := Nat.lt_of_lt_of_le z_b3_7 s8.size
  have c_b4_8 := G.cells s8 c_b4_7 z_b4_7
  have z_b4_8 := Nat.lt_of_lt_of_le z_b4_7 s8.size
  have c_b5_8 := G.cells s8 c_b5_7 z_b5_7
  have z_b5_8 := Nat.lt_of_lt_of_le z_b5_7 s8.size
  have c_b6_8 := G.cells s8 c_b6_7 z_b6_7
  have z_b6_8 := Nat.lt_of_lt_of_le z_b6_7 s8.size
  have c_b7_8 := G.cells s8 c_b7_7 z_b7_7
  have z_b7_8 := Nat.lt_of_lt_of_le z_b7_7 s8.size
  have g8 : G w w8 := g7.trans s8
  clear c_b0_7 z_b0_7 c_b1_7 z_b1_7 c_b2_7 z_b2_7 c_b3_7 z_b3_7 c_b4_7 z_b4_7 c_b5_7 z_b5_7 c_b6_7 z_b6_7 c_b7_7 z_b7_7 hw8 s8 g7
  refine wp_loop_rounds 3 ?_
  rw [rounds_succ]
  go_wp2_with fail
  have gw : G w w8 := g8
  clear g8 wr2 c_b0_8 z_b0_8 c_b2_8 z_b2_8 c_b3_8 z_b3_8 c_b5_8 z_b5_8 c_b6_8 z_b6_8 c_b7_8 z_b7_8
  go_cut [20, 21] from 114 to 157 (fun p ok W => ∃ b, p = .pointer (some ⟨b, 0, none⟩) ∧ ok = .bool true ∧ W.cell? { block := b, off := 0 } = some (Value.int IntKind.i64 1) ∧ W.cell? { block := b, off := 1 } = some (Value.int IntKind.i64 0) ∧ W.cell? { block := b, off := 2 } = some (Value.int IntKind.i64 0) ∧ W.cell? { block := b, off := 3 } = some (Value.string E0) ∧ b < W.heap.size ∧ G w8 W)
  case first =>
    have HS : Hid (∀ W, G w8 W → (∀ (o : Nat), W.cell? { block := w.heap.size + 1, off := o } = [Value.int IntKind.i64 0, Value.int IntKind.i64 0, Value.int IntKind.i64 0, Value.string E0][o]?) ∧ G w8 W) := fun W h => ⟨G.cells h c_b1_8 z_b1_8, h⟩
    go_region_held3 (fun W => (∀ (o : Nat), W.cell? { block := w.heap.size + 1, off := o } = [Value.int IntKind.i64 0, Value.int IntKind.i64 0, Value.int IntKind.i64 0, Value.string E0][o]?) ∧ G w8 W) ((exact HS.out _ (by repeat (first | exact G.refl _ | refine G.drew ?_ | refine G.alloc ?_ _ | refine G.setCell ?_ (G.size ?_) _ | refine G.trans ?_ (by assumption))))) (first | (go_at_call 8; refine (three_b _ (by first | exact Or.inl rfl | exact Or.inr rfl) _).mono ?_; rintro e wy ⟨rfl, hb_wy⟩; obtain ⟨hc_wy, hf_wy⟩ := hb_wy.rules; have hs_wy := hb_wy.size; (try simp at hs_wy); try (have hz_wy : w8.heap.size < wy.heap.size := by omega)) | (go_at_call 22; refine (ll_12_02 _).mono ?_; rintro e wz ⟨rfl, hb_wz⟩; obtain ⟨hc_wz, hf_wz⟩ := hb_wz.rules; have hs_wz := hb_wz.size; (try simp at hs_wz); try (have hz_wz : w8.heap.size < wz.heap.size := by omega)))
    all_goals (go_wp2_with fail; go_meet)
    all_goals
      refine ⟨_, rfl, rfl, ?_, ?_, ?_, ?_, ?_, by repeat (first | exact G.refl _ | refine G.drew ?_ | refine G.alloc ?_ _ | refine G.setCell ?_ (G.size ?_) _ | refine G.trans ?_ (by assumption))⟩
      all_goals first | (simp [go_sem]; done) | (simp [go_sem, hc_wz]; done) | (simp [go_sem, hc_wz, hc_wy, hz_wy]; done) | (simp; omega)
  case' rest => skip
  obtain ⟨p20, rfl, rfl, c_p20_0, c_p20_1, c_p20_2, c_p20_3, z_p20, gA⟩ := hcut
  replace gw := gw.trans gA
  have c_b1_t := G.cells gA c_b1_8 z_b1_8
  have c_b4_t := G.cells gA c_b4_8 z_b4_8
  have z_b1_t := Nat.lt_of_lt_of_le z_b1_8 gA.size
  have z_b4_t := Nat.lt_of_lt_of_le z_b4_8 gA.size
  clear c_b1_8 c_b4_8 z_b1_8 z_b4_8
  have c_b1_c := c_b1_t; have c_b4_c := c_b4_t; have z_b1_c := z_b1_t; have z_b4_c := z_b4_t
  clear c_b1_t c_b4_t z_b1_t z_b4_t
  clear gA
  go_wp2_with fail
  go_cut [22, 23] from 114 to 157 (fun p ok W => ∃ b, p = .pointer (some ⟨b, 0, none⟩) ∧ ok = .bool true ∧ W.cell? { block := b, off := 0 } = some (Value.int IntKind.i64 0) ∧ W.cell? { block := b, off := 1 } = some (Value.int IntKind.i64 0) ∧ W.cell? { block := b, off := 2 } = some (Value.int IntKind.i64 0) ∧ W.cell? { block := b, off := 3 } = some (Value.string E0) ∧ b < W.heap.size ∧ G wc W)
  case first =>
    have HS : Hid (∀ W, G wc W → (∀ (o : Nat), W.cell? { block := w.heap.size + 1, off := o } = [Value.int IntKind.i64 0, Value.int IntKind.i64 0, Value.int IntKind.i64 0, Value.string E0][o]?) ∧ G wc W) := fun W h => ⟨G.cells h c_b1_c z_b1_c, h⟩
    go_region_held3 (fun W => (∀ (o : Nat), W.cell? { block := w.heap.size + 1, off := o } = [Value.int IntKind.i64 0, Value.int IntKind.i64 0, Value.int IntKind.i64 0, Value.string E0][o]?) ∧ G wc W) ((exact HS.out _ (by repeat (first | exact G.refl _ | refine G.drew ?_ | refine G.alloc ?_ _ | refine G.setCell ?_ (G.size ?_) _ | refine G.trans ?_ (by assumption))))) (first | (go_at_call 8; refine (three_b _ (by first | exact Or.inl rfl | exact Or.inr rfl) _).mono ?_; rintro e wy ⟨rfl, hb_wy⟩; obtain ⟨hc_wy, hf_wy⟩ := hb_wy.rules; have hs_wy := hb_wy.size; (try simp at hs_wy); try (have hz_wy : wc.heap.size < wy.heap.size := by omega)) | (go_at_call 22; refine (ll_14_02 _).mono ?_; rintro e wz ⟨rfl, hb_wz⟩; obtain ⟨hc_wz, hf_wz⟩ := hb_wz.rules; have hs_wz := hb_wz.size; (try simp at hs_wz); try (have hz_wz : wc.heap.size < wz.heap.size := by omega)))
    all_goals (go_wp2_with fail; go_meet)
    all_goals
      refine ⟨_, rfl, rfl, ?_, ?_, ?_, ?_, ?_, by repeat (first | exact G.refl _ | refine G.drew ?_ | refine G.alloc ?_ _ | refine G.setCell ?_ (G.size ?_) _ | refine G.trans ?_ (by assumption))⟩
      all_goals first | (simp [go_sem]; done) | (simp [go_sem, hc_wz]; done) | (simp [go_sem, hc_wz, hc_wy, hz_wy]; done) | (simp; omega)
  case' rest => skip
  obtain ⟨p22, rfl, rfl, c_p22_0, c_p22_1, c_p22_2, c_p22_3, z_p22, gA⟩ := hcut
  replace gw := gw.trans gA
  have c_b1_t := G.cells gA c_b1_c z_b1_c
  have c_b4_t := G.cells gA c_b4_c z_b4_c
  have z_b1_t := Nat.lt_of_lt_of_le z_b1_c gA.size
  have z_b4_t := Nat.lt_of_lt_of_le z_b4_c gA.size
  clear c_b1_c c_b4_c z_b1_c z_b4_c
  have c_b1_c := c_b1_t; have c_b4_c := c_b4_t; have z_b1_c := z_b1_t; have z_b4_c := z_b4_t
  clear c_b1_t c_b4_t z_b1_t z_b4_t
  replace c_p20_0 := (gA.cell z_p20).trans c_p20_0
  replace c_p20_1 := (gA.cell z_p20).trans c_p20_1
  replace c_p20_2 := (gA.cell z_p20).trans c_p20_2
  replace c_p20_3 := (gA.cell z_p20).trans c_p20_3
  clear gA
  go_wp2_with fail
  rw [rounds_succ]
  go_wp2_with fail
  go_cut [20, 21] from 114 to 157 (fun p ok W => ∃ b, p = .pointer (some ⟨b, 0, none⟩) ∧ ok = .bool true ∧ W.cell? { block := b, off := 0 } = some (Value.int IntKind.i64 0) ∧ W.cell? { block := b, off := 1 } = some (Value.int IntKind.i64 0) ∧ W.cell? { block := b, off := 2 } = some (Value.int IntKind.i64 0) ∧ W.cell? { block := b, off := 3 } = some (Value.string E0) ∧ b < W.heap.size ∧ G wc W)
  case first =>
    have HS : Hid (∀ W, G wc W → (∀ (o : Nat), W.cell? { block := w.heap.size + 1, off := o } = [Value.int IntKind.i64 0, Value.int IntKind.i64 0, Value.int IntKind.i64 0, Value.string E0][o]?) ∧ G wc W) := fun W h => ⟨G.cells h c_b1_c z_b1_c, h⟩
    go_region_held3 (fun W => (∀ (o : Nat), W.cell? { block := w.heap.size + 1, off := o } = [Value.int IntKind.i64 0, Value.int IntKind.i64 0, Value.int IntKind.i64 0, Value.string E0][o]?) ∧ G wc W) ((exact HS.out _ (by repeat (first | exact G.refl _ | refine G.drew ?_ | refine G.alloc ?_ _ | refine G.setCell ?_ (G.size ?_) _ | refine G.trans ?_ (by assumption))))) (first | (go_at_call 8; refine (three_b _ (by first | exact Or.inl rfl | exact Or.inr rfl) _).mono ?_; rintro e wy ⟨rfl, hb_wy⟩; obtain ⟨hc_wy, hf_wy⟩ := hb_wy.rules; have hs_wy := hb_wy.size; (try simp at hs_wy); try (have hz_wy : wc.heap.size < wy.heap.size := by omega)) | (go_at_call 22; refine (ll_12_12 _).mono ?_; rintro e wz ⟨rfl, hb_wz⟩; obtain ⟨hc_wz, hf_wz⟩ := hb_wz.rules; have hs_wz := hb_wz.size; (try simp at hs_wz); try (have hz_wz : wc.heap.size < wz.heap.size := by omega)))
    all_goals (go_wp2_with fail; go_meet)
    all_goals
      refine ⟨_, rfl, rfl, ?_, ?_, ?_, ?_, ?_, by repeat (first | exact G.refl _ | refine G.drew ?_ | refine G.alloc ?_ _ | refine G.setCell ?_ (G.size ?_) _ | refine G.trans ?_ (by assumption))⟩
      all_goals first | (simp [go_sem]; done) | (simp [go_sem, hc_wz]; done) | (simp [go_sem, hc_wz, hc_wy, hz_wy]; done) | (simp; omega)
  case' rest => skip
  obtain ⟨p20, rfl, rfl, c_p20_0, c_p20_1, c_p20_2, c_p20_3, z_p20, gA⟩ := hcut
  replace gw := gw.trans gA
  have c_b1_t := G.cells gA c_b1_c z_b1_c
  have c_b4_t := G.cells gA c_b4_c z_b4_c
  have z_b1_t := Nat.lt_of_lt_of_le z_b1_c gA.size
  have z_b4_t := Nat.lt_of_lt_of_le z_b4_c gA.size
  clear c_b1_c c_b4_c z_b1_c z_b4_c
  have c_b1_c := c_b1_t; have c_b4_c := c_b4_t; have z_b1_c := z_b1_t; have z_b4_c := z_b4_t
  clear c_b1_t c_b4_t z_b1_t z_b4_t
  clear gA
  go_wp2_with fail
  go_cut [22, 23] from 114 to 157 (fun p ok W => ∃ b, p = .pointer (some ⟨b, 0, none⟩) ∧ ok = .bool true ∧ W.cell? { block := b, off := 0 } = some (Value.int IntKind.i64 0) ∧ W.cell? { block := b, off := 1 } = some (Value.int IntKind.i64 0) ∧ W.cell? { block := b, off := 2 } = some (Value.int IntKind.i64 0) ∧ W.cell? { block := b, off := 3 } = some (Value.string E0) ∧ b < W.heap.size ∧ G wc W)
  case first =>
    have HS : Hid (∀ W, G wc W → (∀ (o : Nat), W.cell? { block := w.heap.size + 1, off := o } = [Value.int IntKind.i64 0, Value.int IntKind.i64 0, Value.int IntKind.i64 0, Value.string E0][o]?) ∧ G wc W) := fun W h => ⟨G.cells h c_b1_c z_b1_c, h⟩
    go_region_held3 (fun W => (∀ (o : Nat), W.cell? { block := w.heap.size + 1, off := o } = [Value.int IntKind.i64 0, Value.int IntKind.i64 0, Value.int IntKind.i64 0, Value.string E0][o]?) ∧ G wc W) ((exact HS.out _ (by repeat (first | exact G.refl _ | refine G.drew ?_ | refine G.alloc ?_ _ | refine G.setCell ?_ (G.size ?_) _ | refine G.trans ?_ (by assumption))))) (first | (go_at_call 8; refine (three_b _ (by first | exact Or.inl rfl | exact Or.inr rfl) _).mono ?_; rintro e wy ⟨rfl, hb_wy⟩; obtain ⟨hc_wy, hf_wy⟩ := hb_wy.rules; have hs_wy := hb_wy.size; (try simp at hs_wy); try (have hz_wy : wc.heap.size < wy.heap.size := by omega)) | (go_at_call 22; refine (ll_14_12 _).mono ?_; rintro e wz ⟨rfl, hb_wz⟩; obtain ⟨hc_wz, hf_wz⟩ := hb_wz.rules; have hs_wz := hb_wz.size; (try simp at hs_wz); try (have hz_wz : wc.heap.size < wz.heap.size := by omega)))
    all_goals (go_wp2_with fail; go_meet)
    all_goals
      refine ⟨_, rfl, rfl, ?_, ?_, ?_, ?_, ?_, by repeat (first | exact G.refl _ | refine G.drew ?_ | refine G.alloc ?_ _ | refine G.setCell ?_ (G.size ?_) _ | refine G.trans ?_ (by assumption))⟩
      all_goals first | (simp [go_sem]; done) | (simp [go_sem, hc_wz]; done) | (simp [go_sem, hc_wz, hc_wy, hz_wy]; done) | (simp; omega)
  case' rest => skip
  obtain ⟨p22, rfl, rfl, c_p22_0, c_p22_1, c_p22_2, c_p22_3, z_p22, gA⟩ := hcut
  replace gw := gw.trans gA
  have c_b1_t := G.cells gA c_b1_c z_b1_c
  have c_b4_t := G.cells gA c_b4_c z_b4_c
  have z_b1_t := Nat.lt_of_lt_of_le z_b1_c gA.size
  have z_b4_t := Nat.lt_of_lt_of_le z_b4_c gA.size
  clear c_b1_c c_b4_c z_b1_c z_b4_c
  have c_b1_c := c_b1_t; have c_b4_c := c_b4_t; have z_b1_c := z_b1_t; have z_b4_c := z_b4_t
  clear c_b1_t c_b4_t z_b1_t z_b4_t
  replace c_p20_0 := (gA.cell z_p20).trans c_p20_0
  replace c_p20_1 := (gA.cell z_p20).trans c_p20_1
  replace c_p20_2 := (gA.cell z_p20).trans c_p20_2
  replace c_p20_3 := (gA.cell z_p20).trans c_p20_3
  clear gA
  go_wp2_with fail
  rw [rounds_succ]
  go_wp2_with fail
  have HS : Hid (∀ W, G wc W → (∀ (o : Nat), W.cell? { block := w.heap.size + 1, off := o } = [Value.int IntKind.i64 0, Value.int IntKind.i64 0, Value.int IntKind.i64 0, Value.string E0][o]?) ∧ (∀ (o : Nat), W.cell? { block := w3.heap.size, off := o } = [Value.int IntKind.i64 0, Value.int IntKind.i64 0, Value.int IntKind.i64 0, Value.string E0][o]?) ∧ G wc W) := fun W h => ⟨G.cells h c_b1_c z_b1_c, G.cells h c_b4_c z_b4_c, h⟩
  go_region_held3 (fun W => (∀ (o : Nat), W.cell? { block := w.heap.size + 1, off := o } = [Value.int IntKind.i64 0, Value.int IntKind.i64 0, Value.int IntKind.i64 0, Value.string E0][o]?) ∧ (∀ (o : Nat), W.cell? { block := w3.heap.size, off := o } = [Value.int IntKind.i64 0, Value.int IntKind.i64 0, Value.int IntKind.i64 0, Value.string E0][o]?) ∧ G wc W) ((exact HS.out _ (by repeat (first | exact G.refl _ | refine G.drew ?_ | refine G.alloc ?_ _ | refine G.setCell ?_ (G.size ?_) _ | refine G.trans ?_ (by assumption))))) (first | (go_at_call 8; refine (three_b _ (by first | exact Or.inl rfl | exact Or.inr rfl) _).mono ?_; rintro e wx ⟨rfl, hb⟩))
  rename_i hH
  have hG2 := hH.2.2
  go_wp2
  go_ret
  exact ⟨rfl, gw.trans hG2⟩
end Go.Proofs.YtnoajhegcjoebaaGreatDoor
