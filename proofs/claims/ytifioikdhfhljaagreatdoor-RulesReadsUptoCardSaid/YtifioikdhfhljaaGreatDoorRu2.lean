/- Rules: what a rule is; its fields. -/
import Derived.Test.YtifioikdhfhljaaGreatDoorRu1
namespace Go.Proofs.YtifioikdhfhljaaGreatDoor
open Go.RowKit

/-- A rule. -/
structure Rl where
  id : Int
  kind : Int
  of : ByteArray
  key : ByteArray
  is : Int
  fr : ByteArray
  dst : ByteArray
  n : Int
abbrev eRl : Enc Rl := ⟨fun r => [I r.id, I r.kind, .string r.of, .string r.key, I r.is, .string r.fr, .string r.dst, I r.n], 8, fun _ => rfl, fun _ u hu => by simp at hu; rcases hu with rfl | rfl | rfl | rfl | rfl | rfl | rfl | rfl <;> rfl⟩
def takeF (r : Rl) (p : Pv) : Rl := if p.key.toList = [110] then { r with n := p.a } else if p.key.toList = [107, 105, 110, 100] then { r with kind := kindV p.s } else if p.key.toList = [111, 102] then { r with of := p.s } else if p.key.toList = [107, 101, 121] then { r with key := p.s } else if p.key.toList = [116, 121, 112, 101] then { r with is := typeV p.s } else if p.key.toList = [102, 114, 111, 109] then { r with fr := p.s } else if p.key.toList = [116, 111] then { r with dst := p.s } else r
def takeB (p : Pv) : Bool := if p.key.toList = [110] then p.k == 2 else if p.key.toList = [107, 105, 110, 100] then p.k == 4 else if p.key.toList = [111, 102] then p.k == 4 else if p.key.toList = [107, 101, 121] then p.k == 4 else if p.key.toList = [116, 121, 112, 101] then p.k == 4 else if p.key.toList = [102, 114, 111, 109] then p.k == 4 else if p.key.toList = [116, 111] then p.k == 4 else false
set_option maxRecDepth 100000 in
set_option maxHeartbeats 4000000 in
theorem take_any (r : Rl) (p : Pv) (rb : Nat) (W : World) (hb : Blk W rb 66 [I r.id, I r.kind, .string r.of, .string r.key, I r.is, .string r.fr, .string r.dst, I r.n]) (hT : RT W) : Calls Tryz.prog 102 #[ptr rb, .agg #[.string p.key, I p.k, I p.a, I p.b, .string p.s]] W fun e W' => e = .returned (.bool (takeB p)) ∧ Blk W' rb 66 (eRl.e (takeF r p)) ∧ Chg (fun k => k = rb) W W' := by
  obtain ⟨w1, hw1⟩ : ∃ w1, w1 = (W.alloc (.cells #[.string p.key, I p.k, I p.a, I p.b, .string p.s] 101)) := ⟨_, rfl⟩
  obtain ⟨B1, hB1⟩ : ∃ B1, B1 = W.heap.size := ⟨_, rfl⟩
  have hg1 : G W w1 := by rw [hw1]; exact (G.refl W).alloc _
  have hbx : Blk w1 B1 101 [.string p.key, I p.k, I p.a, I p.b, .string p.s] := by rw [hw1, hB1]; exact Blk.new W [.string p.key, I p.k, I p.a, I p.b, .string p.s] 101
  have hb1 := hb.G hg1
  have hne : rb ≠ B1 := by have := hb.lt; omega
  have HEW : Hid ((W.alloc (.cells #[.string p.key, I p.k, I p.a, I p.b, .string p.s] 101)) = w1) := hw1.symm
  have HE1 : Hid (W.heap.size = B1) := hB1.symm
  have KK := hide (kindOf_any p.s w1 (hT.G hg1))
  have KT := hide (typeOf_any p.s w1 (hT.G hg1))
  have HB := hide (And.intro hb1 hbx); have HG1 := hide hg1; have HNE := hide hne
  have b1 := hbx.cell
  clear hb hT hw1 hB1 hg1 hbx hb1 hne
  by_cases hk7 : p.key.toList = [110]
  · have hk := hk7
    have HF : Hid (takeF r p = { r with n := p.a } ∧ takeB p = (p.k == 2)) := by
      rw [Hid, takeF, takeB, hk]
      exact ⟨rfl, rfl⟩
    have e0 : (p.key.toList == [110]) = true := by rw [hk]; decide
    have e1 : (p.key.toList == [107, 105, 110, 100]) = false := by rw [hk]; decide
    have e2 : (p.key.toList == [111, 102]) = false := by rw [hk]; decide
    have e3 : (p.key.toList == [107, 101, 121]) = false := by rw [hk]; decide
    have e4 : (p.key.toList == [116, 121, 112, 101]) = false := by rw [hk]; decide
    have e5 : (p.key.toList == [102, 114, 111, 109]) = false := by rw [hk]; decide
    have e6 : (p.key.toList == [116, 111]) = false := by rw [hk]; decide
    clear hk hk7
    have c2 := HB.out.1.cell; have z2 := HB.out.1.frozen
    have hx3 := HB.out.2.off (b := rb) (o := 7) (v := I p.a) HNE.out.symm
    have c3 := hx3.cell
    have HR : Hid (Blk (w1.setCell ⟨rb, 7, none⟩ (I p.a)) rb 66 [I r.id, I r.kind, .string r.of, .string r.key, I r.is, .string r.fr, .string r.dst, I p.a] ∧ Chg (fun k => k = rb) W (w1.setCell ⟨rb, 7, none⟩ (I p.a))) := ⟨HB.out.1.set 7 _, (HG1.out.chg).trans (chg_setCell w1 _ (.inl rfl))⟩
    clear hx3 KK KT
    go_enter Tryz.func102, Tryz.ntmps102
    go_wp2_with (first | (rw [HEW.out]; (try rw [HE1.out]); clear HEW) | fail)
    try rw [HEW.out]
    try rw [HE1.out]
    go_ret
    exact ⟨by rw [HF.out.2] <;> rfl, by rw [HF.out.1]; exact HR.out.1, HR.out.2⟩
  by_cases hk1 : p.key.toList = [107, 105, 110, 100]
  · have hk := hk1
    have HF : Hid (takeF r p = { r with kind := kindV p.s } ∧ takeB p = (p.k == 4)) := by
      rw [Hid, takeF, takeB, hk]
      exact ⟨rfl, rfl⟩
    have e0 : (p.key.toList == [110]) = false := by rw [hk]; decide
    have e1 : (p.key.toList == [107, 105, 110, 100]) = true := by rw [hk]; decide
    have e2 : (p.key.toList == [111, 102]) = false := by rw [hk]; decide
    have e3 : (p.key.toList == [107, 101, 121]) = false := by rw [hk]; decide
    have e4 : (p.key.toList == [116, 121, 112, 101]) = false := by rw [hk]; decide
    have e5 : (p.key.toList == [102, 114, 111, 109]) = false := by rw [hk]; decide
    have e6 : (p.key.toList == [116, 111]) = false := by rw [hk]; decide
    clear hk hk1 hk7
    go_enter Tryz.func102, Tryz.ntmps102
    go_wp2_with (first | (rw [HEW.out]; (try rw [HE1.out]); clear HEW) | fail)
    try rw [HEW.out]
    try rw [HE1.out]
    refine KK.out.mono ?_
    rintro e w2 ⟨rfl, hg2⟩
    have hb2 := HB.out.1.G hg2
    have hx2 := HB.out.2.G hg2
    have c2 := hb2.cell; have z2 := hb2.frozen
    have hx3 := hx2.off (b := rb) (o := 1) (v := I (kindV p.s)) HNE.out.symm
    have c3 := hx3.cell
    have HR : Hid (Blk (w2.setCell ⟨rb, 1, none⟩ (I (kindV p.s))) rb 66 [I r.id, I (kindV p.s), .string r.of, .string r.key, I r.is, .string r.fr, .string r.dst, I r.n] ∧ Chg (fun k => k = rb) W (w2.setCell ⟨rb, 1, none⟩ (I (kindV p.s)))) := ⟨hb2.set 1 _, ((HG1.out.trans hg2).chg).trans (chg_setCell w2 _ (.inl rfl))⟩
    clear hg2 hb2 hx2 hx3 b1 KK KT
    go_wp2_with fail
    go_ret
    exact ⟨by rw [HF.out.2] <;> rfl, by rw [HF.out.1]; exact HR.out.1, HR.out.2⟩
  by_cases hk2 : p.key.toList = [111, 102]
  · have hk := hk2
    have HF : Hid (takeF r p = { r with of := p.s } ∧ takeB p = (p.k == 4)) := by
      rw [Hid, takeF, takeB, hk]
      exact ⟨rfl, rfl⟩
    have e0 : (p.key.toList == [110]) = false := by rw [hk]; decide
    have e1 : (p.key.toList == [107, 105, 110, 100]) = false := by rw [hk]; decide
    have e2 : (p.key.toList == [111, 102]) = true := by rw [hk]; decide
    have e3 : (p.key.toList == [107, 101, 121]) = false := by rw [hk]; decide
    have e4 : (p.key.toList == [116, 121, 112, 101]) = false := by rw [hk]; decide
    have e5 : (p.key.toList == [102, 114, 111, 109]) = false := by rw [hk]; decide
    have e6 : (p.key.toList == [116, 111]) = false := by rw [hk]; decide
    clear hk hk2 hk7 hk1
    have c2 := HB.out.1.cell; have z2 := HB.out.1.frozen
    have hx3 := HB.out.2.off (b := rb) (o := 2) (v := .string p.s) HNE.out.symm
    have c3 := hx3.cell
    have HR : Hid (Blk (w1.setCell ⟨rb, 2, none⟩ (.string p.s)) rb 66 [I r.id, I r.kind, .string p.s, .string r.key, I r.is, .string r.fr, .string r.dst, I r.n] ∧ Chg (fun k => k = rb) W (w1.setCell ⟨rb, 2, none⟩ (.string p.s))) := ⟨HB.out.1.set 2 _, (HG1.out.chg).trans (chg_setCell w1 _ (.inl rfl))⟩
    clear hx3 KK KT
    go_enter Tryz.func102, Tryz.ntmps102
    go_wp2_with (first | (rw [HEW.out]; (try rw [HE1.out]); clear HEW) | fail)
    try rw [HEW.out]
    try rw [HE1.out]
    go_ret
    exact ⟨by rw [HF.out.2] <;> rfl, by rw [HF.out.1]; exact HR.out.1, HR.out.2⟩
  by_cases hk3 : p.key.toList = [107, 101, 121]
  · have hk := hk3
    have HF : Hid (takeF r p = { r with key := p.s } ∧ takeB p = (p.k == 4)) := by
      rw [Hid, takeF, takeB, hk]
      exact ⟨rfl, rfl⟩
    have e0 : (p.key.toList == [110]) = false := by rw [hk]; decide
    have e1 : (p.key.toList == [107, 105, 110, 100]) = false := by rw [hk]; decide
    have e2 : (p.key.toList == [111, 102]) = false := by rw [hk]; decide
    have e3 : (p.key.toList == [107, 101, 121]) = true := by rw [hk]; decide
    have e4 : (p.key.toList == [116, 121, 112, 101]) = false := by rw [hk]; decide
    have e5 : (p.key.toList == [102, 114, 111, 109]) = false := by rw [hk]; decide
    have e6 : (p.key.toList == [116, 111]) = false := by rw [hk]; decide
    clear hk hk3 hk7 hk1 hk2
    have c2 := HB.out.1.cell; have z2 := HB.out.1.frozen
    have hx3 := HB.out.2.off (b := rb) (o := 3) (v := .string p.s) HNE.out.symm
    have c3 := hx3.cell
    have HR : Hid (Blk (w1.setCell ⟨rb, 3, none⟩ (.string p.s)) rb 66 [I r.id, I r.kind, .string r.of, .string p.s, I r.is, .string r.fr, .string r.dst, I r.n] ∧ Chg (fun k => k = rb) W (w1.setCell ⟨rb, 3, none⟩ (.string p.s))) := ⟨HB.out.1.set 3 _, (HG1.out.chg).trans (chg_setCell w1 _ (.inl rfl))⟩
    clear hx3 KK KT
    go_enter Tryz.func102, Tryz.ntmps102
    go_wp2_with (first | (rw [HEW.out]; (try rw [HE1.out]); clear HEW) | fail)
    try rw [HEW.out]
    try rw [HE1.out]
    go_ret
    exact ⟨by rw [HF.out.2] <;> rfl, by rw [HF.out.1]; exact HR.out.1, HR.out.2⟩
  by_cases hk4 : p.key.toList = [116, 121, 112, 101]
  · have hk := hk4
    have HF : Hid (takeF r p = { r with is := typeV p.s } ∧ takeB p = (p.k == 4)) := by
      rw [Hid, takeF, takeB, hk]
      exact ⟨rfl, rfl⟩
    have e0 : (p.key.toList == [110]) = false := by rw [hk]; decide
    have e1 : (p.key.toList == [107, 105, 110, 100]) = false := by rw [hk]; decide
    have e2 : (p.key.toList == [111, 102]) = false := by rw [hk]; decide
    have e3 : (p.key.toList == [107, 101, 121]) = false := by rw [hk]; decide
    have e4 : (p.key.toList == [116, 121, 112, 101]) = true := by rw [hk]; decide
    have e5 : (p.key.toList == [102, 114, 111, 109]) = false := by rw [hk]; decide
    have e6 : (p.key.toList == [116, 111]) = false := by rw [hk]; decide
    clear hk hk4 hk7 hk1 hk2 hk3
    go_enter Tryz.func102, Tryz.ntmps102
    go_wp2_with (first | (rw [HEW.out]; (try rw [HE1.out]); clear HEW) | fail)
    try rw [HEW.out]
    try rw [HE1.out]
    refine KT.out.mono ?_
    rintro e w2 ⟨rfl, hg2⟩
    have hb2 := HB.out.1.G hg2
    have hx2 := HB.out.2.G hg2
    have c2 := hb2.cell; have z2 := hb2.frozen
    have hx3 := hx2.off (b := rb) (o := 4) (v := I (typeV p.s)) HNE.out.symm
    have c3 := hx3.cell
    have HR : Hid (Blk (w2.setCell ⟨rb, 4, none⟩ (I (typeV p.s))) rb 66 [I r.id, I r.kind, .string r.of, .string r.key, I (typeV p.s), .string r.fr, .string r.dst, I r.n] ∧ Chg (fun k => k = rb) W (w2.setCell ⟨rb, 4, none⟩ (I (typeV p.s)))) := ⟨hb2.set 4 _, ((HG1.out.trans hg2).chg).trans (chg_setCell w2 _ (.inl rfl))⟩
    clear hg2 hb2 hx2 hx3 b1 KK KT
    go_wp2_with fail
    go_ret
    exact ⟨by rw [HF.out.2] <;> rfl, by rw [HF.out.1]; exact HR.out.1, HR.out.2⟩
  by_cases hk5 : p.key.toList = [102, 114, 111, 109]
  · have hk := hk5
    have HF : Hid (takeF r p = { r with fr := p.s } ∧ takeB p = (p.k == 4)) := by
      rw [Hid, takeF, takeB, hk]
      exact ⟨rfl, rfl⟩
    have e0 : (p.key.toList == [110]) = false := by rw [hk]; decide
    have e1 : (p.key.toList == [107, 105, 110, 100]) = false := by rw [hk]; decide
    have e2 : (p.key.toList == [111, 102]) = false := by rw [hk]; decide
    have e3 : (p.key.toList == [107, 101, 121]) = false := by rw [hk]; decide
    have e4 : (p.key.toList == [116, 121, 112, 101]) = false := by rw [hk]; decide
    have e5 : (p.key.toList == [102, 114, 111, 109]) = true := by rw [hk]; decide
    have e6 : (p.key.toList == [116, 111]) = false := by rw [hk]; decide
    clear hk hk5 hk7 hk1 hk2 hk3 hk4
    have c2 := HB.out.1.cell; have z2 := HB.out.1.frozen
    have hx3 := HB.out.2.off (b := rb) (o := 5) (v := .string p.s) HNE.out.symm
    have c3 := hx3.cell
    have HR : Hid (Blk (w1.setCell ⟨rb, 5, none⟩ (.string p.s)) rb 66 [I r.id, I r.kind, .string r.of, .string r.key, I r.is, .string p.s, .string r.dst, I r.n] ∧ Chg (fun k => k = rb) W (w1.setCell ⟨rb, 5, none⟩ (.string p.s))) := ⟨HB.out.1.set 5 _, (HG1.out.chg).trans (chg_setCell w1 _ (.inl rfl))⟩
    clear hx3 KK KT
    go_enter Tryz.func102, Tryz.ntmps102
    go_wp2_with (first | (rw [HEW.out]; (try rw [HE1.out]); clear HEW) | fail)
    try rw [HEW.out]
    try rw [HE1.out]
    go_ret
    exact ⟨by rw [HF.out.2] <;> rfl, by rw [HF.out.1]; exact HR.out.1, HR.out.2⟩
  by_cases hk6 : p.key.toList = [116, 111]
  · have hk := hk6
    have HF : Hid (takeF r p = { r with dst := p.s } ∧ takeB p = (p.k == 4)) := by
      rw [Hid, takeF, takeB, hk]
      exact ⟨rfl, rfl⟩
    have e0 : (p.key.toList == [110]) = false := by rw [hk]; decide
    have e1 : (p.key.toList == [107, 105, 110, 100]) = false := by rw [hk]; decide
    have e2 : (p.key.toList == [111, 102]) = false := by rw [hk]; decide
    have e3 : (p.key.toList == [107, 101, 121]) = false := by rw [hk]; decide
    have e4 : (p.key.toList == [116, 121, 112, 101]) = false := by rw [hk]; decide
    have e5 : (p.key.toList == [102, 114, 111, 109]) = false := by rw [hk]; decide
    have e6 : (p.key.toList == [116, 111]) = true := by rw [hk]; decide
    clear hk hk6 hk7 hk1 hk2 hk3 hk4 hk5
    have c2 := HB.out.1.cell; have z2 := HB.out.1.frozen
    have hx3 := HB.out.2.off (b := rb) (o := 6) (v := .string p.s) HNE.out.symm
    have c3 := hx3.cell
    have HR : Hid (Blk (w1.setCell ⟨rb, 6, none⟩ (.string p.s)) rb 66 [I r.id, I r.kind, .string r.of, .string r.key, I r.is, .string r.fr, .string p.s, I r.n] ∧ Chg (fun k => k = rb) W (w1.setCell ⟨rb, 6, none⟩ (.string p.s))) := ⟨HB.out.1.set 6 _, (HG1.out.chg).trans (chg_setCell w1 _ (.inl rfl))⟩
    clear hx3 KK KT
    go_enter Tryz.func102, Tryz.ntmps102
    go_wp2_with (first | (rw [HEW.out]; (try rw [HE1.out]); clear HEW) | fail)
    try rw [HEW.out]
    try rw [HE1.out]
    go_ret
    exact ⟨by rw [HF.out.2] <;> rfl, by rw [HF.out.1]; exact HR.out.1, HR.out.2⟩
  have HF : Hid (takeF r p = r ∧ takeB p = false) := by
    refine ⟨?_, ?_⟩
    · rw [takeF]
      simp only [if_neg hk7, if_neg hk1, if_neg hk2, if_neg hk3, if_neg hk4, if_neg hk5, if_neg hk6]
    · rw [takeB]
      simp only [if_neg hk7, if_neg hk1, if_neg hk2, if_neg hk3, if_neg hk4, if_neg hk5, if_neg hk6]
  have e0 : (p.key.toList == [110]) = false := beq_false_of_ne hk7
  have e1 : (p.key.toList == [107, 105, 110, 100]) = false := beq_false_of_ne hk1
  have e2 : (p.key.toList == [111, 102]) = false := beq_false_of_ne hk2
  have e3 : (p.key.toList == [107, 101, 121]) = false := beq_false_of_ne hk3
  have e4 : (p.key.toList == [116, 121, 112, 101]) = false := beq_false_of_ne hk4
  have e5 : (p.key.toList == [102, 114, 111, 109]) = false := beq_false_of_ne hk5
  have e6 : (p.key.toList == [116, 111]) = false := beq_false_of_ne hk6
  have HR : Hid (Blk w1 rb 66 [I r.id, I r.kind, .string r.of, .string r.key, I r.is, .string r.fr, .string r.dst, I r.n] ∧ Chg (fun k => k = rb) W w1) := ⟨HB.out.1, HG1.out.chg⟩
  clear hk7 hk1 hk2 hk3 hk4 hk5 hk6 KK KT
  go_enter Tryz.func102, Tryz.ntmps102
  go_wp2_with (first | (rw [HEW.out]; (try rw [HE1.out]); clear HEW) | fail)
  try rw [HEW.out]
  try rw [HE1.out]
  go_ret
  exact ⟨by rw [HF.out.2] <;> rfl, by rw [HF.out.1]; exact HR.out.1, HR.out.2⟩
noncomputable def fitS (b : Bool) (v : ByteArray) : Bool := if b then nameB v else v.toList.isEmpty
def fitI (b : Bool) (v : Int) : Bool := if b then decide (1 ≤ v) && decide (v ≤ 4) else v == 0
def fitN (b : Bool) (v : Int) : Bool := if b then decide (0 ≤ v) else v == 0
set_option maxRecDepth 100000 in
set_option maxHeartbeats 1000000 in
theorem fitS_any (b : Bool) (v : ByteArray) (W : World) : Calls Tryz.prog 108 #[.bool b, .string v, .func (.func 83) #[] #[]] W fun e W' => e = .returned (.bool (fitS b v)) ∧ W' = W := by
  have K := hide (Name_any v W)
  cases b with
  | true =>
    go_enter Tryz.func108, Tryz.ntmps108
    go_wp2_with fail
    refine K.out.mono ?_
    rintro e w' ⟨rfl, h9⟩
    subst w'
    go_wp2_with fail
    go_ret
    exact ⟨rfl, rfl⟩
  | false =>
    clear K
    go_enter Tryz.func108, Tryz.ntmps108
    go_wp2_with fail
    go_ret
    exact ⟨rfl, rfl⟩
set_option maxRecDepth 100000 in
set_option maxHeartbeats 1000000 in
theorem st1_any (v : Int) (W : World) : Calls Tryz.prog 110 #[I v] W fun e W' => e = .returned (.bool (decide (1 ≤ v) && decide (v ≤ 4))) ∧ W' = W := by
  by_cases h1 : 1 ≤ v
  · have HF : Hid ((decide (1 ≤ v) && decide (v ≤ 4)) = decide (v ≤ 4)) := by rw [Hid, decide_eq_true h1]; rfl
    go_enter Tryz.func110, Tryz.ntmps110
    go_wp2_with fail
    go_ret
    exact ⟨by rw [HF.out] <;> rfl, rfl⟩
  · have HF : Hid ((decide (1 ≤ v) && decide (v ≤ 4)) = false) := by rw [Hid, decide_eq_false h1]; rfl
    go_enter Tryz.func110, Tryz.ntmps110
    go_wp2_with fail
    go_ret
    exact ⟨by rw [HF.out] <;> rfl, rfl⟩
set_option maxRecDepth 100000 in
set_option maxHeartbeats 1000000 in
theorem st2_any (v : Int) (W : World) : Calls Tryz.prog 112 #[I v] W fun e W' => e = .returned (.bool (decide (0 ≤ v))) ∧ W' = W := by
  go_enter Tryz.func112, Tryz.ntmps112
  go_wp2_with fail
  go_ret
  exact ⟨rfl, rfl⟩
set_option maxRecDepth 100000 in
set_option maxHeartbeats 1000000 in
theorem fitI_any (b : Bool) (v : Int) (W : World) : Calls Tryz.prog 109 #[.bool b, I v, .func (.func 110) #[] #[]] W fun e W' => e = .returned (.bool (fitI b v)) ∧ W' = W := by
  have K := hide (st1_any v W)
  generalize hz : (decide (1 ≤ v) && decide (v ≤ 4)) = z at K
  have HZ := hide hz
  clear hz
  cases b with
  | true =>
    have HF : Hid (fitI true v = z) := by rw [Hid, ← HZ.out]; rfl
    go_enter Tryz.func109, Tryz.ntmps109
    go_wp2_with fail
    refine K.out.mono ?_
    rintro e w' ⟨rfl, h9⟩
    subst w'
    go_wp2_with fail
    go_ret
    exact ⟨by rw [HF.out] <;> rfl, rfl⟩
  | false =>
    clear K
    go_enter Tryz.func109, Tryz.ntmps109
    go_wp2_with fail
    go_ret
    exact ⟨rfl, rfl⟩
set_option maxRecDepth 100000 in
set_option maxHeartbeats 1000000 in
theorem fitN_any (b : Bool) (v : Int) (W : World) : Calls Tryz.prog 111 #[.bool b, I v, .func (.func 112) #[] #[]] W fun e W' => e = .returned (.bool (fitN b v)) ∧ W' = W := by
  have K := hide (st2_any v W)
  generalize hz : decide (0 ≤ v) = z at K
  have HZ := hide hz
  clear hz
  cases b with
  | true =>
    have HF : Hid (fitN true v = z) := by rw [Hid, ← HZ.out]; rfl
    go_enter Tryz.func111, Tryz.ntmps111
    go_wp2_with fail
    refine K.out.mono ?_
    rintro e w' ⟨rfl, h9⟩
    subst w'
    go_wp2_with fail
    go_ret
    exact ⟨by rw [HF.out] <;> rfl, rfl⟩
  | false =>
    clear K
    go_enter Tryz.func111, Tryz.ntmps111
    go_wp2_with fail
    go_ret
    exact ⟨rfl, rfl⟩
/-- Which fields a rule of a kind has. -/
def fKey (k : Int) : Bool := decide (1 ≤ k) && decide (k ≤ 3)
def fIs (k : Int) : Bool := k == 3
def fEnds (k : Int) : Bool := k == 4
def fN (k : Int) : Bool := k == 5
def fProps (k : Int) : Int := if k = 6 then 2 else if k = 3 ∨ k = 4 then 4 else 3
noncomputable def standsB (r : Rl) : Bool := decide (1 ≤ r.kind) && decide (r.kind ≤ 6) && nameB r.of && fitS (fKey r.kind) r.key && fitI (fIs r.kind) r.is && fitS (fEnds r.kind) r.fr && fitS (fEnds r.kind) r.dst && fitN (fN r.kind) r.n
theorem form_at (k : Nat) (h1 : 1 ≤ k) (h6 : k ≤ 6) : ∃ w, formsC[k * 6]? = some (.string w) ∧ formsC[k * 6 + 1]? = some (I (fProps k)) ∧ formsC[k * 6 + 2]? = some (.bool (fKey k)) ∧ formsC[k * 6 + 3]? = some (.bool (fIs k)) ∧ formsC[k * 6 + 4]? = some (.bool (fEnds k)) ∧ formsC[k * 6 + 5]? = some (.bool (fN k)) := by
  match k, h1, h6 with
  | 1, _, _ => exact ⟨_, rfl, rfl, rfl, rfl, rfl, rfl⟩
  | 2, _, _ => exact ⟨_, rfl, rfl, rfl, rfl, rfl, rfl⟩
  | 3, _, _ => exact ⟨_, rfl, rfl, rfl, rfl, rfl, rfl⟩
  | 4, _, _ => exact ⟨_, rfl, rfl, rfl, rfl, rfl, rfl⟩
  | 5, _, _ => exact ⟨_, rfl, rfl, rfl, rfl, rfl, rfl⟩
  | 6, _, _ => exact ⟨_, rfl, rfl, rfl, rfl, rfl, rfl⟩
set_option maxRecDepth 100000 in
set_option maxHeartbeats 4000000 in
theorem rstands_any (r : Rl) (W : World) (hT : RT W) : Calls Tryz.prog 71 #[.agg #[I r.id, I r.kind, .string r.of, .string r.key, I r.is, .string r.fr, .string r.dst, I r.n]] W fun e W' => e = .returned (.bool (standsB r)) ∧ G W W' := by
  obtain ⟨kd, hkd⟩ : ∃ kd, kd = r.kind := ⟨_, rfl⟩
  have hsb : standsB r = (decide (1 ≤ kd) && decide (kd ≤ 6) && nameB r.of && fitS (fKey kd) r.key && fitI (fIs kd) r.is && fitS (fEnds kd) r.fr && fitS (fEnds kd) r.dst && fitN (fN kd) r.n) := by rw [hkd]; rfl
  rw [← hkd]
  clear hkd
  by_cases h1 : 1 ≤ kd
  · by_cases h6 : kd ≤ 6
    · obtain ⟨kb, rfl⟩ : ∃ kb : Nat, kd = (kb : Int) := ⟨kd.toNat, by omega⟩
      obtain ⟨fw, f0, f1, f2, f3, f4, f5⟩ := form_at kb (by omega) (by omega)
      obtain ⟨w1, hw1⟩ : ∃ w1, w1 = (W.alloc (.cells #[I r.id, I kb, .string r.of, .string r.key, I r.is, .string r.fr, .string r.dst, I r.n] 66)) := ⟨_, rfl⟩
      obtain ⟨B1, hB1⟩ : ∃ B1, B1 = W.heap.size := ⟨_, rfl⟩
      have hg1 : G W w1 := by rw [hw1]; exact (G.refl W).alloc _
      have hbx : Blk w1 B1 66 [I r.id, I kb, .string r.of, .string r.key, I r.is, .string r.fr, .string r.dst, I r.n] := by rw [hw1, hB1]; exact Blk.new W [I r.id, I kb, .string r.of, .string r.key, I r.is, .string r.fr, .string r.dst, I r.n] 66
      have hT1 := hT.G hg1
      have g0 : w1.cell? ⟨0, kb * 6, none⟩ = some (.string fw) := (hT1.f _).trans f0
      have g1 : w1.cell? ⟨0, kb * 6 + 1, none⟩ = some (I (fProps kb)) := (hT1.f _).trans f1
      have g2 : w1.cell? ⟨0, kb * 6 + 2, none⟩ = some (.bool (fKey kb)) := (hT1.f _).trans f2
      have g3 : w1.cell? ⟨0, kb * 6 + 3, none⟩ = some (.bool (fIs kb)) := (hT1.f _).trans f3
      have g4 : w1.cell? ⟨0, kb * 6 + 4, none⟩ = some (.bool (fEnds kb)) := (hT1.f _).trans f4
      have g5 : w1.cell? ⟨0, kb * 6 + 5, none⟩ = some (.bool (fN kb)) := (hT1.f _).trans f5
      rw [decide_eq_true h1, decide_eq_true h6] at hsb
      obtain ⟨sb, hsb2⟩ : ∃ sb, sb = standsB r := ⟨_, rfl⟩
      rw [← hsb2] at hsb ⊢
      generalize fProps kb = fp at *
      generalize fKey kb = fk at *
      generalize fIs kb = fi at *
      generalize fEnds kb = fe at *
      generalize fN kb = fn at *
      have HSB := hide hsb
      obtain ⟨w2, hw2⟩ : ∃ w2, w2 = w1.alloc (.cells #[.string fw, I fp, .bool fk, .bool fi, .bool fe, .bool fn] 146) := ⟨_, rfl⟩
      obtain ⟨B2, hB2⟩ : ∃ B2, B2 = w1.heap.size := ⟨_, rfl⟩
      have hg2 : G w1 w2 := by rw [hw2]; exact (G.refl w1).alloc _
      have hb2 : Blk w2 B2 146 [.string fw, I fp, .bool fk, .bool fi, .bool fe, .bool fn] := by rw [hw2, hB2]; exact Blk.new w1 [.string fw, I fp, .bool fk, .bool fi, .bool fe, .bool fn] 146
      have HGA : Hid (G W w2) := hg1.trans hg2
      have c1 := hbx.cell
      have c2 := (hbx.G hg2).cell
      have d2 := hb2.cell
      have HEW : Hid ((W.alloc (.cells #[I r.id, I kb, .string r.of, .string r.key, I r.is, .string r.fr, .string r.dst, I r.n] 66)) = w1) := hw1.symm
      have HE1 : Hid (W.heap.size = B1) := hB1.symm
      have HEX : Hid (w1.alloc (.cells #[.string fw, I fp, .bool fk, .bool fi, .bool fe, .bool fn] 146) = w2) := hw2.symm
      have HE2 : Hid (w1.heap.size = B2) := hB2.symm
      have KN := hide (fun w : World => Name_any r.of w)
      have K1 := hide (fun w : World => fitS_any fk r.key w)
      have K2 := hide (fun w : World => fitI_any fi r.is w)
      have K3 := hide (fun w : World => fitS_any fe r.fr w)
      have K4 := hide (fun w : World => fitS_any fe r.dst w)
      have K5 := hide (fun w : World => fitN_any fn r.n w)
      have d1 : ¬ ((kb : Int) < 1) := by omega
      have d6 : ¬ ((kb : Int) > 6) := by omega
      have d7 : (kb : Int) < 7 := by omega
      have dk : kb ≤ 6 := by omega
      clear hsb hsb2 hT hT1 hw1 hB1 hg1 hbx hw2 hB2 hg2 hb2 f0 f1 f2 f3 f4 f5 h1 h6
      cases v0 : nameB r.of with
      | false =>
        have HF : Hid (sb = false) := by
          rw [Hid, HSB.out, v0]
          simp
        rw [v0] at KN
        clear v0
        go_enter Tryz.func71, Tryz.ntmps71
        go_wp2_with (first | (rw [HEX.out]; (try rw [HE2.out]); clear HEX) | (rw [HEW.out]; (try rw [HE1.out]); clear HEW) | fail)
        try rw [HEX.out]
        try rw [HE2.out]
        refine (KN.out _).mono ?_
        rintro e w' ⟨rfl, h9⟩
        subst w'
        go_wp2_with fail
        go_ret
        exact ⟨by rw [HF.out] <;> rfl, HGA.out⟩
      | true =>
        rw [v0] at KN
        cases v1 : fitS fk r.key with
        | false =>
          have HF : Hid (sb = false) := by
            rw [Hid, HSB.out, v0, v1]
            simp
          rw [v1] at K1
          clear v0 v1
          go_enter Tryz.func71, Tryz.ntmps71
          go_wp2_with (first | (rw [HEX.out]; (try rw [HE2.out]); clear HEX) | (rw [HEW.out]; (try rw [HE1.out]); clear HEW) | fail)
          try rw [HEX.out]
          try rw [HE2.out]
          refine (KN.out _).mono ?_
          rintro e w' ⟨rfl, h9⟩
          subst w'
          go_wp2_with fail
          refine (K1.out _).mono ?_
          rintro e w' ⟨rfl, h9⟩
          subst w'
          go_wp2_with fail
          go_ret
          exact ⟨by rw [HF.out] <;> rfl, HGA.out⟩
        | true =>
          rw [v1] at K1
          cases v2 : fitI fi r.is with
          | false =>
            have HF : Hid (sb = false) := by
              rw [Hid, HSB.out, v0, v1, v2]
              simp
            rw [v2] at K2
            clear v0 v1 v2
            go_enter Tryz.func71, Tryz.ntmps71
            go_wp2_with (first | (rw [HEX.out]; (try rw [HE2.out]); clear HEX) | (rw [HEW.out]; (try rw [HE1.out]); clear HEW) | fail)
            try rw [HEX.out]
            try rw [HE2.out]
            refine (KN.out _).mono ?_
            rintro e w' ⟨rfl, h9⟩
            subst w'
            go_wp2_with fail
            refine (K1.out _).mono ?_
            rintro e w' ⟨rfl, h9⟩
            subst w'
            go_wp2_with fail
            refine (K2.out _).mono ?_
            rintro e w' ⟨rfl, h9⟩
            subst w'
            go_wp2_with fail
            go_ret
            exact ⟨by rw [HF.out] <;> rfl, HGA.out⟩
          | true =>
            rw [v2] at K2
            cases v3 : fitS fe r.fr with
            | false =>
              have HF : Hid (sb = false) := by
                rw [Hid, HSB.out, v0, v1, v2, v3]
                simp
              rw [v3] at K3
              clear v0 v1 v2 v3
              go_enter Tryz.func71, Tryz.ntmps71
              go_wp2_with (first | (rw [HEX.out]; (try rw [HE2.out]); clear HEX) | (rw [HEW.out]; (try rw [HE1.out]); clear HEW) | fail)
              try rw [HEX.out]
              try rw [HE2.out]
              refine (KN.out _).mono ?_
              rintro e w' ⟨rfl, h9⟩
              subst w'
              go_wp2_with fail
              refine (K1.out _).mono ?_
              rintro e w' ⟨rfl, h9⟩
              subst w'
              go_wp2_with fail
              refine (K2.out _).mono ?_
              rintro e w' ⟨rfl, h9⟩
              subst w'
              go_wp2_with fail
              refine (K3.out _).mono ?_
              rintro e w' ⟨rfl, h9⟩
              subst w'
              go_wp2_with fail
              go_ret
              exact ⟨by rw [HF.out] <;> rfl, HGA.out⟩
            | true =>
              rw [v3] at K3
              cases v4 : fitS fe r.dst with
              | false =>
                have HF : Hid (sb = false) := by
                  rw [Hid, HSB.out, v0, v1, v2, v3, v4]
                  simp
                rw [v4] at K4
                clear v0 v1 v2 v3 v4
                go_enter Tryz.func71, Tryz.ntmps71
                go_wp2_with (first | (rw [HEX.out]; (try rw [HE2.out]); clear HEX) | (rw [HEW.out]; (try rw [HE1.out]); clear HEW) | fail)
                try rw [HEX.out]
                try rw [HE2.out]
                refine (KN.out _).mono ?_
                rintro e w' ⟨rfl, h9⟩
                subst w'
                go_wp2_with fail
                refine (K1.out _).mono ?_
                rintro e w' ⟨rfl, h9⟩
                subst w'
                go_wp2_with fail
                refine (K2.out _).mono ?_
                rintro e w' ⟨rfl, h9⟩
                subst w'
                go_wp2_with fail
                refine (K3.out _).mono ?_
                rintro e w' ⟨rfl, h9⟩
                subst w'
                go_wp2_with fail
                refine (K4.out _).mono ?_
                rintro e w' ⟨rfl, h9⟩
                subst w'
                go_wp2_with fail
                go_ret
                exact ⟨by rw [HF.out] <;> rfl, HGA.out⟩
              | true =>
                rw [v4] at K4
                have HF : Hid (sb = fitN fn r.n) := by rw [Hid, HSB.out, v0, v1, v2, v3, v4]; rfl
                go_enter Tryz.func71, Tryz.ntmps71
                go_wp2_with (first | (rw [HEX.out]; (try rw [HE2.out]); clear HEX) | (rw [HEW.out]; (try rw [HE1.out]); clear HEW) | fail)
                try rw [HEX.out]
                try rw [HE2.out]
                refine (KN.out _).mono ?_
                rintro e w' ⟨rfl, h9⟩
                subst w'
                go_wp2_with fail
                refine (K1.out _).mono ?_
                rintro e w' ⟨rfl, h9⟩
                subst w'
                go_wp2_with fail
                refine (K2.out _).mono ?_
                rintro e w' ⟨rfl, h9⟩
                subst w'
                go_wp2_with fail
                refine (K3.out _).mono ?_
                rintro e w' ⟨rfl, h9⟩
                subst w'
                go_wp2_with fail
                refine (K4.out _).mono ?_
                rintro e w' ⟨rfl, h9⟩
                subst w'
                go_wp2_with fail
                refine (K5.out _).mono ?_
                rintro e w' ⟨rfl, h9⟩
                subst w'
                go_wp2_with fail
                go_ret
                exact ⟨by rw [HF.out] <;> rfl, HGA.out⟩
    · have HF : Hid (standsB r = false) := by rw [Hid, hsb, decide_eq_false h6]; simp
      have HGA : Hid (G W (W.alloc (.cells #[I r.id, I kd, .string r.of, .string r.key, I r.is, .string r.fr, .string r.dst, I r.n] 66))) := (G.refl W).alloc _
      have d1 : ¬ (kd < 1) := by omega
      have d6 : kd > 6 := by omega
      clear hsb
      go_enter Tryz.func71, Tryz.ntmps71
      go_wp2_with fail
      go_ret
      exact ⟨by rw [HF.out] <;> rfl, HGA.out⟩
  · have HF : Hid (standsB r = false) := by rw [Hid, hsb, decide_eq_false h1]; simp
    have HGA : Hid (G W (W.alloc (.cells #[I r.id, I kd, .string r.of, .string r.key, I r.is, .string r.fr, .string r.dst, I r.n] 66))) := (G.refl W).alloc _
    have d1 : kd < 1 := by omega
    clear hsb
    go_enter Tryz.func71, Tryz.ntmps71
    go_wp2_with fail
    go_ret
    exact ⟨by rw [HF.out] <;> rfl, HGA.out⟩
end Go.Proofs.YtifioikdhfhljaaGreatDoor
