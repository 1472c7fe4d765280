/- The literals of all kinds but strings. -/
import Derived.Test.YthmdjhfbhbheeaaGreatDoorBk1
import Derived.Test.YthmdjhfbhbheeaaGreatDoorItemKinds
namespace Go.Proofs.YthmdjhfbhbheeaaGreatDoor
open Go.RowKit Go.Lib Go.Shelf

theorem strU_app (l l' : List UInt8) : strU l ++ strU l' = strU (l ++ l') := by
  apply ByteArray.ext
  simp [strU]
theorem dec_len : ∀ (k u : Nat), u < 10 ^ (k + 1) → (decDigits u).length ≤ k + 1
  | 0, u, h => by rw [decDigits, dif_pos (by simpa using h)]; simp
  | k + 1, u, h => by
    rw [decDigits]
    by_cases c : u < 10
    · rw [dif_pos c]; simp
    · rw [dif_neg c, List.length_append, List.length_singleton]
      have := dec_len k (u / 10) (by rw [Nat.pow_succ] at h; omega)
      omega
theorem itoa_len (n : Int) (h : R64 n) : (itoa n).length ≤ 21 := by
  unfold R64 at h
  unfold itoa
  split
  · have := dec_len 19 n.natAbs (by omega)
    rw [List.length_cons]; omega
  · have := dec_len 19 n.toNat (by omega)
    omega
theorem strU_size (l : List UInt8) : (strU l).size = l.length := by simp [strU, ByteArray.size]
/-- An item whose literal is l. -/
def ILit (x : Value) (l : List UInt8) : Prop := ∃ (t : TypeId) (f : FuncId) (v : Value), x = .iface t v ∧ (∀ w, (method 351 t v "trellis/value.literal").run Tryz.prog w = .ok (f, v) w) ∧ (∀ w, (callFunc f #[v]).run Tryz.prog w = .ok (.enter f #[v]) w) ∧ ∀ w, Env w → Calls Tryz.prog f #[v] w fun e w' => e = .returned (.string (strU l)) ∧ G w w'
theorem lit_null : ILit (.iface 110 (.agg #[])) [110, 117, 108, 108] := by
  refine ⟨_, 232, _, rfl, fun w => by kernel_rfl, fun w => by simp [go_sem], fun w _ => ?_⟩
  go_enter Tryz.func232, Tryz.ntmps232
  go_wp2
  go_ret
  exact ⟨rfl, by repeat (first | exact G.refl _ | refine G.alloc ?_ _)⟩
theorem lit_truth (b : Bool) : ILit (.iface 111 (.bool b)) (if b then [116, 114, 117, 101] else [102, 97, 108, 115, 101]) := by
  refine ⟨_, 237, _, rfl, fun w => by kernel_rfl, fun w => by simp [go_sem], fun w _ => ?_⟩
  cases b
  all_goals
   have HF : Hid (∀ b, Calls Tryz.prog 241 #[.bool b] w fun e w' => e = .returned (.string ⟨(formatBool b).toArray⟩) ∧ w' = w) := fun b => Any.strconv_FormatBool Tryz.laysFormatBool b w
   go_enter Tryz.func237, Tryz.ntmps237
   go_wp2_with fail
   refine (HF.out _).mono ?_
   rintro e w1 ⟨rfl, rfl⟩
   go_wp2
   go_ret
   exact ⟨rfl, G.refl _⟩
theorem lit_whole (n : Int) (h : R64 n) : ILit (.iface 135 (.int .i64 n)) (itoa n) := by
  refine ⟨_, 244, _, rfl, fun w => by kernel_rfl, fun w => by simp [go_sem], fun w hE => ?_⟩
  have HF : Hid (Calls Tryz.prog 249 #[.int .i64 n] w fun e w' => e = .returned (.string (strU (itoa n))) ∧ G w w') := dec_any n h w hE
  clear hE
  go_enter Tryz.func244, Tryz.ntmps244
  go_wp2_with fail
  refine HF.out.mono ?_
  rintro e w1 ⟨rfl, hb⟩
  have HB : Hid _ := hb
  clear hb
  go_wp2
  go_ret
  exact ⟨rfl, HB.out⟩
theorem lit_node (n : Int) (h : R64 n) : ILit (.iface 138 (.int .i64 n)) (40 :: itoa n ++ [41]) := by
  refine ⟨_, 265, _, rfl, fun w => by kernel_rfl, fun w => by simp [go_sem], fun w hE => ?_⟩
  have HF : Hid (Calls Tryz.prog 249 #[.int .i64 n] w fun e w' => e = .returned (.string (strU (itoa n))) ∧ G w w') := dec_any n h w hE
  clear hE
  go_enter Tryz.func265, Tryz.ntmps265
  go_wp2_with fail
  refine HF.out.mono ?_
  rintro e w1 ⟨rfl, hb⟩
  have HB : Hid _ := hb
  clear hb
  have hz := itoa_len n h
  have hz1 : (strU (itoa n)).size ≤ 100 := by rw [strU_size]; omega
  have hz2 : (({ data := #[40] } : ByteArray) ++ strU (itoa n)).size ≤ 101 := by rw [ByteArray.size_append]; show 1 + _ ≤ 101; omega
  go_wp2
  go_ret
  refine ⟨?_, HB.out⟩
  show Ending.returned (.string (strU [40] ++ strU (itoa n) ++ strU [41])) = _
  rw [strU_app, strU_app]; rfl
theorem lit_edge (n : Int) (h : R64 n) : ILit (.iface 139 (.int .i64 n)) (91 :: itoa n ++ [93]) := by
  refine ⟨_, 270, _, rfl, fun w => by kernel_rfl, fun w => by simp [go_sem], fun w hE => ?_⟩
  have HF : Hid (Calls Tryz.prog 249 #[.int .i64 n] w fun e w' => e = .returned (.string (strU (itoa n))) ∧ G w w') := dec_any n h w hE
  clear hE
  go_enter Tryz.func270, Tryz.ntmps270
  go_wp2_with fail
  refine HF.out.mono ?_
  rintro e w1 ⟨rfl, hb⟩
  have HB : Hid _ := hb
  clear hb
  have hz := itoa_len n h
  have hz1 : (strU (itoa n)).size ≤ 100 := by rw [strU_size]; omega
  have hz2 : (({ data := #[91] } : ByteArray) ++ strU (itoa n)).size ≤ 101 := by rw [ByteArray.size_append]; show 1 + _ ≤ 101; omega
  go_wp2
  go_ret
  refine ⟨?_, HB.out⟩
  show Ending.returned (.string (strU [91] ++ strU (itoa n) ++ strU [93])) = _
  rw [strU_app, strU_app]; rfl
theorem lit_cpx (x y : Nat) (a b : Int) (hx : Fl x a) (hy : Fl y b) (ha : a.natAbs < 2 ^ 53) (hb : b.natAbs < 2 ^ 53) : ILit (.iface 136 (.complex .f64 x y)) ((if b < 0 then itoa a ++ itoa b else itoa a ++ 43 :: itoa b) ++ [105]) := by
  refine ⟨_, 252, _, rfl, fun w => by kernel_rfl, fun w => by simp [go_sem], fun w hE => ?_⟩
  have HP : Hid _ := parts_fl x y a b hx hy ha hb
  have HD : Hid (∀ w n, R64 n → Env w → Calls Tryz.prog 249 #[.int .i64 n] w fun e w' => e = .returned (.string (strU (itoa n))) ∧ G w w') := fun w n h hE => dec_any n h w hE
  have HE : Hid _ := hE
  have ra : R64 a := by unfold R64; omega
  have rb : R64 b := by unfold R64; omega
  clear hE
  go_enter Tryz.func252, Tryz.ntmps252
  have hza := itoa_len a ra
  have hzb := itoa_len b rb
  have z1 : (strU (itoa a)).size ≤ 100 := by rw [strU_size]; omega
  have z2 : (strU (itoa b)).size ≤ 100 := by rw [strU_size]; omega
  have z3 : (strU (itoa a) ++ strU (itoa b)).size ≤ 200 := by rw [ByteArray.size_append]; omega
  have z4 : (strU (itoa a) ++ ({ data := #[43] } : ByteArray)).size ≤ 101 := by rw [ByteArray.size_append]; show _ + 1 ≤ 101; omega
  have z5 : (strU (itoa a) ++ ({ data := #[43] } : ByteArray) ++ strU (itoa b)).size ≤ 201 := by rw [ByteArray.size_append]; omega
  by_cases hb0 : b < 0
  · go_wp2_with fail
    refine (HP.out w).mono ?_
    rintro e w1 ⟨rfl, hw⟩
    rw [hw]
    clear hw w1
    go_wp2_with fail
    refine (HD.out w a ra HE.out).mono ?_
    rintro e w1 ⟨rfl, g1⟩
    have HG1 : Hid (G w w1) := g1
    clear g1
    go_wp2_with fail
    refine (HD.out w1 b rb (HE.out.G HG1.out)).mono ?_
    rintro e w2 ⟨rfl, g2⟩
    have HG2 : Hid (G w w2) := HG1.out.trans g2
    clear g2
    go_wp2
    go_ret
    refine ⟨?_, HG2.out⟩
    show Ending.returned (.string (strU (itoa a) ++ strU (itoa b) ++ strU [105])) = _
    rw [strU_app, strU_app]; simp
  · go_wp2_with fail
    refine (HP.out w).mono ?_
    rintro e w1 ⟨rfl, hw⟩
    rw [hw]
    clear hw w1
    go_wp2_with fail
    refine (HD.out w a ra HE.out).mono ?_
    rintro e w1 ⟨rfl, g1⟩
    have HG1 : Hid (G w w1) := g1
    clear g1
    go_wp2_with fail
    refine (HD.out w1 b rb (HE.out.G HG1.out)).mono ?_
    rintro e w2 ⟨rfl, g2⟩
    have HG2 : Hid (G w w2) := HG1.out.trans g2
    clear g2
    go_wp2
    go_ret
    refine ⟨?_, HG2.out⟩
    show Ending.returned (.string (strU (itoa a) ++ strU [43] ++ strU (itoa b) ++ strU [105])) = _
    rw [strU_app, strU_app, strU_app]; simp
end Go.Proofs.YthmdjhfbhbheeaaGreatDoor
