/- value.escaped. -/
import Derived.Test.YthpflfkgbapbnaaGreatDoorBk1
import Derived.Test.YthpflfkgbapbnaaGreatDoorItemKinds
import Derived.Laws.IdiomStrings
namespace Go.Proofs.YthpflfkgbapbnaaGreatDoor
section
open Go.RowKit Go.Lib Go.Shelf

theorem strU_app (l l' : List UInt8) : strU l ++ strU l' = strU (l ++ l') := by
  apply ByteArray.ext
  simp [strU]
theorem dec_len : ∀ (k u : Nat), u < 10 ^ (k + 1) → (decDigits u).length ≤ k + 1
  | 0, u, h => by rw [decDigits, dif_pos (by simpa using h)]; simp
  | k + 1, u, h => by
    rw [decDigits]
    by_cases c : u < 10
    · rw [dif_pos c]; simp
    · rw [dif_neg c, List.length_append, List.length_singleton]
      have := dec_len k (u / 10) (by rw [Nat.pow_succ] at h; omega)
      omega
theorem itoa_len (n : Int) (h : R64 n) : (itoa n).length ≤ 21 := by
  unfold R64 at h
  unfold itoa
  split
  · have := dec_len 19 n.natAbs (by omega)
    rw [List.length_cons]; omega
  · have := dec_len 19 n.toNat (by omega)
    omega
theorem strU_size (l : List UInt8) : (strU l).size = l.length := by simp [strU, ByteArray.size]
/-- An item whose literal is l. -/
def ILit (x : Value) (l : List UInt8) : Prop := ∃ (t : TypeId) (f : FuncId) (v : Value), x = .iface t v ∧ (∀ w, (method 347 t v "trellis/value.literal").run Tryz.prog w = .ok (f, v) w) ∧ (∀ w, (callFunc f #[v]).run Tryz.prog w = .ok (.enter f #[v]) w) ∧ ∀ w, Env w → Calls Tryz.prog f #[v] w fun e w' => e = .returned (.string (strU l)) ∧ G w w'
theorem lit_null : ILit (.iface 199 (.agg #[])) [110, 117, 108, 108] := by
  refine ⟨_, 180, _, rfl, fun w => by kernel_rfl, fun w => by simp [go_sem], fun w _ => ?_⟩
  go_enter Tryz.func180, Tryz.ntmps180
  go_wp2
  go_ret
  exact ⟨rfl, by repeat (first | exact G.refl _ | refine G.alloc ?_ _)⟩
theorem lit_truth (b : Bool) : ILit (.iface 200 (.bool b)) (if b then [116, 114, 117, 101] else [102, 97, 108, 115, 101]) := by
  refine ⟨_, 185, _, rfl, fun w => by kernel_rfl, fun w => by simp [go_sem], fun w _ => ?_⟩
  cases b
  all_goals
   have HF : Hid (∀ b, Calls Tryz.prog 189 #[.bool b] w fun e w' => e = .returned (.string ⟨(formatBool b).toArray⟩) ∧ w' = w) := fun b => Any.strconv_FormatBool Tryz.laysFormatBool b w
   go_enter Tryz.func185, Tryz.ntmps185
   go_wp2_with fail
   refine (HF.out _).mono ?_
   rintro e w1 ⟨rfl, rfl⟩
   go_wp2
   go_ret
   exact ⟨rfl, G.refl _⟩
theorem lit_whole (n : Int) (h : R64 n) : ILit (.iface 201 (.int .i64 n)) (itoa n) := by
  refine ⟨_, 192, _, rfl, fun w => by kernel_rfl, fun w => by simp [go_sem], fun w hE => ?_⟩
  have HF : Hid (Calls Tryz.prog 196 #[.int .i64 n] w fun e w' => e = .returned (.string (strU (itoa n))) ∧ G w w') := dec_any n h w hE
  clear hE
  go_enter Tryz.func192, Tryz.ntmps192
  go_wp2_with fail
  refine HF.out.mono ?_
  rintro e w1 ⟨rfl, hb⟩
  have HB : Hid _ := hb
  clear hb
  go_wp2
  go_ret
  exact ⟨rfl, HB.out⟩
theorem lit_node (n : Int) (h : R64 n) : ILit (.iface 207 (.int .i64 n)) (40 :: itoa n ++ [41]) := by
  refine ⟨_, 211, _, rfl, fun w => by kernel_rfl, fun w => by simp [go_sem], fun w hE => ?_⟩
  have HF : Hid (Calls Tryz.prog 196 #[.int .i64 n] w fun e w' => e = .returned (.string (strU (itoa n))) ∧ G w w') := dec_any n h w hE
  clear hE
  go_enter Tryz.func211, Tryz.ntmps211
  go_wp2_with fail
  refine HF.out.mono ?_
  rintro e w1 ⟨rfl, hb⟩
  have HB : Hid _ := hb
  clear hb
  have hz := itoa_len n h
  have hz1 : (strU (itoa n)).size ≤ 100 := by rw [strU_size]; omega
  have hz2 : (({ data := #[40] } : ByteArray) ++ strU (itoa n)).size ≤ 101 := by rw [ByteArray.size_append]; show 1 + _ ≤ 101; omega
  go_wp2
  go_ret
  refine ⟨?_, HB.out⟩
  show Ending.returned (.string (strU [40] ++ strU (itoa n) ++ strU [41])) = _
  rw [strU_app, strU_app]; rfl
theorem lit_edge (n : Int) (h : R64 n) : ILit (.iface 208 (.int .i64 n)) (91 :: itoa n ++ [93]) := by
  refine ⟨_, 216, _, rfl, fun w => by kernel_rfl, fun w => by simp [go_sem], fun w hE => ?_⟩
  have HF : Hid (Calls Tryz.prog 196 #[.int .i64 n] w fun e w' => e = .returned (.string (strU (itoa n))) ∧ G w w') := dec_any n h w hE
  clear hE
  go_enter Tryz.func216, Tryz.ntmps216
  go_wp2_with fail
  refine HF.out.mono ?_
  rintro e w1 ⟨rfl, hb⟩
  have HB : Hid _ := hb
  clear hb
  have hz := itoa_len n h
  have hz1 : (strU (itoa n)).size ≤ 100 := by rw [strU_size]; omega
  have hz2 : (({ data := #[91] } : ByteArray) ++ strU (itoa n)).size ≤ 101 := by rw [ByteArray.size_append]; show 1 + _ ≤ 101; omega
  go_wp2
  go_ret
  refine ⟨?_, HB.out⟩
  show Ending.returned (.string (strU [91] ++ strU (itoa n) ++ strU [93])) = _
  rw [strU_app, strU_app]; rfl
theorem lit_cpx (x y : Nat) (a b : Int) (hx : Fl x a) (hy : Fl y b) (ha : a.natAbs < 2 ^ 53) (hb : b.natAbs < 2 ^ 53) : ILit (.iface 204 (.complex .f64 x y)) ((if b < 0 then itoa a ++ itoa b else itoa a ++ 43 :: itoa b) ++ [105]) := by
  refine ⟨_, 198, _, rfl, fun w => by kernel_rfl, fun w => by simp [go_sem], fun w hE => ?_⟩
  have HP : Hid _ := parts_fl x y a b hx hy ha hb
  have HD : Hid (∀ w n, R64 n → Env w → Calls Tryz.prog 196 #[.int .i64 n] w fun e w' => e = .returned (.string (strU (itoa n))) ∧ G w w') := fun w n h hE => dec_any n h w hE
  have HE : Hid _ := hE
  have ra : R64 a := by unfold R64; omega
  have rb : R64 b := by unfold R64; omega
  clear hE
  go_enter Tryz.func198, Tryz.ntmps198
  have hza := itoa_len a ra
  have hzb := itoa_len b rb
  have z1 : (strU (itoa a)).size ≤ 100 := by rw [strU_size]; omega
  have z2 : (strU (itoa b)).size ≤ 100 := by rw [strU_size]; omega
  have z3 : (strU (itoa a) ++ strU (itoa b)).size ≤ 200 := by rw [ByteArray.size_append]; omega
  have z4 : (strU (itoa a) ++ ({ data := #[43] } : ByteArray)).size ≤ 101 := by rw [ByteArray.size_append]; show _ + 1 ≤ 101; omega
  have z5 : (strU (itoa a) ++ ({ data := #[43] } : ByteArray) ++ strU (itoa b)).size ≤ 201 := by rw [ByteArray.size_append]; omega
  by_cases hb0 : b < 0
  · go_wp2_with fail
    refine (HP.out w).mono ?_
    rintro e w1 ⟨rfl, hw⟩
    rw [hw]
    clear hw w1
    go_wp2_with fail
    refine (HD.out w a ra HE.out).mono ?_
    rintro e w1 ⟨rfl, g1⟩
    have HG1 : Hid (G w w1) := g1
    clear g1
    go_wp2_with fail
    refine (HD.out w1 b rb (HE.out.G HG1.out)).mono ?_
    rintro e w2 ⟨rfl, g2⟩
    have HG2 : Hid (G w w2) := HG1.out.trans g2
    clear g2
    go_wp2
    go_ret
    refine ⟨?_, HG2.out⟩
    show Ending.returned (.string (strU (itoa a) ++ strU (itoa b) ++ strU [105])) = _
    rw [strU_app, strU_app]; simp
  · go_wp2_with fail
    refine (HP.out w).mono ?_
    rintro e w1 ⟨rfl, hw⟩
    rw [hw]
    clear hw w1
    go_wp2_with fail
    refine (HD.out w a ra HE.out).mono ?_
    rintro e w1 ⟨rfl, g1⟩
    have HG1 : Hid (G w w1) := g1
    clear g1
    go_wp2_with fail
    refine (HD.out w1 b rb (HE.out.G HG1.out)).mono ?_
    rintro e w2 ⟨rfl, g2⟩
    have HG2 : Hid (G w w2) := HG1.out.trans g2
    clear g2
    go_wp2
    go_ret
    refine ⟨?_, HG2.out⟩
    show Ending.returned (.string (strU (itoa a) ++ strU [43] ++ strU (itoa b) ++ strU [105])) = _
    rw [strU_app, strU_app, strU_app]; simp
end
open Go.RowKit Go.Lib Go.Shelf

/-- The escapes: bytes, and their letters. -/
def escOf : Nat → Int | 0 => 92 | 1 => 39 | 2 => 10 | 3 => 9 | _ => 13
def escLt : Nat → Int | 0 => 92 | 1 => 39 | 2 => 110 | 3 => 116 | _ => 114
theorem esc_cells {w : World} (h : Env w) : ∀ o, w.cell? { block := 11, off := o } = (#[.int .u8 92, .int .u8 92, .int .u8 39, .int .u8 39, .int .u8 10, .int .u8 110, .int .u8 9, .int .u8 116, .int .u8 13, .int .u8 114] : Array Value)[o]? := by
  have hg : Tryz.prog.globalNamed "trellis/value.escapes" = some 11 := by kernel_rfl
  exact fun o => World.var?_cell hg h.e o
theorem conv_two (w : World) (X : Obj) (x y : UInt8) : (convert 68 9 (.slice (some ⟨w.heap.size + 1, 0, none⟩) 2 2)).run Tryz.prog ((w.alloc X).alloc (.cells #[.int .u8 x.toNat, .int .u8 y.toNat] 5)) = .ok (.string (strU [x, y])) ((w.alloc X).alloc (.cells #[.int .u8 x.toNat, .int .u8 y.toNat] 5)) := by
  refine run_convert_bytes_back _ 68 9 5 ⟨w.heap.size + 1, 0, none⟩ 2 [x, y] Tryz.underlying68 Tryz.underlying5 Tryz.underlying9 (fun j hj => ?_)
  match j, hj with
  | 0, _ => simp [Addr.add]
  | 1, _ => simp [Addr.add]
theorem conv_four (w : World) (x y z u : UInt8) : (convert 68 9 (.slice (some ⟨w.heap.size, 0, none⟩) 4 4)).run Tryz.prog (w.alloc (.cells #[.int .u8 x.toNat, .int .u8 y.toNat, .int .u8 z.toNat, .int .u8 u.toNat] 5)).drew = .ok (.string (strU [x, y, z, u])) (w.alloc (.cells #[.int .u8 x.toNat, .int .u8 y.toNat, .int .u8 z.toNat, .int .u8 u.toNat] 5)).drew := by
  refine run_convert_bytes_back _ 68 9 5 ⟨w.heap.size, 0, none⟩ 4 [x, y, z, u] Tryz.underlying68 Tryz.underlying5 Tryz.underlying9 (fun j hj => ?_)
  match j, hj with
  | 0, _ => simp [Addr.add]
  | 1, _ => simp [Addr.add]
  | 2, _ => simp [Addr.add]
  | 3, _ => simp [Addr.add]
theorem ix_0 (w : World) : (Instr.index 216 (.agg #[.int .u8 92, .int .u8 92, .int .u8 39, .int .u8 39, .int .u8 10, .int .u8 110, .int .u8 9, .int .u8 116, .int .u8 13, .int .u8 114]) (.int .i64 0)).run Tryz.prog w = .ok (.agg #[.int .u8 92, .int .u8 92]) w := by kernel_rfl
theorem ix_1 (w : World) : (Instr.index 216 (.agg #[.int .u8 92, .int .u8 92, .int .u8 39, .int .u8 39, .int .u8 10, .int .u8 110, .int .u8 9, .int .u8 116, .int .u8 13, .int .u8 114]) (.int .i64 1)).run Tryz.prog w = .ok (.agg #[.int .u8 39, .int .u8 39]) w := by kernel_rfl
theorem ix_2 (w : World) : (Instr.index 216 (.agg #[.int .u8 92, .int .u8 92, .int .u8 39, .int .u8 39, .int .u8 10, .int .u8 110, .int .u8 9, .int .u8 116, .int .u8 13, .int .u8 114]) (.int .i64 2)).run Tryz.prog w = .ok (.agg #[.int .u8 10, .int .u8 110]) w := by kernel_rfl
theorem ix_3 (w : World) : (Instr.index 216 (.agg #[.int .u8 92, .int .u8 92, .int .u8 39, .int .u8 39, .int .u8 10, .int .u8 110, .int .u8 9, .int .u8 116, .int .u8 13, .int .u8 114]) (.int .i64 3)).run Tryz.prog w = .ok (.agg #[.int .u8 9, .int .u8 116]) w := by kernel_rfl
theorem ix_4 (w : World) : (Instr.index 216 (.agg #[.int .u8 92, .int .u8 92, .int .u8 39, .int .u8 39, .int .u8 10, .int .u8 110, .int .u8 9, .int .u8 116, .int .u8 13, .int .u8 114]) (.int .i64 4)).run Tryz.prog w = .ok (.agg #[.int .u8 13, .int .u8 114]) w := by kernel_rfl
theorem digB_all : ∀ d : Fin 16, (({ data := #[48, 49, 50, 51, 52, 53, 54, 55, 56, 57, 97, 98, 99, 100, 101, 102] } : ByteArray)[d.val]'(by have := d.2; exact this)).toNat = (hx d.val).toNat := by decide
theorem digB_at (z : Int) (d : Nat) (hz : z = d) (hd : d < 16) {hb : z.toNat < ({ data := #[48, 49, 50, 51, 52, 53, 54, 55, 56, 57, 97, 98, 99, 100, 101, 102] } : ByteArray).size} : (({ data := #[48, 49, 50, 51, 52, 53, 54, 55, 56, 57, 97, 98, 99, 100, 101, 102] } : ByteArray)[z.toNat]'hb).toNat = (hx d).toNat := by
  subst hz
  simp only [Int.toNat_natCast]
  exact digB_all ⟨d, hd⟩
theorem and15 : ∀ c : Fin 32, bits BinOp.and IntKind.i32 (c.val : Int) 15 = ((c.val % 16 : Nat) : Int) := by decide
theorem esc1_loB (c : Nat) (hc : c < 32) (h : c ≠ 10 ∧ c ≠ 9 ∧ c ≠ 13) : esc1 (UInt8.ofNat c) = [92, 120, hx (c / 16), hx (c % 16)] := by
  have ht : (UInt8.ofNat c).toNat = c := by rw [UInt8.toNat_ofNat', Nat.mod_eq_of_lt (by omega)]
  have hn : ∀ d : UInt8, c ≠ d.toNat → ¬ UInt8.ofNat c = d := fun d hd e => hd (by rw [← e, ht])
  unfold esc1
  rw [if_neg (hn 92 (show c ≠ 92 by omega)), if_neg (hn 39 (show c ≠ 39 by omega)), if_neg (hn 10 h.1), if_neg (hn 9 h.2.1), if_neg (hn 13 h.2.2), if_pos (.inl (by rw [ht]; exact hc)), ht]
set_option maxRecDepth 100000 in
set_option maxHeartbeats 4000000 in
theorem escaped_any (r : Int) (h0 : 0 ≤ r) (h1 : r ≤ 1114111) (w : World) (hE : Env w) : Calls Tryz.prog 209 #[.int .i32 r] w fun e w' => e = .returned (.string (if r < 128 then strU (esc1 (UInt8.ofNat r.toNat)) else Utf8.encode r)) ∧ G w w' := by
  have hc := esc_cells hE
  clear hE
  go_enter Tryz.func209, Tryz.ntmps209
  go_wp2
  go_loopw [6] (fun i W => ∃ k : Nat, k ≤ 5 ∧ i = .int .i64 k ∧ G w W ∧ ∀ j, j < k → r ≠ escOf j) (fun i _ => 5 - (RowKit.intOf i).toNat)
  case atStart => exact ⟨0, by decide, rfl, G.refl _, fun j hj => absurd hj (Nat.not_lt_zero j)⟩
  case round =>
    obtain ⟨k, hk, rfl, hG, hn⟩ := hrel
    have HG : Hid (G w wr) := hG
    have HN : Hid _ := hn
    clear hG hn
    have hk' : k = 0 ∨ k = 1 ∨ k = 2 ∨ k = 3 ∨ k = 4 ∨ k = 5 := by omega
    rcases hk' with rfl | rfl | rfl | rfl | rfl | rfl
    · have hix := ix_0
      by_cases hr : r = 92
      · subst hr
        clear HN
        have hcv : (convert 68 9 (.slice (some ⟨wr.heap.size + 1, 0, none⟩) 2 2)).run Tryz.prog ((wr.alloc (.cells #[.int .u8 92, .int .u8 92] 215)).alloc (.cells #[.int .u8 92, .int .u8 92] 5)) = .ok (.string (strU [92, 92])) ((wr.alloc (.cells #[.int .u8 92, .int .u8 92] 215)).alloc (.cells #[.int .u8 92, .int .u8 92] 5)) := conv_two wr _ 92 92
        go_wp2
        go_ret
        exact ⟨rfl, (HG.out.alloc _).alloc _⟩
      · have hrb : (r == 92) = false := beq_false_of_ne hr
        go_wp2
        exact ⟨⟨1, by decide, rfl, HG.out.alloc _, fun j hj => by
          rcases Nat.lt_succ_iff_lt_or_eq.1 hj with h | h
          · exact HN.out j h
          · subst h; exact hr⟩, by decide⟩
    · have hix := ix_1
      by_cases hr : r = 39
      · subst hr
        clear HN
        have hcv : (convert 68 9 (.slice (some ⟨wr.heap.size + 1, 0, none⟩) 2 2)).run Tryz.prog ((wr.alloc (.cells #[.int .u8 39, .int .u8 39] 215)).alloc (.cells #[.int .u8 92, .int .u8 39] 5)) = .ok (.string (strU [92, 39])) ((wr.alloc (.cells #[.int .u8 39, .int .u8 39] 215)).alloc (.cells #[.int .u8 92, .int .u8 39] 5)) := conv_two wr _ 92 39
        go_wp2
        go_ret
        exact ⟨rfl, (HG.out.alloc _).alloc _⟩
      · have hrb : (r == 39) = false := beq_false_of_ne hr
        go_wp2
        exact ⟨⟨2, by decide, rfl, HG.out.alloc _, fun j hj => by
          rcases Nat.lt_succ_iff_lt_or_eq.1 hj with h | h
          · exact HN.out j h
          · subst h; exact hr⟩, by decide⟩
    · have hix := ix_2
      by_cases hr : r = 10
      · subst hr
        clear HN
        have hcv : (convert 68 9 (.slice (some ⟨wr.heap.size + 1, 0, none⟩) 2 2)).run Tryz.prog ((wr.alloc (.cells #[.int .u8 10, .int .u8 110] 215)).alloc (.cells #[.int .u8 92, .int .u8 110] 5)) = .ok (.string (strU [92, 110])) ((wr.alloc (.cells #[.int .u8 10, .int .u8 110] 215)).alloc (.cells #[.int .u8 92, .int .u8 110] 5)) := conv_two wr _ 92 110
        go_wp2
        go_ret
        exact ⟨rfl, (HG.out.alloc _).alloc _⟩
      · have hrb : (r == 10) = false := beq_false_of_ne hr
        go_wp2
        exact ⟨⟨3, by decide, rfl, HG.out.alloc _, fun j hj => by
          rcases Nat.lt_succ_iff_lt_or_eq.1 hj with h | h
          · exact HN.out j h
          · subst h; exact hr⟩, by decide⟩
    · have hix := ix_3
      by_cases hr : r = 9
      · subst hr
        clear HN
        have hcv : (convert 68 9 (.slice (some ⟨wr.heap.size + 1, 0, none⟩) 2 2)).run Tryz.prog ((wr.alloc (.cells #[.int .u8 9, .int .u8 116] 215)).alloc (.cells #[.int .u8 92, .int .u8 116] 5)) = .ok (.string (strU [92, 116])) ((wr.alloc (.cells #[.int .u8 9, .int .u8 116] 215)).alloc (.cells #[.int .u8 92, .int .u8 116] 5)) := conv_two wr _ 92 116
        go_wp2
        go_ret
        exact ⟨rfl, (HG.out.alloc _).alloc _⟩
      · have hrb : (r == 9) = false := beq_false_of_ne hr
        go_wp2
        exact ⟨⟨4, by decide, rfl, HG.out.alloc _, fun j hj => by
          rcases Nat.lt_succ_iff_lt_or_eq.1 hj with h | h
          · exact HN.out j h
          · subst h; exact hr⟩, by decide⟩
    · have hix := ix_4
      by_cases hr : r = 13
      · subst hr
        clear HN
        have hcv : (convert 68 9 (.slice (some ⟨wr.heap.size + 1, 0, none⟩) 2 2)).run Tryz.prog ((wr.alloc (.cells #[.int .u8 13, .int .u8 114] 215)).alloc (.cells #[.int .u8 92, .int .u8 114] 5)) = .ok (.string (strU [92, 114])) ((wr.alloc (.cells #[.int .u8 13, .int .u8 114] 215)).alloc (.cells #[.int .u8 92, .int .u8 114] 5)) := conv_two wr _ 92 114
        go_wp2
        go_ret
        exact ⟨rfl, (HG.out.alloc _).alloc _⟩
      · have hrb : (r == 13) = false := beq_false_of_ne hr
        go_wp2
        exact ⟨⟨5, by decide, rfl, HG.out.alloc _, fun j hj => by
          rcases Nat.lt_succ_iff_lt_or_eq.1 hj with h | h
          · exact HN.out j h
          · subst h; exact hr⟩, by decide⟩
    · have hn : r ≠ 92 ∧ r ≠ 39 ∧ r ≠ 10 ∧ r ≠ 9 ∧ r ≠ 13 := ⟨HN.out 0 (by decide), HN.out 1 (by decide), HN.out 2 (by decide), HN.out 3 (by decide), HN.out 4 (by decide)⟩
      clear HN
      by_cases hl : r < 32
      · obtain ⟨c, rfl⟩ : ∃ c : Nat, r = c := ⟨r.toNat, by omega⟩
        have hc32 : c < 32 := by omega
        have hbt : bits BinOp.and IntKind.i32 (c : Int) 15 = ((c % 16 : Nat) : Int) := and15 ⟨c, hc32⟩
        have HES : Hid (esc1 (UInt8.ofNat c) = [92, 120, hx (c / 16), hx (c % 16)]) := esc1_loB c hc32 (by omega)
        have hcv : (convert 68 9 (.slice (some ⟨wr.heap.size, 0, none⟩) 4 4)).run Tryz.prog (wr.alloc (.cells #[.int .u8 92, .int .u8 120, .int .u8 (hx (c / 16)).toNat, .int .u8 (hx (c % 16)).toNat] 5)).drew = .ok (.string (strU [92, 120, hx (c / 16), hx (c % 16)])) (wr.alloc (.cells #[.int .u8 92, .int .u8 120, .int .u8 (hx (c / 16)).toNat, .int .u8 (hx (c % 16)).toNat] 5)).drew := conv_four wr 92 120 (hx (c / 16)) (hx (c % 16))
        go_wp2_with fail
        refine wp_region_noPanic ?_
        refine wp_region_held_drew (S := (fun _ => True)) (by kernel_rfl) (trivial) (fun hHeld => ?_)
        refine wpAnyH_take (i := 0) (v := ?_) rfl (by kernel_rfl) (by kernel_rfl) (by kernel_rfl) (fun _ _ _ h => h) (Or.inl ⟨by rfl, ?_⟩) hHeld ?_
        rotate_left 1
        · (intro w hSw; (try dsimp only at hSw); go_simp; try with_reducible rfl)
        try simp only [Act.put, List.getElem_toArray, List.getElem_cons_zero, List.setIfInBounds_toArray, List.set_cons_zero, List.set_cons_succ]
        refine wpAnyH_take (i := 1) (v := (.int .i32 ((c / 16 : Nat) : Int))) rfl (by kernel_rfl) (by kernel_rfl) (by kernel_rfl) (fun _ _ _ h => h) (Or.inl ⟨by rfl, ?_⟩) hHeld ?_
        · (intro w hSw; go_simp)
        try simp only [Act.put, List.getElem_toArray, List.getElem_cons_zero, List.getElem_cons_succ, List.setIfInBounds_toArray, List.set_cons_zero, List.set_cons_succ]
        refine wpAnyH_take (i := 2) (v := (.int .u8 (hx (c / 16)).toNat)) rfl (by kernel_rfl) (by kernel_rfl) (by kernel_rfl) (fun _ _ _ h => h) (Or.inl ⟨by rfl, ?_⟩) hHeld ?_
        · (intro w hSw; go_simp; rw [dif_pos (by omega)]; simp only [Result.andThen_ok]; rw [digB_at _ (c / 16) (by omega) (by omega)])
        try simp only [Act.put, List.getElem_toArray, List.getElem_cons_zero, List.getElem_cons_succ, List.setIfInBounds_toArray, List.set_cons_zero, List.set_cons_succ]
        refine wpAnyH_take (i := 3) (v := ?_) rfl (by kernel_rfl) (by kernel_rfl) (by kernel_rfl) (fun _ _ _ h => h) (Or.inl ⟨by rfl, ?_⟩) hHeld ?_
        rotate_left 1
        · (intro w hSw; (try dsimp only at hSw); go_simp; try with_reducible rfl)
        try simp only [Act.put, List.getElem_toArray, List.getElem_cons_zero, List.getElem_cons_succ, List.setIfInBounds_toArray, List.set_cons_zero, List.set_cons_succ]
        refine wpAnyH_take (i := 4) (v := (.int .i32 ((c % 16 : Nat) : Int))) rfl (by kernel_rfl) (by kernel_rfl) (by kernel_rfl) (fun _ _ _ h => h) (Or.inl ⟨by rfl, ?_⟩) hHeld ?_
        · (intro w hSw; go_simp; try rw [hbt])
        try simp only [Act.put, List.getElem_toArray, List.getElem_cons_zero, List.getElem_cons_succ, List.setIfInBounds_toArray, List.set_cons_zero, List.set_cons_succ]
        refine wpAnyH_take (i := 5) (v := (.int .u8 (hx (c % 16)).toNat)) rfl (by kernel_rfl) (by kernel_rfl) (by kernel_rfl) (fun _ _ _ h => h) (Or.inl ⟨by rfl, ?_⟩) hHeld ?_
        · (intro w hSw; go_simp; rw [dif_pos (by omega)]; simp only [Result.andThen_ok]; rw [digB_at _ (c % 16) (by omega) (by omega)])
        try simp only [Act.put, List.getElem_toArray, List.getElem_cons_zero, List.getElem_cons_succ, List.setIfInBounds_toArray, List.set_cons_zero, List.set_cons_succ]
        refine wpAnyH_ready (rs := [6]) (by kernel_rfl) (by simp) (AllReadyH.cons rfl (fun K hK => ?_) AllReadyH.nil)
        clear hHeld
        go_simp
        refine hK.out _ _ (trivial) (fun hHeld => ?_)
        clear hK K
        try simp only [Act.put, List.getElem_toArray, List.getElem_cons_zero, List.getElem_cons_succ, List.setIfInBounds_toArray, List.set_cons_zero, List.set_cons_succ]
        refine wpAnyH_ready (rs := [7]) (by kernel_rfl) (by simp) (AllReadyH.cons rfl (fun K hK => ?_) AllReadyH.nil)
        clear hHeld
        go_simp
        refine hK.out _ _ (trivial) (fun hHeld => ?_)
        clear hK K
        try simp only [Act.put, List.getElem_toArray, List.getElem_cons_zero, List.getElem_cons_succ, List.setIfInBounds_toArray, List.set_cons_zero, List.set_cons_succ]
        refine wpAnyH_take (i := 8) (v := ?_) rfl (by kernel_rfl) (by kernel_rfl) (by kernel_rfl) (fun _ _ _ h => h) (Or.inl ⟨by rfl, ?_⟩) hHeld ?_
        rotate_left 1
        · (intro w hSw; (try dsimp only at hSw); go_simp; try with_reducible rfl)
        try simp only [Act.put, List.getElem_toArray, List.getElem_cons_zero, List.getElem_cons_succ, List.setIfInBounds_toArray, List.set_cons_zero, List.set_cons_succ]
        refine wpAnyH_done (by kernel_rfl) ?_ _
        refine NoPanic.normal ?_
        go_wp2
        go_ret
        exact ⟨congrArg (fun x => Ending.returned (.string (strU x))) HES.out.symm, by repeat (first | exact HG.out | refine G.drew ?_ | refine G.alloc ?_ _)⟩
      · by_cases hl2 : r = 127
        · subst hl2
          have hbt : bits BinOp.and IntKind.i32 127 15 = 15 := by decide
          have hcv : (convert 68 9 (.slice (some ⟨wr.heap.size, 0, none⟩) 4 4)).run Tryz.prog (wr.alloc (.cells #[.int .u8 92, .int .u8 120, .int .u8 (({ data := #[48, 49, 50, 51, 52, 53, 54, 55, 56, 57, 97, 98, 99, 100, 101, 102] } : ByteArray)[7]'(by decide)).toNat, .int .u8 (({ data := #[48, 49, 50, 51, 52, 53, 54, 55, 56, 57, 97, 98, 99, 100, 101, 102] } : ByteArray)[15]'(by decide)).toNat] 5)).drew = .ok (.string (strU [92, 120, (({ data := #[48, 49, 50, 51, 52, 53, 54, 55, 56, 57, 97, 98, 99, 100, 101, 102] } : ByteArray)[7]'(by decide)), (({ data := #[48, 49, 50, 51, 52, 53, 54, 55, 56, 57, 97, 98, 99, 100, 101, 102] } : ByteArray)[15]'(by decide))])) (wr.alloc (.cells #[.int .u8 92, .int .u8 120, .int .u8 (({ data := #[48, 49, 50, 51, 52, 53, 54, 55, 56, 57, 97, 98, 99, 100, 101, 102] } : ByteArray)[7]'(by decide)).toNat, .int .u8 (({ data := #[48, 49, 50, 51, 52, 53, 54, 55, 56, 57, 97, 98, 99, 100, 101, 102] } : ByteArray)[15]'(by decide)).toNat] 5)).drew := conv_four wr 92 120 (({ data := #[48, 49, 50, 51, 52, 53, 54, 55, 56, 57, 97, 98, 99, 100, 101, 102] } : ByteArray)[7]'(by decide)) (({ data := #[48, 49, 50, 51, 52, 53, 54, 55, 56, 57, 97, 98, 99, 100, 101, 102] } : ByteArray)[15]'(by decide))
          go_wp2_with fail
          refine wp_region_noPanic ?_
          refine wp_region_held_drew (S := (fun _ => True)) (by kernel_rfl) (trivial) (fun hHeld => ?_)
          refine wpAnyH_take (i := 0) (v := ?_) rfl (by kernel_rfl) (by kernel_rfl) (by kernel_rfl) (fun _ _ _ h => h) (Or.inl ⟨by rfl, ?_⟩) hHeld ?_
          rotate_left 1
          · (intro w hSw; (try dsimp only at hSw); go_simp; try with_reducible rfl)
          try simp only [Act.put, List.getElem_toArray, List.getElem_cons_zero, List.setIfInBounds_toArray, List.set_cons_zero, List.set_cons_succ]
          refine wpAnyH_take (i := 1) (v := ?_) rfl (by kernel_rfl) (by kernel_rfl) (by kernel_rfl) (fun _ _ _ h => h) (Or.inl ⟨by rfl, ?_⟩) hHeld ?_
          rotate_left 1
          · (intro w hSw; (try dsimp only at hSw); go_simp; try with_reducible rfl)
          try simp only [Act.put, List.getElem_toArray, List.getElem_cons_zero, List.getElem_cons_succ, List.setIfInBounds_toArray, List.set_cons_zero, List.set_cons_succ]
          refine wpAnyH_take (i := 2) (v := ?_) rfl (by kernel_rfl) (by kernel_rfl) (by kernel_rfl) (fun _ _ _ h => h) (Or.inl ⟨by rfl, ?_⟩) hHeld ?_
          rotate_left 1
          · (intro w hSw; (try dsimp only at hSw); go_simp; try with_reducible rfl)
          try simp only [Act.put, List.getElem_toArray, List.getElem_cons_zero, List.getElem_cons_succ, List.setIfInBounds_toArray, List.set_cons_zero, List.set_cons_succ]
          refine wpAnyH_take (i := 3) (v := ?_) rfl (by kernel_rfl) (by kernel_rfl) (by kernel_rfl) (fun _ _ _ h => h) (Or.inl ⟨by rfl, ?_⟩) hHeld ?_
          rotate_left 1
          · (intro w hSw; (try dsimp only at hSw); go_simp; try with_reducible rfl)
          try simp only [Act.put, List.getElem_toArray, List.getElem_cons_zero, List.getElem_cons_succ, List.setIfInBounds_toArray, List.set_cons_zero, List.set_cons_succ]
          refine wpAnyH_take (i := 4) (v := ?_) rfl (by kernel_rfl) (by kernel_rfl) (by kernel_rfl) (fun _ _ _ h => h) (Or.inl ⟨by rfl, ?_⟩) hHeld ?_
          rotate_left 1
          · (intro w hSw; (try dsimp only at hSw); go_simp; try with_reducible rfl)
          try simp only [Act.put, List.getElem_toArray, List.getElem_cons_zero, List.getElem_cons_succ, List.setIfInBounds_toArray, List.set_cons_zero, List.set_cons_succ]
          refine wpAnyH_take (i := 5) (v := ?_) rfl (by kernel_rfl) (by kernel_rfl) (by kernel_rfl) (fun _ _ _ h => h) (Or.inl ⟨by rfl, ?_⟩) hHeld ?_
          rotate_left 1
          · (intro w hSw; (try dsimp only at hSw); go_simp; try with_reducible rfl)
          try simp only [Act.put, List.getElem_toArray, List.getElem_cons_zero, List.getElem_cons_succ, List.setIfInBounds_toArray, List.set_cons_zero, List.set_cons_succ]
          refine wpAnyH_ready (rs := [6]) (by kernel_rfl) (by simp) (AllReadyH.cons rfl (fun K hK => ?_) AllReadyH.nil)
          clear hHeld
          go_simp
          refine hK.out _ _ (trivial) (fun hHeld => ?_)
          clear hK K
          try simp only [Act.put, List.getElem_toArray, List.getElem_cons_zero, List.getElem_cons_succ, List.setIfInBounds_toArray, List.set_cons_zero, List.set_cons_succ]
          refine wpAnyH_ready (rs := [7]) (by kernel_rfl) (by simp) (AllReadyH.cons rfl (fun K hK => ?_) AllReadyH.nil)
          clear hHeld
          go_simp
          refine hK.out _ _ (trivial) (fun hHeld => ?_)
          clear hK K
          try simp only [Act.put, List.getElem_toArray, List.getElem_cons_zero, List.getElem_cons_succ, List.setIfInBounds_toArray, List.set_cons_zero, List.set_cons_succ]
          refine wpAnyH_take (i := 8) (v := ?_) rfl (by kernel_rfl) (by kernel_rfl) (by kernel_rfl) (fun _ _ _ h => h) (Or.inl ⟨by rfl, ?_⟩) hHeld ?_
          rotate_left 1
          · (intro w hSw; (try dsimp only at hSw); go_simp; try with_reducible rfl)
          try simp only [Act.put, List.getElem_toArray, List.getElem_cons_zero, List.getElem_cons_succ, List.setIfInBounds_toArray, List.set_cons_zero, List.set_cons_succ]
          refine wpAnyH_done (by kernel_rfl) ?_ _
          refine NoPanic.normal ?_
          all_goals go_wp2
          all_goals go_ret
          all_goals exact ⟨rfl, by repeat (first | exact HG.out | refine G.drew ?_ | refine G.alloc ?_ _)⟩
        · have hlb : (r == 127) = false := beq_false_of_ne hl2
          by_cases hl3 : r < 128
          · have he : Value.string (strU (esc1 (UInt8.ofNat r.toNat))) = .string (Utf8.encode r) := by
              obtain ⟨n, rfl⟩ : ∃ n : Nat, r = n := ⟨r.toNat, by omega⟩
              rw [Int.toNat_natCast]
              have : ∀ n : Nat, n < 128 → 32 ≤ n → n ≠ 92 → n ≠ 39 → n ≠ 127 → strU (esc1 (UInt8.ofNat n)) = Utf8.encode (n : Int) := by decide
              rw [this n (by omega) (by omega) (by omega) (by omega) (by omega)]
            have HE : Hid _ := he
            clear he
            go_wp2
            go_ret
            refine ⟨?_, HG.out⟩
            rw [HE.out]; rfl
          · go_wp2
            go_ret
            exact ⟨rfl, HG.out⟩
end Go.Proofs.YthpflfkgbapbnaaGreatDoor
