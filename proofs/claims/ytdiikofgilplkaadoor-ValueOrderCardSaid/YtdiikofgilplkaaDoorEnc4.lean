/- value.Encode: each kind's bytes. -/
import Derived.Test.YtdiikofgilplkaaDoorEnc3
import Derived.Test.YtdiikofgilplkaaDoorCpx
import Derived.Test.YtdiikofgilplkaaDoorValidSame
import Derived.Test.YtdiikofgilplkaaDoorForms1
namespace Go.Proofs.YtdiikofgilplkaaDoor
open Go.RowKit Go.Shelf Go.PlainAid Go.Lib

theorem encW_len (n : Int) (h1 : -9223372036854775808 ≤ n) (h2 : n ≤ 9223372036854775807) : (encW n).length ≤ 9 := by
  unfold encW lowB
  have := digs_len_le 8 n.natAbs (by omega)
  simp; omega
/-- The bytes of the first m bytes of a string. -/
def strB (s : ByteArray) (m : Nat) : List Nat := encS ((List.range m).map fun k => (bt s k).toNat)
theorem strB_zero (s : ByteArray) (m : Nat) (h : bt s m = 0) : strB s (m + 1) = strB s m ++ [0, 255] := by
  unfold strB encS
  rw [List.range_succ, List.map_append, List.flatMap_append]
  simp [h]
theorem strB_other (s : ByteArray) (m : Nat) (h : bt s m ≠ 0) : strB s (m + 1) = strB s m ++ [(bt s m).toNat] := by
  unfold strB encS
  have := bt_nonneg s m
  rw [List.range_succ, List.map_append, List.flatMap_append]
  have h2 : (bt s m).toNat ≠ 0 := by omega
  simp [h2]
theorem strB_len (s : ByteArray) (m : Nat) : (strB s m).length ≤ 2 * m := by
  induction m with
  | zero => simp [strB, encS]
  | succ m ih =>
    by_cases h : bt s m = 0
    · rw [strB_zero s m h]; simp; omega
    · rw [strB_other s m h]; simp; omega
/-- The bytes of a value (P113). -/
def encV (k a b : Int) (s : ByteArray) : List Nat :=
  if k = 0 then [80]
  else if k = 1 then [48, a.toNat]
  else if k = 2 then encW a ++ [0]
  else if k = 3 then (encW a ++ [1]) ++ encW b
  else if k = 4 then (32 :: strB s s.size) ++ [0, 0]
  else if k = 5 then 16 :: encW a
  else 17 :: encW a
/-- x is an item whose bytes are ys. -/
def ICode (x : Value) (ys : List Nat) : Prop :=
  ∃ (t f : Nat) (v : Value), x = .iface t v ∧ (∀ w, (method 221 t v "trellis/value.code").run Tryd.prog w = .ok (f, v) w) ∧ (∀ w, (callFunc f #[v]).run Tryd.prog w = .ok (.enter f #[v]) w) ∧
    ∀ w, Calls Tryd.prog f #[v] w fun e w' => ∃ x', e = .returned x' ∧ Bw w w' x' (ys)
set_option maxRecDepth 100000 in
set_option maxHeartbeats 2000000 in
theorem code_null (w : World) : Calls Tryd.prog 68 #[.agg #[]] w fun e w' => ∃ x', e = .returned x' ∧ Bw w w' x' ([80]) := by
  go_enter Tryd.func68, Tryd.ntmps68
  go_wp2
  go_ret
  exact ⟨_, rfl, by simpa using Bw.fresh ((G.refl w).alloc _) [80] #[.int .u8 80] rfl (by decide)⟩
set_option maxRecDepth 100000 in
set_option maxHeartbeats 2000000 in
theorem code_true (w : World) : Calls Tryd.prog 73 #[.bool true] w fun e w' => ∃ x', e = .returned x' ∧ Bw w w' x' ([48, 1]) := by
  have hfd : ∀ w, (Instr.field 30 (V 1 1 0 E0) 1).run Tryd.prog w = .ok (.int .i64 1) w := fun w => by kernel_rfl
  go_enter Tryd.func73, Tryd.ntmps73
  go_wp2_with fail
  refine (val_tt _).mono ?_
  rintro e w1 ⟨rfl, hb1⟩
  go_wp2
  go_ret
  exact ⟨_, rfl, by simpa using Bw.fresh (hb1) [48, 1] #[.int .u8 48, .int .u8 1] rfl (by decide)⟩
set_option maxRecDepth 100000 in
set_option maxHeartbeats 2000000 in
theorem code_false (w : World) : Calls Tryd.prog 73 #[.bool false] w fun e w' => ∃ x', e = .returned x' ∧ Bw w w' x' ([48, 0]) := by
  have hfd : ∀ w, (Instr.field 30 (V 1 0 0 E0) 1).run Tryd.prog w = .ok (.int .i64 0) w := fun w => by kernel_rfl
  go_enter Tryd.func73, Tryd.ntmps73
  go_wp2_with fail
  refine (val_ff _).mono ?_
  rintro e w1 ⟨rfl, hb1⟩
  go_wp2
  go_ret
  exact ⟨_, rfl, by simpa using Bw.fresh (hb1) [48, 0] #[.int .u8 48, .int .u8 0] rfl (by decide)⟩
set_option maxRecDepth 100000 in
set_option maxHeartbeats 2000000 in
theorem code_whole (n : Int) (h1 : -9223372036854775808 ≤ n) (h2 : n ≤ 9223372036854775807) (w : World) : Calls Tryd.prog 78 #[.int .i64 n] w fun e w' => ∃ x', e = .returned x' ∧ Bw w w' x' (encW n ++ [0]) := by
  obtain ⟨i0, hi, hz0, hz1, hz2⟩ := info_parts info_u8
  have hl := encW_len n h1 h2
  have H1 : Hid _ := aw_any n h1 h2 w w (.slice none 0 0) [] (Bw.nil w w (G.refl w)) (by simp)
  clear h1 h2
  go_enter Tryd.func78, Tryd.ntmps78
  go_wp2_with fail
  refine Calls.mono H1.out ?_
  rintro e w1 ⟨x1, rfl, hB1⟩
  rw [List.nil_append] at hB1
  have hs := hB1.g.size
  have HB1 : Hid _ := hB1
  clear hB1 H1
  go_wp2_with (at_builtin; refine wpList_append_own _ rfl _ _ 23 rfl w.heap.size 5 i0 (.int .u8 0) 1 1 Tryd.underlying23 hi hz0 hz1 hz2 rfl (by decide) _ _ _ rfl (World.ownsRow.alloc HB1.out.own _) ⟨w1.heap.size, 0, none⟩ 1 1 [bv 0] rfl ?c0 ?c1 ?c2 ?c3 ?c4 ?c5 ?_)
  case c0 => rfl
  case c1 =>
    intro j u hj
    match j, hj with
    | 0, hj => simp at hj; subst hj; simp [Addr.add]
  case c2 => first | rfl | (intro u hu; simp at hu; subst hu; rfl)
  case c3 => unfold maxLen; omega
  case c4 => omega
  case c5 => simp; omega
  intro x2 w2 hown hgrow _
  have HB2 : Hid (Bw w w2 x2 (encW n ++ [0])) := (HB1.out.keep ((G.refl _).alloc _)).app [0] 1 rfl hown hgrow
  clear hown hgrow HB1
  go_wp2
  go_ret
  exact ⟨_, rfl, HB2.out⟩
set_option maxRecDepth 100000 in
set_option maxHeartbeats 2000000 in
theorem code_node (n : Int) (h1 : -9223372036854775808 ≤ n) (h2 : n ≤ 9223372036854775807) (w : World) : Calls Tryd.prog 96 #[.int .i64 n] w fun e w' => ∃ x', e = .returned x' ∧ Bw w w' x' (16 :: encW n) := by
  have hB0 : Bw w (w.alloc (.cells #[.int .u8 16] 5)) (.slice (some ⟨w.heap.size, 0, none⟩) 1 1) [16] := by simpa using Bw.fresh (G.refl w) [16] #[.int .u8 16] rfl (by decide)
  have HB : Hid _ := hB0
  have H1 : Hid _ := aw_any n h1 h2 w _ _ _ HB.out (by simp)
  clear h1 h2 HB hB0
  go_enter Tryd.func96, Tryd.ntmps96
  go_wp2_with fail
  refine Calls.mono H1.out ?_
  rintro e w1 ⟨x1, rfl, hB1⟩
  rw [List.singleton_append] at hB1
  have HB1 : Hid _ := hB1
  clear hB1 H1
  go_wp2
  go_ret
  exact ⟨_, rfl, HB1.out⟩
set_option maxRecDepth 100000 in
set_option maxHeartbeats 2000000 in
theorem code_edge (n : Int) (h1 : -9223372036854775808 ≤ n) (h2 : n ≤ 9223372036854775807) (w : World) : Calls Tryd.prog 101 #[.int .i64 n] w fun e w' => ∃ x', e = .returned x' ∧ Bw w w' x' (17 :: encW n) := by
  have hB0 : Bw w (w.alloc (.cells #[.int .u8 17] 5)) (.slice (some ⟨w.heap.size, 0, none⟩) 1 1) [17] := by simpa using Bw.fresh (G.refl w) [17] #[.int .u8 17] rfl (by decide)
  have HB : Hid _ := hB0
  have H1 : Hid _ := aw_any n h1 h2 w _ _ _ HB.out (by simp)
  clear h1 h2 HB hB0
  go_enter Tryd.func101, Tryd.ntmps101
  go_wp2_with fail
  refine Calls.mono H1.out ?_
  rintro e w1 ⟨x1, rfl, hB1⟩
  rw [List.singleton_append] at hB1
  have HB1 : Hid _ := hB1
  clear hB1 H1
  go_wp2
  go_ret
  exact ⟨_, rfl, HB1.out⟩
set_option maxRecDepth 100000 in
set_option maxHeartbeats 2000000 in
theorem code_cpx (a b : Int) (h1 : -33554432 ≤ a) (h2 : a ≤ 33554432) (h3 : -33554432 ≤ b) (h4 : b ≤ 33554432) (w : World) : Calls Tryd.prog 85 #[.complex .f64 (fl a) (fl b)] w fun e w' => ∃ x', e = .returned x' ∧ Bw w w' x' ((encW a ++ [1]) ++ encW b) := by
  obtain ⟨i0, hi, hz0, hz1, hz2⟩ := info_parts info_u8
  have f1 := Fl.ofInt a (by omega)
  have f2 := Fl.ofInt b (by omega)
  have HP : Hid _ := parts_fl (fl a) (fl b) a b f1 f2 (by omega) (by omega)
  have hl := encW_len a (by omega) (by omega)
  have H1 : Hid _ := aw_any a (by omega) (by omega) w w (.slice none 0 0) [] (Bw.nil w w (G.refl w)) (by simp)
  have H2 : Hid (∀ w1 x1 xs, Bw w w1 x1 xs → xs.length ≤ 1000 → _) := fun w1 x1 xs => aw_any b (by omega) (by omega) w w1 x1 xs
  clear f1 f2 h1 h2 h3 h4
  go_enter Tryd.func85, Tryd.ntmps85
  go_wp2_with fail
  refine (HP.out _).mono ?_
  rintro e w1 ⟨rfl, hw⟩
  rw [hw]
  clear hw
  go_wp2_with fail
  refine Calls.mono H1.out ?_
  rintro e w1 ⟨x1, rfl, hB1⟩
  rw [List.nil_append] at hB1
  have hs := hB1.g.size
  have HB1 : Hid _ := hB1
  clear hB1 H1 HP
  go_wp2_with (at_builtin; refine wpList_append_own _ rfl _ _ 23 rfl w.heap.size 5 i0 (.int .u8 0) 1 1 Tryd.underlying23 hi hz0 hz1 hz2 rfl (by decide) _ _ _ rfl (World.ownsRow.alloc HB1.out.own _) ⟨w1.heap.size, 0, none⟩ 1 1 [bv 1] rfl ?c0 ?c1 ?c2 ?c3 ?c4 ?c5 ?_)
  case c0 => rfl
  case c1 =>
    intro j u hj
    match j, hj with
    | 0, hj => simp at hj; subst hj; simp [Addr.add]
  case c2 => first | rfl | (intro u hu; simp at hu; subst hu; rfl)
  case c3 => unfold maxLen; omega
  case c4 => omega
  case c5 => simp; omega
  intro x2 w2 hown hgrow _
  have HB2 : Hid (Bw _ w2 x2 (encW a ++ [1])) := (HB1.out.keep ((G.refl _).alloc _)).app [1] 1 rfl hown hgrow
  clear hown hgrow HB1
  go_wp2_with fail
  refine (H2.out _ _ _ HB2.out (by simp; omega)).mono ?_
  rintro e w3 ⟨x3, rfl, hB3⟩
  have HB3 : Hid _ := hB3
  clear hB3 H2 HB2
  go_wp2
  go_ret
  exact ⟨_, rfl, HB3.out⟩
set_option maxRecDepth 100000 in
set_option maxHeartbeats 2000000 in
theorem code_str (s : ByteArray) (hs : s.size ≤ 32) (w : World) : Calls Tryd.prog 91 #[.string s] w fun e w' => ∃ x', e = .returned x' ∧ Bw w w' x' ((32 :: strB s s.size) ++ [0, 0]) := by
  obtain ⟨i0, hi, hz0, hz1, hz2⟩ := info_parts info_u8
  have hb := get_bt s
  have hsi : (s.size : Int) ≤ 32 := by omega
  go_enter Tryd.func91, Tryd.ntmps91
  go_wp2
  go_loopw [3, 4, 8] (fun x _ i W => ∃ m : Nat, m ≤ s.size ∧ i = .int .i64 m ∧ Bw w W x (32 :: strB s m)) (fun _ _ i _ => s.size - (RowKit.intOf i).toNat)
  case atStart => exact ⟨0, Nat.zero_le _, rfl, by have := Bw.fresh (G.refl w) [32] #[.int .u8 32] rfl (by decide); simpa [strB, encS] using this⟩
  case round =>
    obtain ⟨m, hm, rfl, hB⟩ := hrel
    have hsz := hB.g.size
    have HB : Hid _ := hB
    clear hB
    have hlen := strB_len s m
    by_cases hlt : m < s.size
    · have hI : (m : Int) < (s.size : Int) := by omega
      have x0 := bt_nonneg s m
      have x1 := bt_le s m
      by_cases hz : bt s m = 0
      · have E1 : Hid _ := strB_zero s m hz
        go_wp2_with (at_builtin; refine wpList_append_own _ rfl _ _ 23 rfl w.heap.size 5 i0 (.int .u8 0) 1 1 Tryd.underlying23 hi hz0 hz1 hz2 rfl (by decide) _ _ _ rfl (World.ownsRow.alloc HB.out.own _) ⟨wr.heap.size, 0, none⟩ 1 1 [bv 0] rfl ?c0 ?c1 ?c2 ?c3 ?c4 ?c5 ?_)
        case c0 => rfl
        case c1 =>
          intro j u hj
          match j, hj with
          | 0, hj => simp at hj; subst hj; simp [Addr.add]
        case c2 => first | rfl | (intro u hu; simp at hu; subst hu; rfl)
        case c3 => unfold maxLen; simp; omega
        case c4 => simp; omega
        case c5 => simp; omega
        intro x2 w2 hown hgrow _
        have HB2 : Hid (Bw w w2 x2 ((32 :: strB s m) ++ [0])) := (HB.out.keep ((G.refl _).alloc _)).app [0] 1 rfl (by simpa using hown) hgrow
        have hs2 := HB2.out.g.size
        clear hown hgrow HB
        go_wp2_with (at_builtin; refine wpList_append_own _ rfl _ _ 23 rfl w.heap.size 5 i0 (.int .u8 0) 1 1 Tryd.underlying23 hi hz0 hz1 hz2 rfl (by decide) _ _ _ rfl (World.ownsRow.alloc HB2.out.own _) ⟨w2.heap.size, 0, none⟩ 1 1 [bv 255] rfl ?d0 ?d1 ?d2 ?d3 ?d4 ?d5 ?_)
        case d0 => rfl
        case d1 =>
          intro j u hj
          match j, hj with
          | 0, hj => simp at hj; subst hj; simp [Addr.add]
        case d2 => first | rfl | (intro u hu; simp at hu; subst hu; rfl)
        case d3 => unfold maxLen; simp; omega
        case d4 => simp; omega
        case d5 => simp; omega
        intro x3 w3 hown hgrow _
        have HB3 : Hid (Bw w w3 x3 (((32 :: strB s m) ++ [0]) ++ [255])) := (HB2.out.keep ((G.refl _).alloc _)).app [255] 1 rfl (by simpa using hown) hgrow
        clear hown hgrow HB2
        go_wp2
        go_roundw
        case rel => exact ⟨m + 1, by omega, by go_num, by have := HB3.out; rw [E1.out]; simpa using this⟩
        case measure => simp [RowKit.intOf]; omega
      · have E1 : Hid _ := strB_other s m hz
        have hz' : (bt s m == 0) = false := beq_false_of_ne hz
        have eb : Value.int .u8 (bt s m) = bv (bt s m).toNat := by show Value.int .u8 _ = Value.int .u8 _; congr 1; omega
        have EB : Hid _ := eb
        clear eb
        go_wp2_with (at_builtin; refine wpList_append_own _ rfl _ _ 23 rfl w.heap.size 5 i0 (.int .u8 0) 1 1 Tryd.underlying23 hi hz0 hz1 hz2 rfl (by decide) _ _ _ rfl (World.ownsRow.alloc HB.out.own _) ⟨wr.heap.size, 0, none⟩ 1 1 [.int .u8 (bt s m)] rfl ?c0 ?c1 ?c2 ?c3 ?c4 ?c5 ?_)
        case c0 => rfl
        case c1 =>
          intro j u hj
          match j, hj with
          | 0, hj => simp at hj; subst hj; simp [Addr.add]
        case c2 => first | rfl | (intro u hu; simp at hu; subst hu; rfl)
        case c3 => unfold maxLen; simp; omega
        case c4 => simp; omega
        case c5 => simp; omega
        intro x2 w2 hown hgrow _
        have HB2 : Hid (Bw w w2 x2 ((32 :: strB s m) ++ [(bt s m).toNat])) := (HB.out.keep ((G.refl _).alloc _)).app [(bt s m).toNat] 1 rfl (by rw [EB.out] at hown; simpa using hown) hgrow
        clear hown hgrow HB
        go_wp2
        go_roundw
        case rel => exact ⟨m + 1, by omega, by go_num, by have := HB2.out; rw [E1.out]; simpa using this⟩
        case measure => simp [RowKit.intOf]; omega
    · have e : m = s.size := by omega
      subst e
      have hI : ¬ (s.size : Int) < (s.size : Int) := by omega
      go_wp2_with (at_builtin; refine wpList_append_own _ rfl _ _ 23 rfl w.heap.size 5 i0 (.int .u8 0) 1 1 Tryd.underlying23 hi hz0 hz1 hz2 rfl (by decide) _ _ _ rfl (World.ownsRow.alloc HB.out.own _) ⟨wr.heap.size, 0, none⟩ 2 2 [bv 0, bv 0] rfl ?c0 ?c1 ?c2 ?c3 ?c4 ?c5 ?_)
      case c1 =>
        intro j u hj
        match j, hj with
        | 0, hj => simp at hj; subst hj; simp
        | 1, hj => simp at hj; subst hj; simp
      case c2 => first | rfl | (intro u hu; simp at hu; rcases hu with rfl | rfl <;> rfl)
      case c3 => unfold maxLen; (first | omega | (simp; omega))
      case c4 => (first | omega | (simp; omega))
      case c5 => (first | omega | (simp; omega))
      intro x2 w2 hown hgrow _
      have HB2 : Hid (Bw w w2 x2 ((32 :: strB s s.size) ++ [0, 0])) := (HB.out.keep ((G.refl _).alloc _)).app [0, 0] 2 rfl (by simpa using hown) hgrow
      clear hown hgrow HB
      go_wp2
      go_ret
      exact ⟨_, rfl, by simpa using HB2.out⟩
end Go.Proofs.YtdiikofgilplkaaDoor
