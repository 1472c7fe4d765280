/- trellisref1.Encode. -/
import Derived.Test.YtficmpaeochcgaaGreatDoorEnc7
import Derived.Test.YtficmpaeochcgaaGreatDoorEnc5
namespace Go.Proofs.YtficmpaeochcgaaGreatDoor
open Go.RowKit Go.Shelf Go.PlainAid Go.Lib

set_option maxRecDepth 100000 in
set_option maxHeartbeats 2000000 in
theorem ren_no (k a b : Int) (s : ByteArray) (hs : s.size ≤ 4611686018427387904) (h : okV k a b s = false) (w : World) : Calls Tryz.prog 12 #[V k a b s] w fun e w' => e = .returned (.tuple #[.slice none 0 0, .int .i64 16]) ∧ G w w' := by
  have HV : Hid (∀ w, Calls Tryz.prog 29 #[V k a b s] w fun e w' => e = .returned (.bool (okV k a b s)) ∧ G w w') := rv_any k a b s hs
  rw [h] at HV
  clear h
  go_enter Tryz.func12, Tryz.ntmps12
  go_wp2_with fail
  refine (HV.out _).mono ?_
  rintro e w1 ⟨rfl, hb1⟩
  have hc1 : ∀ o, w1.cell? { block := w.heap.size, off := o } = [I k, I a, I b, .string s][o]? := G.cells hb1 (by simp) (by simp)
  have hz1' : w.heap.size < w1.heap.size := by have := hb1.size; simp at this; omega
  have hG1 : G w w1 := ((G.refl w).alloc _).trans hb1
  have HG : Hid _ := hG1
  clear hb1 HV hG1
  go_wp2
  go_ret2
  exact ⟨rfl, HG.out⟩
set_option maxRecDepth 100000 in
set_option maxHeartbeats 2000000 in
theorem ren_0 (a b : Int) (s : ByteArray) (hs : s.size ≤ 4611686018427387904) (h : okV 0 a b s = true) (w : World) : Calls Tryz.prog 12 #[V 0 a b s] w fun e w' => ∃ x', e = .returned (.tuple #[x', .int .i64 0]) ∧ Bw w w' x' ([80]) := by
  have HV : Hid (∀ w, Calls Tryz.prog 29 #[V 0 a b s] w fun e w' => e = .returned (.bool (okV 0 a b s)) ∧ G w w') := rv_any 0 a b s hs
  rw [h] at HV
  clear h
  go_enter Tryz.func12, Tryz.ntmps12
  go_wp2_with fail
  refine (HV.out _).mono ?_
  rintro e w1 ⟨rfl, hb1⟩
  have hc1 : ∀ o, w1.cell? { block := w.heap.size, off := o } = [I 0, I a, I b, .string s][o]? := G.cells hb1 (by simp) (by simp)
  have hz1' : w.heap.size < w1.heap.size := by have := hb1.size; simp at this; omega
  have hG1 : G w w1 := ((G.refl w).alloc _).trans hb1
  have HG : Hid _ := hG1
  clear hb1 HV hG1
  go_wp2
  go_ret2
  exact ⟨_, rfl, by simpa using Bw.fresh HG.out [80] #[.int .u8 80] rfl (by decide)⟩
set_option maxRecDepth 100000 in
set_option maxHeartbeats 2000000 in
theorem ren_1_0 (b : Int) (s : ByteArray) (hs : s.size ≤ 4611686018427387904) (h : okV 1 0 b s = true) (w : World) : Calls Tryz.prog 12 #[V 1 0 b s] w fun e w' => ∃ x', e = .returned (.tuple #[x', .int .i64 0]) ∧ Bw w w' x' ([48, 0]) := by
  have HV : Hid (∀ w, Calls Tryz.prog 29 #[V 1 0 b s] w fun e w' => e = .returned (.bool (okV 1 0 b s)) ∧ G w w') := rv_any 1 0 b s hs
  rw [h] at HV
  clear h
  go_enter Tryz.func12, Tryz.ntmps12
  go_wp2_with fail
  refine (HV.out _).mono ?_
  rintro e w1 ⟨rfl, hb1⟩
  have hc1 : ∀ o, w1.cell? { block := w.heap.size, off := o } = [I 1, I 0, I b, .string s][o]? := G.cells hb1 (by simp) (by simp)
  have hz1' : w.heap.size < w1.heap.size := by have := hb1.size; simp at this; omega
  have hG1 : G w w1 := ((G.refl w).alloc _).trans hb1
  have HG : Hid _ := hG1
  clear hb1 HV hG1
  go_wp2
  go_ret2
  exact ⟨_, rfl, by simpa using Bw.fresh HG.out [48, 0] #[.int .u8 48, .int .u8 0] rfl (by decide)⟩
set_option maxRecDepth 100000 in
set_option maxHeartbeats 2000000 in
theorem ren_1_1 (b : Int) (s : ByteArray) (hs : s.size ≤ 4611686018427387904) (h : okV 1 1 b s = true) (w : World) : Calls Tryz.prog 12 #[V 1 1 b s] w fun e w' => ∃ x', e = .returned (.tuple #[x', .int .i64 0]) ∧ Bw w w' x' ([48, 1]) := by
  have HV : Hid (∀ w, Calls Tryz.prog 29 #[V 1 1 b s] w fun e w' => e = .returned (.bool (okV 1 1 b s)) ∧ G w w') := rv_any 1 1 b s hs
  rw [h] at HV
  clear h
  go_enter Tryz.func12, Tryz.ntmps12
  go_wp2_with fail
  refine (HV.out _).mono ?_
  rintro e w1 ⟨rfl, hb1⟩
  have hc1 : ∀ o, w1.cell? { block := w.heap.size, off := o } = [I 1, I 1, I b, .string s][o]? := G.cells hb1 (by simp) (by simp)
  have hz1' : w.heap.size < w1.heap.size := by have := hb1.size; simp at this; omega
  have hG1 : G w w1 := ((G.refl w).alloc _).trans hb1
  have HG : Hid _ := hG1
  clear hb1 HV hG1
  go_wp2
  go_ret2
  exact ⟨_, rfl, by simpa using Bw.fresh HG.out [48, 1] #[.int .u8 48, .int .u8 1] rfl (by decide)⟩
set_option maxRecDepth 100000 in
set_option maxHeartbeats 2000000 in
theorem ren_2 (a b : Int) (s : ByteArray) (h1 : -9223372036854775808 ≤ a) (h2 : a ≤ 9223372036854775807) (hs : s.size ≤ 4611686018427387904) (h : okV 2 a b s = true) (w : World) : Calls Tryz.prog 12 #[V 2 a b s] w fun e w' => ∃ x', e = .returned (.tuple #[x', .int .i64 0]) ∧ Bw w w' x' (encW a ++ [0]) := by
  obtain ⟨i0, hi, hz0, hz1, hz2⟩ := info_parts info_u8
  have hl := encW_len a h1 h2
  have HA : Hid _ := rby_any a h1 h2
  clear h1 h2
  have HV : Hid (∀ w, Calls Tryz.prog 29 #[V 2 a b s] w fun e w' => e = .returned (.bool (okV 2 a b s)) ∧ G w w') := rv_any 2 a b s hs
  rw [h] at HV
  clear h
  go_enter Tryz.func12, Tryz.ntmps12
  go_wp2_with fail
  refine (HV.out _).mono ?_
  rintro e w1 ⟨rfl, hb1⟩
  have hc1 : ∀ o, w1.cell? { block := w.heap.size, off := o } = [I 2, I a, I b, .string s][o]? := G.cells hb1 (by simp) (by simp)
  have hz1' : w.heap.size < w1.heap.size := by have := hb1.size; simp at this; omega
  have hG1 : G w w1 := ((G.refl w).alloc _).trans hb1
  have HG : Hid _ := hG1
  clear hb1 HV hG1
  go_wp2_with fail
  refine (HA.out _).mono ?_
  rintro e w2 ⟨x2, rfl, hB⟩
  have HB : Hid (Bw w w2 x2 (encW a)) := hB.down HG.out
  have hs2 := HB.out.g.size
  clear hB
  go_wp2_with (at_builtin; refine wpList_append_own _ rfl _ _ 33 rfl w.heap.size 5 i0 (.int .u8 0) 1 1 Tryz.underlying33 hi hz0 hz1 hz2 rfl (by decide) _ _ _ rfl (World.ownsRow.alloc HB.out.own _) ⟨w2.heap.size, 0, none⟩ 1 1 [bv 0] rfl ?c0 ?c1 ?c2 ?c3 ?c4 ?c5 ?_)
  case c0 => rfl
  case c1 =>
    intro j u hj
    match j, hj with
    | 0, hj => simp at hj; subst hj; simp [Addr.add]
  case c2 => first | rfl | (intro u hu; simp at hu; subst hu; rfl)
  case c3 => unfold maxLen; (first | omega | (simp; omega))
  case c4 => (first | omega | (simp; omega))
  case c5 => (first | omega | (simp; omega))
  intro x3 w3 hown hgrow _
  have HB3 : Hid (Bw w w3 x3 (encW a ++ [0])) := (HB.out.keep ((G.refl _).alloc _)).app [0] 1 rfl hown hgrow
  clear hown hgrow HB
  go_wp2
  go_ret2
  exact ⟨_, rfl, HB3.out⟩
set_option maxRecDepth 100000 in
set_option maxHeartbeats 2000000 in
theorem ren_5 (a b : Int) (s : ByteArray) (h1 : -9223372036854775808 ≤ a) (h2 : a ≤ 9223372036854775807) (hs : s.size ≤ 4611686018427387904) (h : okV 5 a b s = true) (w : World) : Calls Tryz.prog 12 #[V 5 a b s] w fun e w' => ∃ x', e = .returned (.tuple #[x', .int .i64 0]) ∧ Bw w w' x' (16 :: encW a) := by
  have hl := encW_len a h1 h2
  have HA : Hid _ := rby_any a h1 h2
  clear h1 h2
  have HV : Hid (∀ w, Calls Tryz.prog 29 #[V 5 a b s] w fun e w' => e = .returned (.bool (okV 5 a b s)) ∧ G w w') := rv_any 5 a b s hs
  rw [h] at HV
  clear h
  go_enter Tryz.func12, Tryz.ntmps12
  go_wp2_with fail
  refine (HV.out _).mono ?_
  rintro e w1 ⟨rfl, hb1⟩
  have hc1 : ∀ o, w1.cell? { block := w.heap.size, off := o } = [I 5, I a, I b, .string s][o]? := G.cells hb1 (by simp) (by simp)
  have hz1' : w.heap.size < w1.heap.size := by have := hb1.size; simp at this; omega
  have hG1 : G w w1 := ((G.refl w).alloc _).trans hb1
  have HG : Hid _ := hG1
  clear hb1 HV hG1
  have hL : RowB (w1.alloc (.cells #[.int .u8 16] 5)) (.slice (some ⟨w1.heap.size, 0, none⟩) 1 1) [16] := by
    have := (Bw.fresh (G.refl w1) [16] #[.int .u8 16] rfl (by decide)).row
    simpa using this
  have HL : Hid (RowB (w1.alloc (.cells #[.int .u8 16] 5)) (.slice (some ⟨w1.heap.size, 0, none⟩) 1 1) [16]) := hL
  clear hL
  go_wp2_with fail
  refine (HA.out _).mono ?_
  rintro e w2 ⟨x2, rfl, hB⟩
  have HJ : Hid _ := joined_any _ _ [16] (encW a) w2 (RowB.G HL.out hB.g) hB.row (by simp) (by omega)
  have HG2 : Hid (G w w2) := G.trans (G.alloc HG.out _) hB.g
  clear hB HL
  go_wp2_with fail
  refine Calls.mono HJ.out ?_
  rintro e w3 ⟨x3, rfl, hB⟩
  have HB3 : Hid (Bw w w3 x3 (16 :: encW a)) := hB.down HG2.out
  clear hB HJ
  go_wp2
  go_ret2
  exact ⟨_, rfl, HB3.out⟩
set_option maxRecDepth 100000 in
set_option maxHeartbeats 2000000 in
theorem ren_6 (a b : Int) (s : ByteArray) (h1 : -9223372036854775808 ≤ a) (h2 : a ≤ 9223372036854775807) (hs : s.size ≤ 4611686018427387904) (h : okV 6 a b s = true) (w : World) : Calls Tryz.prog 12 #[V 6 a b s] w fun e w' => ∃ x', e = .returned (.tuple #[x', .int .i64 0]) ∧ Bw w w' x' (17 :: encW a) := by
  have hl := encW_len a h1 h2
  have HA : Hid _ := rby_any a h1 h2
  clear h1 h2
  have HV : Hid (∀ w, Calls Tryz.prog 29 #[V 6 a b s] w fun e w' => e = .returned (.bool (okV 6 a b s)) ∧ G w w') := rv_any 6 a b s hs
  rw [h] at HV
  clear h
  go_enter Tryz.func12, Tryz.ntmps12
  go_wp2_with fail
  refine (HV.out _).mono ?_
  rintro e w1 ⟨rfl, hb1⟩
  have hc1 : ∀ o, w1.cell? { block := w.heap.size, off := o } = [I 6, I a, I b, .string s][o]? := G.cells hb1 (by simp) (by simp)
  have hz1' : w.heap.size < w1.heap.size := by have := hb1.size; simp at this; omega
  have hG1 : G w w1 := ((G.refl w).alloc _).trans hb1
  have HG : Hid _ := hG1
  clear hb1 HV hG1
  have hL : RowB (w1.alloc (.cells #[.int .u8 17] 5)) (.slice (some ⟨w1.heap.size, 0, none⟩) 1 1) [17] := by
    have := (Bw.fresh (G.refl w1) [17] #[.int .u8 17] rfl (by decide)).row
    simpa using this
  have HL : Hid (RowB (w1.alloc (.cells #[.int .u8 17] 5)) (.slice (some ⟨w1.heap.size, 0, none⟩) 1 1) [17]) := hL
  clear hL
  go_wp2_with fail
  refine (HA.out _).mono ?_
  rintro e w2 ⟨x2, rfl, hB⟩
  have HJ : Hid _ := joined_any _ _ [17] (encW a) w2 (RowB.G HL.out hB.g) hB.row (by simp) (by omega)
  have HG2 : Hid (G w w2) := G.trans (G.alloc HG.out _) hB.g
  clear hB HL
  go_wp2_with fail
  refine Calls.mono HJ.out ?_
  rintro e w3 ⟨x3, rfl, hB⟩
  have HB3 : Hid (Bw w w3 x3 (17 :: encW a)) := hB.down HG2.out
  clear hB HJ
  go_wp2
  go_ret2
  exact ⟨_, rfl, HB3.out⟩
set_option maxRecDepth 100000 in
set_option maxHeartbeats 2000000 in
theorem ren_4 (a b : Int) (s : ByteArray) (hs : s.size ≤ 4611686018427387904) (h : okV 4 a b s = true) (w : World) : Calls Tryz.prog 12 #[V 4 a b s] w fun e w' => ∃ x', e = .returned (.tuple #[x', .int .i64 0]) ∧ Bw w w' x' ((32 :: strB s s.size) ++ [0, 0]) := by
  obtain ⟨i0, hi, hz0, hz1, hz2⟩ := info_parts info_u8
  have hb := get_bt s
  have hs32 : s.size ≤ 32 := by simp [okV, Bool.and_eq_true] at h; exact h.1.2
  have hsi : (s.size : Int) ≤ 32 := by omega
  have HV : Hid (∀ w, Calls Tryz.prog 29 #[V 4 a b s] w fun e w' => e = .returned (.bool (okV 4 a b s)) ∧ G w w') := rv_any 4 a b s hs
  rw [h] at HV
  clear h
  go_enter Tryz.func12, Tryz.ntmps12
  go_wp2_with fail
  refine (HV.out _).mono ?_
  rintro e w1 ⟨rfl, hb1⟩
  have hc1 : ∀ o, w1.cell? { block := w.heap.size, off := o } = [I 4, I a, I b, .string s][o]? := G.cells hb1 (by simp) (by simp)
  have hz1' : w.heap.size < w1.heap.size := by have := hb1.size; simp at this; omega
  have hG1 : G w w1 := ((G.refl w).alloc _).trans hb1
  have HG : Hid _ := hG1
  clear hb1 HV hG1
  go_wp2
  go_loopw [4, 5] (fun x i W => ∃ m : Nat, m ≤ s.size ∧ i = .int .i64 m ∧ Bw w1 W x (32 :: strB s m)) (fun _ i _ => s.size - (RowKit.intOf i).toNat)
  case atStart => exact ⟨0, Nat.zero_le _, rfl, by have := Bw.fresh (G.refl w1) [32] #[.int .u8 32] rfl (by decide); simpa [strB, encS] using this⟩
  case round =>
    obtain ⟨m, hm, rfl, hB⟩ := hrel
    have hsz := hB.g.size
    have hcr : ∀ o, wr.cell? { block := w.heap.size, off := o } = [I 4, I a, I b, .string s][o]? := G.cells hB.g hc1 hz1'
    have HB : Hid _ := hB
    clear hB
    have hlen := strB_len s m
    by_cases hlt : m < s.size
    · have hI : (m : Int) < (s.size : Int) := by omega
      have x0 := bt_nonneg s m
      have x1 := bt_le s m
      by_cases hz : bt s m = 0
      · have E1 : Hid _ := strB_zero s m hz
        go_wp2_with (at_builtin; refine wpList_append_own _ rfl _ _ 33 rfl w1.heap.size 5 i0 (.int .u8 0) 1 1 Tryz.underlying33 hi hz0 hz1 hz2 rfl (by decide) _ _ _ rfl (World.ownsRow.alloc HB.out.own _) ⟨wr.heap.size, 0, none⟩ 1 1 [bv 0] rfl ?c0 ?c1 ?c2 ?c3 ?c4 ?c5 ?_)
        case c0 => rfl
        case c1 =>
          intro j u hj
          match j, hj with
          | 0, hj => simp at hj; subst hj; simp [Addr.add]
        case c2 => first | rfl | (intro u hu; simp at hu; subst hu; rfl)
        case c3 => unfold maxLen; (first | omega | (simp; omega))
        case c4 => (first | omega | (simp; omega))
        case c5 => (first | omega | (simp; omega))
        intro x2 w2 hown hgrow _
        have HB2 : Hid (Bw w1 w2 x2 ((32 :: strB s m) ++ [0])) := (HB.out.keep ((G.refl _).alloc _)).app [0] 1 rfl (by simpa using hown) hgrow
        have hs2 := HB2.out.g.size
        have hcr2 : ∀ o, w2.cell? { block := w.heap.size, off := o } = [I 4, I a, I b, .string s][o]? := G.cells HB2.out.g hc1 hz1'
        clear hown hgrow HB
        go_wp2_with (at_builtin; refine wpList_append_own _ rfl _ _ 33 rfl w1.heap.size 5 i0 (.int .u8 0) 1 1 Tryz.underlying33 hi hz0 hz1 hz2 rfl (by decide) _ _ _ rfl (World.ownsRow.alloc HB2.out.own _) ⟨w2.heap.size, 0, none⟩ 1 1 [bv 255] rfl ?d0 ?d1 ?d2 ?d3 ?d4 ?d5 ?_)
        case d0 => rfl
        case d1 =>
          intro j u hj
          match j, hj with
          | 0, hj => simp at hj; subst hj; simp [Addr.add]
        case d2 => first | rfl | (intro u hu; simp at hu; subst hu; rfl)
        case d3 => unfold maxLen; (first | omega | (simp; omega))
        case d4 => (first | omega | (simp; omega))
        case d5 => (first | omega | (simp; omega))
        intro x3 w3 hown hgrow _
        have HB3 : Hid (Bw w1 w3 x3 (((32 :: strB s m) ++ [0]) ++ [255])) := (HB2.out.keep ((G.refl _).alloc _)).app [255] 1 rfl (by simpa using hown) hgrow
        clear hown hgrow HB2
        go_wp2
        go_roundw
        case rel => exact ⟨m + 1, by omega, by go_num, by have := HB3.out; rw [E1.out]; simpa using this⟩
        case measure => simp [RowKit.intOf]; omega
      · have E1 : Hid _ := strB_other s m hz
        have hz' : (bt s m == 0) = false := beq_false_of_ne hz
        have eb : Value.int .u8 (bt s m) = bv (bt s m).toNat := by show Value.int .u8 _ = Value.int .u8 _; congr 1; omega
        have EB : Hid _ := eb
        clear eb
        go_wp2_with (at_builtin; refine wpList_append_own _ rfl _ _ 33 rfl w1.heap.size 5 i0 (.int .u8 0) 1 1 Tryz.underlying33 hi hz0 hz1 hz2 rfl (by decide) _ _ _ rfl (World.ownsRow.alloc HB.out.own _) ⟨wr.heap.size, 0, none⟩ 1 1 [.int .u8 (bt s m)] rfl ?c0 ?c1 ?c2 ?c3 ?c4 ?c5 ?_)
        case c0 => rfl
        case c1 =>
          intro j u hj
          match j, hj with
          | 0, hj => simp at hj; subst hj; simp [Addr.add]
        case c2 => first | rfl | (intro u hu; simp at hu; subst hu; rfl)
        case c3 => unfold maxLen; (first | omega | (simp; omega))
        case c4 => (first | omega | (simp; omega))
        case c5 => (first | omega | (simp; omega))
        intro x2 w2 hown hgrow _
        have HB2 : Hid (Bw w1 w2 x2 ((32 :: strB s m) ++ [(bt s m).toNat])) := (HB.out.keep ((G.refl _).alloc _)).app [(bt s m).toNat] 1 rfl (by rw [EB.out] at hown; simpa using hown) hgrow
        have hcr2 : ∀ o, w2.cell? { block := w.heap.size, off := o } = [I 4, I a, I b, .string s][o]? := G.cells HB2.out.g hc1 hz1'
        clear hown hgrow HB
        go_wp2
        go_roundw
        case rel => exact ⟨m + 1, by omega, by go_num, by have := HB2.out; rw [E1.out]; simpa using this⟩
        case measure => simp [RowKit.intOf]; omega
    · have e : m = s.size := by omega
      subst e
      have hI : ¬ (s.size : Int) < (s.size : Int) := by omega
      go_wp2_with (at_builtin; refine wpList_append_own _ rfl _ _ 33 rfl w1.heap.size 5 i0 (.int .u8 0) 1 1 Tryz.underlying33 hi hz0 hz1 hz2 rfl (by decide) _ _ _ rfl (World.ownsRow.alloc HB.out.own _) ⟨wr.heap.size, 0, none⟩ 2 2 [bv 0, bv 0] rfl ?c0 ?c1 ?c2 ?c3 ?c4 ?c5 ?_)
      case c1 =>
        intro j u hj
        match j, hj with
        | 0, hj => simp at hj; subst hj; simp
        | 1, hj => simp at hj; subst hj; simp
      case c2 => first | rfl | (intro u hu; simp at hu; rcases hu with rfl | rfl <;> rfl)
      case c3 => unfold maxLen; (first | omega | (simp; omega))
      case c4 => (first | omega | (simp; omega))
      case c5 => (first | omega | (simp; omega))
      intro x2 w2 hown hgrow _
      have HB2 : Hid (Bw w1 w2 x2 ((32 :: strB s s.size) ++ [0, 0])) := (HB.out.keep ((G.refl _).alloc _)).app [0, 0] 2 rfl (by simpa using hown) hgrow
      clear hown hgrow HB
      go_wp2
      go_ret2
      exact ⟨_, rfl, by simpa using HB2.out.down HG.out⟩
end Go.Proofs.YtficmpaeochcgaaGreatDoor
