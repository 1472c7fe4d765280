/- ValueKeys: the walk, where the names stand so: l. -/
import Derived.Test.YtdiikofgilplkaaDoorKeys2
namespace Go.Proofs.YtdiikofgilplkaaDoor
open Go.RowKit

set_option maxRecDepth 100000 in
set_option maxHeartbeats 16000000 in
theorem keys_ll (l m : ByteArray) (k a b k' a' b' : Int) (s s' : ByteArray) (p q : Nat) (F1 F2 F3 : Nat → Nat) (pl pm z : Int)
    (HN1 : Hid (∀ w, Calls Tryd.prog 10 #[.string l] w fun e w' => e = .returned (.bool true) ∧ w' = w)) (HN2 : Hid (∀ w, Calls Tryd.prog 10 #[.string m] w fun e w' => e = .returned (.bool true) ∧ w' = w))
    (HS1 : Hid (∀ w, Calls Tryd.prog 11 #[V k a b s] w fun e w' => e = .returned (.bool true) ∧ G w w')) (HS2 : Hid (∀ w, Calls Tryd.prog 11 #[V k' a' b' s'] w fun e w' => e = .returned (.bool true) ∧ G w w'))
    (HK1 : Hid (∀ w, Tabs w → Calls Tryd.prog 12 #[.string l, .string m, V k a b s, .int .i64 p] w fun e w' => e = .returned (.tuple #[.agg (cellsOf F1).toArray, .int .i64 0]) ∧ G w w'))
    (HK2 : Hid (∀ w, Tabs w → Calls Tryd.prog 12 #[.string l, .string m, V k' a' b' s', .int .i64 q] w fun e w' => e = .returned (.tuple #[.agg (cellsOf F2).toArray, .int .i64 0]) ∧ G w w'))
    (HK3 : Hid (∀ w, Tabs w → Calls Tryd.prog 12 #[.string m, .string l, V k' a' b' s', .int .i64 q] w fun e w' => e = .returned (.tuple #[.agg (cellsOf F3).toArray, .int .i64 0]) ∧ G w w'))
    (HP1 : Hid (∀ w, Calls Tryd.prog 13 #[.string l] w fun e w' => e = .returned (.tuple #[.int .i64 pl, .int .i64 0]) ∧ w' = w)) (HP2 : Hid (∀ w, Calls Tryd.prog 13 #[.string m] w fun e w' => e = .returned (.tuple #[.int .i64 pm, .int .i64 0]) ∧ w' = w))
    (HU : Hid (∀ w, Calls Tryd.prog 14 #[.int .i64 pl] w fun e w' => e = .returned (.tuple #[.string l, .int .i64 0]) ∧ G w w'))
    (HC : Hid (∀ w, Tabs w → Rks w → Calls Tryd.prog 7 #[V k a b s, V k' a' b' s'] w fun e w' => e = .returned (.int .i64 z) ∧ G w w'))
    (B1 : Hid (∀ j, j < 24 → F1 j < 256)) (B2 : Hid (∀ j, j < 24 → F2 j < 256)) (B3 : Hid (∀ j, j < 24 → F3 j < 256)) (hl8 : l.size ≤ 8) (hm8 : m.size ≤ 8)
    (D : Hid (lx (nats l) (nats m) = -1 ∧ pl < pm ∧ lx (sub F1 0 24) (sub F3 0 24) = -1))
    (E : Hid (lx (sub F1 0 12) (sub F2 0 12) = 0))
    (ZZ : Hid (z = -1 ∧ lx (sub F1 12 8) (sub F2 12 8) ≠ 1))
    (II : Hid (((p : Int) < q ∧ lx (sub F1 20 4) (sub F2 20 4) = -1) ∨ ((q : Int) < p ∧ lx (sub F1 20 4) (sub F2 20 4) = 1) ∨ ((p : Int) = q ∧ lx (sub F1 20 4) (sub F2 20 4) = 0)))
    (p1 : 1 ≤ p) (p2 : p ≤ 4294967295) (q1 : 1 ≤ q) (q2 : q ≤ 4294967295) (w : World) (hT : Tabs w) (hR : Rks w) :
    Calls Tryd.prog 4 #[.string l, .string m, V k a b s, V k' a' b' s', .int .i64 p, .int .i64 q] w fun e w' => e = .returned (.bool true) ∧ G w w' := by
  have HT : Hid _ := hT
  have HR : Hid _ := hR
  have HL1 : Hid ((cellsOf F1).toArray.size = 24) := by simp [Hid, cellsOf]
  have HL2 : Hid ((cellsOf F2).toArray.size = 24) := by simp [Hid, cellsOf]
  have HL3 : Hid ((cellsOf F3).toArray.size = 24) := by simp [Hid, cellsOf]
  have hks := KS.start w k a b k' a' b' s s'
  clear hT hR
  go_enter Tryd.func4, Tryd.ntmps4
  go_wp2_with fail
  generalize (w.alloc (.cells #[I k, I a, I b, .string s] 30)).alloc (.cells #[I k', I a', I b', .string s'] 30) = w0 at hks ⊢
  refine (HN1.out _).mono ?_
  rintro e w1 ⟨rfl, hw⟩
  rw [hw]
  clear hw w1
  go_wp2_with fail
  refine (HN2.out _).mono ?_
  rintro e w1 ⟨rfl, hw⟩
  rw [hw]
  clear hw w1
  have hx1 := hks.c1
  have hx2 := hks.c2
  go_wp2_with fail
  refine (HS1.out _).mono ?_
  rintro e w1 ⟨rfl, hb⟩
  clear hx1 hx2
  replace hks := hks.keep hb
  clear hb
  have hx1 := hks.c1
  have hx2 := hks.c2
  go_wp2_with fail
  refine (HS2.out _).mono ?_
  rintro e w2 ⟨rfl, hb⟩
  clear hx1 hx2
  replace hks := hks.keep hb
  clear hb
  have hx1 := hks.c1
  have hx2 := hks.c2
  go_wp2_with fail
  refine (HK1.out _ (Tabs.G HT.out hks.g)).mono ?_
  rintro e w3 ⟨rfl, hb⟩
  clear hx1 hx2
  replace hks := hks.keep hb
  clear hb
  go_wp2_with (refine wpList_store_mid rfl 37 _ _ rfl w3.heap.size 0 (cellsOf F1).toArray rfl rfl (by rw [HL1.out]; exact (laid_at w3 37 F1).1) (by rw [HL1.out]; kernel_rfl) (cellsOf_one F1) ?_; have hl := (laid_at w3 37 F1).2; generalize (w3.alloc (.cells #[.int .u8 0, .int .u8 0, .int .u8 0, .int .u8 0, .int .u8 0, .int .u8 0, .int .u8 0, .int .u8 0, .int .u8 0, .int .u8 0, .int .u8 0, .int .u8 0, .int .u8 0, .int .u8 0, .int .u8 0, .int .u8 0, .int .u8 0, .int .u8 0, .int .u8 0, .int .u8 0, .int .u8 0, .int .u8 0, .int .u8 0, .int .u8 0] 37)).setCells w3.heap.size 0 (cellsOf F1).toArray.toList = w4 at hl ⊢; have hx1 := (hks.keep hl.1).c1; have hx2 := (hks.keep hl.1).c2)
  clear hx1 hx2
  replace hks := hks.keep hl.1
  have HA : Hid _ := hl.2
  clear hl
  refine (HK2.out _ (Tabs.G HT.out hks.g)).mono ?_
  rintro e w5 ⟨rfl, hb⟩
  replace hks := hks.keep hb
  replace HA : Hid (w5.rangeAt w3.heap.size 0 (cellsOf F1) ∧ w3.heap.size < w5.heap.size) := ⟨rangeAt_G HA.out.1 hb, Nat.lt_of_lt_of_le HA.out.2 hb.size⟩
  clear hb
  generalize w3.heap.size = g1 at HA ⊢
  go_wp2_with (refine wpList_store_mid rfl 37 _ _ rfl w5.heap.size 0 (cellsOf F2).toArray rfl rfl (by rw [HL2.out]; exact (laid_at w5 37 F2).1) (by rw [HL2.out]; kernel_rfl) (cellsOf_one F2) ?_; have hl := (laid_at w5 37 F2).2; generalize (w5.alloc (.cells #[.int .u8 0, .int .u8 0, .int .u8 0, .int .u8 0, .int .u8 0, .int .u8 0, .int .u8 0, .int .u8 0, .int .u8 0, .int .u8 0, .int .u8 0, .int .u8 0, .int .u8 0, .int .u8 0, .int .u8 0, .int .u8 0, .int .u8 0, .int .u8 0, .int .u8 0, .int .u8 0, .int .u8 0, .int .u8 0, .int .u8 0, .int .u8 0] 37)).setCells w5.heap.size 0 (cellsOf F2).toArray.toList = w6 at hl ⊢; have hx1 := (hks.keep hl.1).c1; have hx2 := (hks.keep hl.1).c2)
  clear hx1 hx2
  replace hks := hks.keep hl.1
  replace HA : Hid (w6.rangeAt g1 0 (cellsOf F1) ∧ g1 < w6.heap.size) := ⟨rangeAt_G HA.out.1 hl.1, Nat.lt_of_lt_of_le HA.out.2 hl.1.size⟩
  have HB : Hid _ := hl.2
  clear hl
  refine (HK3.out _ (Tabs.G HT.out hks.g)).mono ?_
  rintro e w7 ⟨rfl, hb⟩
  replace hks := hks.keep hb
  replace HA : Hid (w7.rangeAt g1 0 (cellsOf F1) ∧ g1 < w7.heap.size) := ⟨rangeAt_G HA.out.1 hb, Nat.lt_of_lt_of_le HA.out.2 hb.size⟩
  replace HB : Hid (w7.rangeAt w5.heap.size 0 (cellsOf F2) ∧ w5.heap.size < w7.heap.size) := ⟨rangeAt_G HB.out.1 hb, Nat.lt_of_lt_of_le HB.out.2 hb.size⟩
  clear hb
  generalize w5.heap.size = g2 at HB ⊢
  go_wp2_with (refine wpList_store_mid rfl 37 _ _ rfl w7.heap.size 0 (cellsOf F3).toArray rfl rfl (by rw [HL3.out]; exact (laid_at w7 37 F3).1) (by rw [HL3.out]; kernel_rfl) (cellsOf_one F3) ?_; have hl := (laid_at w7 37 F3).2; generalize (w7.alloc (.cells #[.int .u8 0, .int .u8 0, .int .u8 0, .int .u8 0, .int .u8 0, .int .u8 0, .int .u8 0, .int .u8 0, .int .u8 0, .int .u8 0, .int .u8 0, .int .u8 0, .int .u8 0, .int .u8 0, .int .u8 0, .int .u8 0, .int .u8 0, .int .u8 0, .int .u8 0, .int .u8 0, .int .u8 0, .int .u8 0, .int .u8 0, .int .u8 0] 37)).setCells w7.heap.size 0 (cellsOf F3).toArray.toList = w8 at hl ⊢; have hx1 := (hks.keep hl.1).c1; have hx2 := (hks.keep hl.1).c2)
  clear hx1 hx2
  replace hks := hks.keep hl.1
  replace HA : Hid (w8.rangeAt g1 0 (cellsOf F1) ∧ g1 < w8.heap.size) := ⟨rangeAt_G HA.out.1 hl.1, Nat.lt_of_lt_of_le HA.out.2 hl.1.size⟩
  replace HB : Hid (w8.rangeAt g2 0 (cellsOf F2) ∧ g2 < w8.heap.size) := ⟨rangeAt_G HB.out.1 hl.1, Nat.lt_of_lt_of_le HB.out.2 hl.1.size⟩
  have HG3 : Hid _ := hl.2
  clear hl
  generalize w7.heap.size = g3 at HG3 ⊢
  refine (HP1.out _).mono ?_
  rintro e w9 ⟨rfl, hw⟩
  rw [hw]
  clear hw w9
  go_wp2_with fail
  refine (HP2.out _).mono ?_
  rintro e w9 ⟨rfl, hw⟩
  rw [hw]
  clear hw w9
  have hcv1 := conv_run l
  have hcv2 := conv_run m
  go_wp2_with fail
  refine (lex_any _ _ (nats l) (nats m) _ (RowB.G (conv_row l w8) (conv_G m _)) (conv_row m _) (by rw [nats_len]; omega) (by rw [nats_len]; omega) (nats_lt l) (nats_lt m)).mono ?_
  rintro e w9 ⟨rfl, hb⟩
  replace hb := G.trans (G.trans (conv_G l w8) (conv_G m _)) hb
  replace hks := hks.keep hb
  replace HA : Hid (w9.rangeAt g1 0 (cellsOf F1)) := rangeAt_G HA.out.1 hb
  replace HB : Hid (w9.rangeAt g2 0 (cellsOf F2)) := rangeAt_G HB.out.1 hb
  replace HG3 : Hid (w9.rangeAt g3 0 (cellsOf F3)) := rangeAt_G HG3.out.1 hb
  clear hb hcv1 hcv2
  generalize hd : lx (nats l) (nats m) = d at D ⊢
  clear hd
  clear HN1 HN2 HS1 HS2 HK1 HK2 HK3 HP1 HP2 HL1 HL2 HL3 p1 p2 q1 q2 hl8 hm8
  have hx1 := hks.c1
  have hx2 := hks.c2
  have X24 : Hid (∀ W, G w9 W → Calls Tryd.prog 8 #[.slice (some ⟨g1, 0, none⟩) 24 24, .slice (some ⟨g3, 0, none⟩) 24 24] W fun e w' => e = .returned (.int .i64 (lx (sub F1 0 24) (sub F3 0 24))) ∧ G W w') := fun W g => lex_any _ _ _ _ W (RowB.G (sub_row HA.out 0 24 24 (by omega) (by omega)) g) (RowB.G (sub_row HG3.out 0 24 24 (by omega) (by omega)) g) (by rw [sub_len]; omega) (by rw [sub_len]; omega) (sub_lt B1.out 0 24 (by omega)) (sub_lt B3.out 0 24 (by omega))
  have X12 : Hid (∀ W, G w9 W → Calls Tryd.prog 8 #[.slice (some ⟨g1, 0, none⟩) 12 24, .slice (some ⟨g2, 0, none⟩) 12 24] W fun e w' => e = .returned (.int .i64 (lx (sub F1 0 12) (sub F2 0 12))) ∧ G W w') := fun W g => lex_any _ _ _ _ W (RowB.G (sub_row HA.out 0 12 24 (by omega) (by omega)) g) (RowB.G (sub_row HB.out 0 12 24 (by omega) (by omega)) g) (by rw [sub_len]; omega) (by rw [sub_len]; omega) (sub_lt B1.out 0 12 (by omega)) (sub_lt B2.out 0 12 (by omega))
  have X8 : Hid (∀ W, G w9 W → Calls Tryd.prog 8 #[.slice (some ⟨g1, 12, none⟩) 8 12, .slice (some ⟨g2, 12, none⟩) 8 12] W fun e w' => e = .returned (.int .i64 (lx (sub F1 12 8) (sub F2 12 8))) ∧ G W w') := fun W g => lex_any _ _ _ _ W (RowB.G (sub_row HA.out 12 8 12 (by omega) (by omega)) g) (RowB.G (sub_row HB.out 12 8 12 (by omega) (by omega)) g) (by rw [sub_len]; omega) (by rw [sub_len]; omega) (sub_lt B1.out 12 8 (by omega)) (sub_lt B2.out 12 8 (by omega))
  have X4 : Hid (∀ W, G w9 W → Calls Tryd.prog 8 #[.slice (some ⟨g1, 20, none⟩) 4 4, .slice (some ⟨g2, 20, none⟩) 4 4] W fun e w' => e = .returned (.int .i64 (lx (sub F1 20 4) (sub F2 20 4))) ∧ G W w') := fun W g => lex_any _ _ _ _ W (RowB.G (sub_row HA.out 20 4 4 (by omega) (by omega)) g) (RowB.G (sub_row HB.out 20 4 4 (by omega) (by omega)) g) (by rw [sub_len]; omega) (by rw [sub_len]; omega) (sub_lt B1.out 20 4 (by omega)) (sub_lt B2.out 20 4 (by omega))
  clear HA HB HG3 B1 B2 B3
  have hg0 : G w9 w9 := G.refl _
  have HW9 : Hid (G w w9) := hks.g
  generalize lx (sub F1 0 24) (sub F3 0 24) = d24 at X24 D
  generalize lx (sub F1 0 12) (sub F2 0 12) = d12 at X12 E
  generalize lx (sub F1 12 8) (sub F2 12 8) = d8 at X8 ZZ
  generalize lx (sub F1 20 4) (sub F2 20 4) = d4 at X4 II
  clear hx1 hx2
  go_wp2_with fail
  go_cut [148] from 27 (fun u W => u = .bool false ∧ G w9 W)
  case first =>
    have hE : d12 = 0 := E.out
    obtain ⟨hd, hlt, hll⟩ := D.out
    subst hd hll hE
    have hne : (pl == pm) = false := beq_false_of_ne (by omega)
    clear D E ZZ II X8 X4 HU HC HT HR
    go_region_held3 (fun _ => True) (trivial) (first | (go_at_call 8; with_reducible refine (X24.out _ ?_).mono ?_; (exact (by repeat (first | exact hg0 | refine G.drew ?_))); rintro e w10 ⟨rfl, hb⟩) | (go_at_call 8; with_reducible refine (X12.out _ ?_).mono ?_; (exact (by repeat (first | exact hg0 | exact G.trans (G.drew hg0) hb | refine G.drew ?_))); rintro e w11 ⟨rfl, hb2⟩) | fail)
    go_wp2_with fail
    go_meet
    case rel => exact ⟨rfl, G.trans (G.trans (G.drew hg0) hb) hb2⟩
  case rest =>
    obtain ⟨rfl, hg⟩ := hcut
    clear X24 X12 D E
    replace hks := hks.keep hg
    have HW : Hid (G w9 wc) := hg
    clear hg hg0
    go_wp2_with fail
    refine (HU.out _).mono ?_
    rintro e w12 ⟨rfl, hb⟩
    replace hks := hks.keep hb
    replace HW : Hid (G w9 w12) := HW.out.trans hb
    clear hb
    have hx1 := hks.c1
    have hx2 := hks.c2
    have hll : (l.toList == l.toList) = true := by simp
    go_wp2_with fail
    refine (HC.out _ (Tabs.G HT.out hks.g) (Rks.G HR.out hks.g)).mono ?_
    rintro e w13 ⟨rfl, hb⟩
    clear hx1 hx2
    replace hks := hks.keep hb
    replace HW : Hid (G w9 w13) := HW.out.trans hb
    clear hb HU HC HT HR
    go_wp2_with fail
    go_cut [173] from 27 (fun u W => u = .bool false ∧ G w13 W)
    case first =>
      obtain ⟨hz, h8⟩ := ZZ.out
      subst hz
      have hne : (d8 == IntKind.i64.wrap 1) = false := beq_false_of_ne h8
      clear ZZ II X4
      go_region_held3 (fun _ => True) (trivial) (first | (go_at_call 8; with_reducible refine (X8.out _ ?_).mono ?_; (exact (by repeat (first | exact HW.out | refine G.drew ?_))); rintro e w10 ⟨rfl, hb⟩) | fail)
      go_wp2_with fail
      go_meet
      case rel => exact ⟨rfl, G.trans (G.drew (G.refl _)) hb⟩
    case rest =>
      obtain ⟨rfl, hg⟩ := hcut
      replace hks := hks.keep hg
      replace HW : Hid (G w9 wc) := HW.out.trans hg
      clear hg
      go_wp2_with fail
      rename_i wd
      go_cut [181] from 27 (fun u W => u = .bool false ∧ G w9 W)
      case first =>
        obtain ⟨hz, h8⟩ := ZZ.out
        subst hz
        clear ZZ II X4
        go_quiet (fail)
        go_wp2_with fail
        go_meet
        case rel => exact ⟨rfl, by repeat (first | exact HW.out | refine G.drewNE ?_ _ | refine G.drew ?_)⟩
      case rest =>
        obtain ⟨rfl, hg⟩ := hcut
        clear X8 ZZ
        have hgw : G w w9 := HW9.out
        go_wp2_with fail
        rcases II.out with ⟨hpq, h4⟩ | ⟨hpq, h4⟩ | ⟨hpq, h4⟩
        · subst h4
          have hne : ((p : Int) == q) = false := beq_false_of_ne (by omega)
          clear II
          go_region_held3 (fun _ => True) (trivial) (first | (go_at_call 8; with_reducible refine (X4.out _ ?_).mono ?_; (exact G.trans (G.drew hg) hb); rintro e w11 ⟨rfl, hb2⟩) | (go_at_call 8; with_reducible refine (X4.out _ ?_).mono ?_; (exact G.drew hg); rintro e w10 ⟨rfl, hb⟩) | fail)
          go_wp2_with fail
          go_ret
          exact ⟨rfl, G.trans hgw (G.trans (G.trans (G.drew hg) hb) hb2)⟩
        · subst h4
          have hne : ((p : Int) == q) = false := beq_false_of_ne (by omega)
          have hnl : ¬ (p : Int) < q := by omega
          clear II
          go_region_held3 (fun _ => True) (trivial) (first | (go_at_call 8; with_reducible refine (X4.out _ ?_).mono ?_; (exact G.trans (G.drew hg) hb); rintro e w11 ⟨rfl, hb2⟩) | (go_at_call 8; with_reducible refine (X4.out _ ?_).mono ?_; (exact G.drew hg); rintro e w10 ⟨rfl, hb⟩) | fail)
          go_wp2_with fail
          go_ret
          exact ⟨rfl, G.trans hgw (G.trans (G.trans (G.drew hg) hb) hb2)⟩
        · subst h4
          have hne : ((p : Int) == q) = true := by rw [hpq]; simp
          have hnl : ¬ (p : Int) < q := by omega
          clear II
          go_region_held3 (fun _ => True) (trivial) (first | (go_at_call 8; with_reducible refine (X4.out _ ?_).mono ?_; (exact G.trans (G.drew hg) hb); rintro e w11 ⟨rfl, hb2⟩) | (go_at_call 8; with_reducible refine (X4.out _ ?_).mono ?_; (exact G.drew hg); rintro e w10 ⟨rfl, hb⟩) | fail)
          go_wp2_with fail
          go_ret
          exact ⟨rfl, G.trans hgw (G.trans (G.trans (G.drew hg) hb) hb2)⟩
set_option maxRecDepth 100000 in
set_option maxHeartbeats 16000000 in
theorem keys_lg (l m : ByteArray) (k a b k' a' b' : Int) (s s' : ByteArray) (p q : Nat) (F1 F2 F3 : Nat → Nat) (pl pm z : Int)
    (HN1 : Hid (∀ w, Calls Tryd.prog 10 #[.string l] w fun e w' => e = .returned (.bool true) ∧ w' = w)) (HN2 : Hid (∀ w, Calls Tryd.prog 10 #[.string m] w fun e w' => e = .returned (.bool true) ∧ w' = w))
    (HS1 : Hid (∀ w, Calls Tryd.prog 11 #[V k a b s] w fun e w' => e = .returned (.bool true) ∧ G w w')) (HS2 : Hid (∀ w, Calls Tryd.prog 11 #[V k' a' b' s'] w fun e w' => e = .returned (.bool true) ∧ G w w'))
    (HK1 : Hid (∀ w, Tabs w → Calls Tryd.prog 12 #[.string l, .string m, V k a b s, .int .i64 p] w fun e w' => e = .returned (.tuple #[.agg (cellsOf F1).toArray, .int .i64 0]) ∧ G w w'))
    (HK2 : Hid (∀ w, Tabs w → Calls Tryd.prog 12 #[.string l, .string m, V k' a' b' s', .int .i64 q] w fun e w' => e = .returned (.tuple #[.agg (cellsOf F2).toArray, .int .i64 0]) ∧ G w w'))
    (HK3 : Hid (∀ w, Tabs w → Calls Tryd.prog 12 #[.string m, .string l, V k' a' b' s', .int .i64 q] w fun e w' => e = .returned (.tuple #[.agg (cellsOf F3).toArray, .int .i64 0]) ∧ G w w'))
    (HP1 : Hid (∀ w, Calls Tryd.prog 13 #[.string l] w fun e w' => e = .returned (.tuple #[.int .i64 pl, .int .i64 0]) ∧ w' = w)) (HP2 : Hid (∀ w, Calls Tryd.prog 13 #[.string m] w fun e w' => e = .returned (.tuple #[.int .i64 pm, .int .i64 0]) ∧ w' = w))
    (HU : Hid (∀ w, Calls Tryd.prog 14 #[.int .i64 pl] w fun e w' => e = .returned (.tuple #[.string l, .int .i64 0]) ∧ G w w'))
    (HC : Hid (∀ w, Tabs w → Rks w → Calls Tryd.prog 7 #[V k a b s, V k' a' b' s'] w fun e w' => e = .returned (.int .i64 z) ∧ G w w'))
    (B1 : Hid (∀ j, j < 24 → F1 j < 256)) (B2 : Hid (∀ j, j < 24 → F2 j < 256)) (B3 : Hid (∀ j, j < 24 → F3 j < 256)) (hl8 : l.size ≤ 8) (hm8 : m.size ≤ 8)
    (D : Hid (lx (nats l) (nats m) = -1 ∧ pl < pm ∧ lx (sub F1 0 24) (sub F3 0 24) = -1))
    (E : Hid (lx (sub F1 0 12) (sub F2 0 12) = 0))
    (ZZ : Hid (z = 1 ∧ lx (sub F1 12 8) (sub F2 12 8) ≠ -1))
    (II : Hid (((p : Int) < q ∧ lx (sub F1 20 4) (sub F2 20 4) = -1) ∨ ((q : Int) < p ∧ lx (sub F1 20 4) (sub F2 20 4) = 1) ∨ ((p : Int) = q ∧ lx (sub F1 20 4) (sub F2 20 4) = 0)))
    (p1 : 1 ≤ p) (p2 : p ≤ 4294967295) (q1 : 1 ≤ q) (q2 : q ≤ 4294967295) (w : World) (hT : Tabs w) (hR : Rks w) :
    Calls Tryd.prog 4 #[.string l, .string m, V k a b s, V k' a' b' s', .int .i64 p, .int .i64 q] w fun e w' => e = .returned (.bool true) ∧ G w w' := by
  have HT : Hid _ := hT
  have HR : Hid _ := hR
  have HL1 : Hid ((cellsOf F1).toArray.size = 24) := by simp [Hid, cellsOf]
  have HL2 : Hid ((cellsOf F2).toArray.size = 24) := by simp [Hid, cellsOf]
  have HL3 : Hid ((cellsOf F3).toArray.size = 24) := by simp [Hid, cellsOf]
  have hks := KS.start w k a b k' a' b' s s'
  clear hT hR
  go_enter Tryd.func4, Tryd.ntmps4
  go_wp2_with fail
  generalize (w.alloc (.cells #[I k, I a, I b, .string s] 30)).alloc (.cells #[I k', I a', I b', .string s'] 30) = w0 at hks ⊢
  refine (HN1.out _).mono ?_
  rintro e w1 ⟨rfl, hw⟩
  rw [hw]
  clear hw w1
  go_wp2_with fail
  refine (HN2.out _).mono ?_
  rintro e w1 ⟨rfl, hw⟩
  rw [hw]
  clear hw w1
  have hx1 := hks.c1
  have hx2 := hks.c2
  go_wp2_with fail
  refine (HS1.out _).mono ?_
  rintro e w1 ⟨rfl, hb⟩
  clear hx1 hx2
  replace hks := hks.keep hb
  clear hb
  have hx1 := hks.c1
  have hx2 := hks.c2
  go_wp2_with fail
  refine (HS2.out _).mono ?_
  rintro e w2 ⟨rfl, hb⟩
  clear hx1 hx2
  replace hks := hks.keep hb
  clear hb
  have hx1 := hks.c1
  have hx2 := hks.c2
  go_wp2_with fail
  refine (HK1.out _ (Tabs.G HT.out hks.g)).mono ?_
  rintro e w3 ⟨rfl, hb⟩
  clear hx1 hx2
  replace hks := hks.keep hb
  clear hb
  go_wp2_with (refine wpList_store_mid rfl 37 _ _ rfl w3.heap.size 0 (cellsOf F1).toArray rfl rfl (by rw [HL1.out]; exact (laid_at w3 37 F1).1) (by rw [HL1.out]; kernel_rfl) (cellsOf_one F1) ?_; have hl := (laid_at w3 37 F1).2; generalize (w3.alloc (.cells #[.int .u8 0, .int .u8 0, .int .u8 0, .int .u8 0, .int .u8 0, .int .u8 0, .int .u8 0, .int .u8 0, .int .u8 0, .int .u8 0, .int .u8 0, .int .u8 0, .int .u8 0, .int .u8 0, .int .u8 0, .int .u8 0, .int .u8 0, .int .u8 0, .int .u8 0, .int .u8 0, .int .u8 0, .int .u8 0, .int .u8 0, .int .u8 0] 37)).setCells w3.heap.size 0 (cellsOf F1).toArray.toList = w4 at hl ⊢; have hx1 := (hks.keep hl.1).c1; have hx2 := (hks.keep hl.1).c2)
  clear hx1 hx2
  replace hks := hks.keep hl.1
  have HA : Hid _ := hl.2
  clear hl
  refine (HK2.out _ (Tabs.G HT.out hks.g)).mono ?_
  rintro e w5 ⟨rfl, hb⟩
  replace hks := hks.keep hb
  replace HA : Hid (w5.rangeAt w3.heap.size 0 (cellsOf F1) ∧ w3.heap.size < w5.heap.size) := ⟨rangeAt_G HA.out.1 hb, Nat.lt_of_lt_of_le HA.out.2 hb.size⟩
  clear hb
  generalize w3.heap.size = g1 at HA ⊢
  go_wp2_with (refine wpList_store_mid rfl 37 _ _ rfl w5.heap.size 0 (cellsOf F2).toArray rfl rfl (by rw [HL2.out]; exact (laid_at w5 37 F2).1) (by rw [HL2.out]; kernel_rfl) (cellsOf_one F2) ?_; have hl := (laid_at w5 37 F2).2; generalize (w5.alloc (.cells #[.int .u8 0, .int .u8 0, .int .u8 0, .int .u8 0, .int .u8 0, .int .u8 0, .int .u8 0, .int .u8 0, .int .u8 0, .int .u8 0, .int .u8 0, .int .u8 0, .int .u8 0, .int .u8 0, .int .u8 0, .int .u8 0, .int .u8 0, .int .u8 0, .int .u8 0, .int .u8 0, .int .u8 0, .int .u8 0, .int .u8 0, .int .u8 0] 37)).setCells w5.heap.size 0 (cellsOf F2).toArray.toList = w6 at hl ⊢; have hx1 := (hks.keep hl.1).c1; have hx2 := (hks.keep hl.1).c2)
  clear hx1 hx2
  replace hks := hks.keep hl.1
  replace HA : Hid (w6.rangeAt g1 0 (cellsOf F1) ∧ g1 < w6.heap.size) := ⟨rangeAt_G HA.out.1 hl.1, Nat.lt_of_lt_of_le HA.out.2 hl.1.size⟩
  have HB : Hid _ := hl.2
  clear hl
  refine (HK3.out _ (Tabs.G HT.out hks.g)).mono ?_
  rintro e w7 ⟨rfl, hb⟩
  replace hks := hks.keep hb
  replace HA : Hid (w7.rangeAt g1 0 (cellsOf F1) ∧ g1 < w7.heap.size) := ⟨rangeAt_G HA.out.1 hb, Nat.lt_of_lt_of_le HA.out.2 hb.size⟩
  replace HB : Hid (w7.rangeAt w5.heap.size 0 (cellsOf F2) ∧ w5.heap.size < w7.heap.size) := ⟨rangeAt_G HB.out.1 hb, Nat.lt_of_lt_of_le HB.out.2 hb.size⟩
  clear hb
  generalize w5.heap.size = g2 at HB ⊢
  go_wp2_with (refine wpList_store_mid rfl 37 _ _ rfl w7.heap.size 0 (cellsOf F3).toArray rfl rfl (by rw [HL3.out]; exact (laid_at w7 37 F3).1) (by rw [HL3.out]; kernel_rfl) (cellsOf_one F3) ?_; have hl := (laid_at w7 37 F3).2; generalize (w7.alloc (.cells #[.int .u8 0, .int .u8 0, .int .u8 0, .int .u8 0, .int .u8 0, .int .u8 0, .int .u8 0, .int .u8 0, .int .u8 0, .int .u8 0, .int .u8 0, .int .u8 0, .int .u8 0, .int .u8 0, .int .u8 0, .int .u8 0, .int .u8 0, .int .u8 0, .int .u8 0, .int .u8 0, .int .u8 0, .int .u8 0, .int .u8 0, .int .u8 0] 37)).setCells w7.heap.size 0 (cellsOf F3).toArray.toList = w8 at hl ⊢; have hx1 := (hks.keep hl.1).c1; have hx2 := (hks.keep hl.1).c2)
  clear hx1 hx2
  replace hks := hks.keep hl.1
  replace HA : Hid (w8.rangeAt g1 0 (cellsOf F1) ∧ g1 < w8.heap.size) := ⟨rangeAt_G HA.out.1 hl.1, Nat.lt_of_lt_of_le HA.out.2 hl.1.size⟩
  replace HB : Hid (w8.rangeAt g2 0 (cellsOf F2) ∧ g2 < w8.heap.size) := ⟨rangeAt_G HB.out.1 hl.1, Nat.lt_of_lt_of_le HB.out.2 hl.1.size⟩
  have HG3 : Hid _ := hl.2
  clear hl
  generalize w7.heap.size = g3 at HG3 ⊢
  refine (HP1.out _).mono ?_
  rintro e w9 ⟨rfl, hw⟩
  rw [hw]
  clear hw w9
  go_wp2_with fail
  refine (HP2.out _).mono ?_
  rintro e w9 ⟨rfl, hw⟩
  rw [hw]
  clear hw w9
  have hcv1 := conv_run l
  have hcv2 := conv_run m
  go_wp2_with fail
  refine (lex_any _ _ (nats l) (nats m) _ (RowB.G (conv_row l w8) (conv_G m _)) (conv_row m _) (by rw [nats_len]; omega) (by rw [nats_len]; omega) (nats_lt l) (nats_lt m)).mono ?_
  rintro e w9 ⟨rfl, hb⟩
  replace hb := G.trans (G.trans (conv_G l w8) (conv_G m _)) hb
  replace hks := hks.keep hb
  replace HA : Hid (w9.rangeAt g1 0 (cellsOf F1)) := rangeAt_G HA.out.1 hb
  replace HB : Hid (w9.rangeAt g2 0 (cellsOf F2)) := rangeAt_G HB.out.1 hb
  replace HG3 : Hid (w9.rangeAt g3 0 (cellsOf F3)) := rangeAt_G HG3.out.1 hb
  clear hb hcv1 hcv2
  generalize hd : lx (nats l) (nats m) = d at D ⊢
  clear hd
  clear HN1 HN2 HS1 HS2 HK1 HK2 HK3 HP1 HP2 HL1 HL2 HL3 p1 p2 q1 q2 hl8 hm8
  have hx1 := hks.c1
  have hx2 := hks.c2
  have X24 : Hid (∀ W, G w9 W → Calls Tryd.prog 8 #[.slice (some ⟨g1, 0, none⟩) 24 24, .slice (some ⟨g3, 0, none⟩) 24 24] W fun e w' => e = .returned (.int .i64 (lx (sub F1 0 24) (sub F3 0 24))) ∧ G W w') := fun W g => lex_any _ _ _ _ W (RowB.G (sub_row HA.out 0 24 24 (by omega) (by omega)) g) (RowB.G (sub_row HG3.out 0 24 24 (by omega) (by omega)) g) (by rw [sub_len]; omega) (by rw [sub_len]; omega) (sub_lt B1.out 0 24 (by omega)) (sub_lt B3.out 0 24 (by omega))
  have X12 : Hid (∀ W, G w9 W → Calls Tryd.prog 8 #[.slice (some ⟨g1, 0, none⟩) 12 24, .slice (some ⟨g2, 0, none⟩) 12 24] W fun e w' => e = .returned (.int .i64 (lx (sub F1 0 12) (sub F2 0 12))) ∧ G W w') := fun W g => lex_any _ _ _ _ W (RowB.G (sub_row HA.out 0 12 24 (by omega) (by omega)) g) (RowB.G (sub_row HB.out 0 12 24 (by omega) (by omega)) g) (by rw [sub_len]; omega) (by rw [sub_len]; omega) (sub_lt B1.out 0 12 (by omega)) (sub_lt B2.out 0 12 (by omega))
  have X8 : Hid (∀ W, G w9 W → Calls Tryd.prog 8 #[.slice (some ⟨g1, 12, none⟩) 8 12, .slice (some ⟨g2, 12, none⟩) 8 12] W fun e w' => e = .returned (.int .i64 (lx (sub F1 12 8) (sub F2 12 8))) ∧ G W w') := fun W g => lex_any _ _ _ _ W (RowB.G (sub_row HA.out 12 8 12 (by omega) (by omega)) g) (RowB.G (sub_row HB.out 12 8 12 (by omega) (by omega)) g) (by rw [sub_len]; omega) (by rw [sub_len]; omega) (sub_lt B1.out 12 8 (by omega)) (sub_lt B2.out 12 8 (by omega))
  have X4 : Hid (∀ W, G w9 W → Calls Tryd.prog 8 #[.slice (some ⟨g1, 20, none⟩) 4 4, .slice (some ⟨g2, 20, none⟩) 4 4] W fun e w' => e = .returned (.int .i64 (lx (sub F1 20 4) (sub F2 20 4))) ∧ G W w') := fun W g => lex_any _ _ _ _ W (RowB.G (sub_row HA.out 20 4 4 (by omega) (by omega)) g) (RowB.G (sub_row HB.out 20 4 4 (by omega) (by omega)) g) (by rw [sub_len]; omega) (by rw [sub_len]; omega) (sub_lt B1.out 20 4 (by omega)) (sub_lt B2.out 20 4 (by omega))
  clear HA HB HG3 B1 B2 B3
  have hg0 : G w9 w9 := G.refl _
  have HW9 : Hid (G w w9) := hks.g
  generalize lx (sub F1 0 24) (sub F3 0 24) = d24 at X24 D
  generalize lx (sub F1 0 12) (sub F2 0 12) = d12 at X12 E
  generalize lx (sub F1 12 8) (sub F2 12 8) = d8 at X8 ZZ
  generalize lx (sub F1 20 4) (sub F2 20 4) = d4 at X4 II
  clear hx1 hx2
  go_wp2_with fail
  go_cut [148] from 27 (fun u W => u = .bool false ∧ G w9 W)
  case first =>
    have hE : d12 = 0 := E.out
    obtain ⟨hd, hlt, hll⟩ := D.out
    subst hd hll hE
    have hne : (pl == pm) = false := beq_false_of_ne (by omega)
    clear D E ZZ II X8 X4 HU HC HT HR
    go_region_held3 (fun _ => True) (trivial) (first | (go_at_call 8; with_reducible refine (X24.out _ ?_).mono ?_; (exact (by repeat (first | exact hg0 | refine G.drew ?_))); rintro e w10 ⟨rfl, hb⟩) | (go_at_call 8; with_reducible refine (X12.out _ ?_).mono ?_; (exact (by repeat (first | exact hg0 | exact G.trans (G.drew hg0) hb | refine G.drew ?_))); rintro e w11 ⟨rfl, hb2⟩) | fail)
    go_wp2_with fail
    go_meet
    case rel => exact ⟨rfl, G.trans (G.trans (G.drew hg0) hb) hb2⟩
  case rest =>
    obtain ⟨rfl, hg⟩ := hcut
    clear X24 X12 D E
    replace hks := hks.keep hg
    have HW : Hid (G w9 wc) := hg
    clear hg hg0
    go_wp2_with fail
    refine (HU.out _).mono ?_
    rintro e w12 ⟨rfl, hb⟩
    replace hks := hks.keep hb
    replace HW : Hid (G w9 w12) := HW.out.trans hb
    clear hb
    have hx1 := hks.c1
    have hx2 := hks.c2
    have hll : (l.toList == l.toList) = true := by simp
    go_wp2_with fail
    refine (HC.out _ (Tabs.G HT.out hks.g) (Rks.G HR.out hks.g)).mono ?_
    rintro e w13 ⟨rfl, hb⟩
    clear hx1 hx2
    replace hks := hks.keep hb
    replace HW : Hid (G w9 w13) := HW.out.trans hb
    clear hb HU HC HT HR
    go_wp2_with fail
    go_cut [173] from 27 (fun u W => u = .bool false ∧ G w13 W)
    case first =>
      obtain ⟨hz, h8⟩ := ZZ.out
      subst hz
      have hne : (d8 == IntKind.i64.wrap (-1)) = false := beq_false_of_ne h8
      clear ZZ II X4
      go_region_held3 (fun _ => True) (trivial) (first | (go_at_call 8; with_reducible refine (X8.out _ ?_).mono ?_; (exact (by repeat (first | exact HW.out | refine G.drew ?_))); rintro e w10 ⟨rfl, hb⟩) | fail)
      go_wp2_with fail
      go_meet
      case rel => exact ⟨rfl, G.trans (G.drew (G.refl _)) hb⟩
    case rest =>
      obtain ⟨rfl, hg⟩ := hcut
      replace hks := hks.keep hg
      replace HW : Hid (G w9 wc) := HW.out.trans hg
      clear hg
      go_wp2_with fail
      rename_i wd
      go_cut [181] from 27 (fun u W => u = .bool false ∧ G w9 W)
      case first =>
        obtain ⟨hz, h8⟩ := ZZ.out
        subst hz
        clear ZZ II X4
        go_quiet (fail)
        go_wp2_with fail
        go_meet
        case rel => exact ⟨rfl, by repeat (first | exact HW.out | refine G.drewNE ?_ _ | refine G.drew ?_)⟩
      case rest =>
        obtain ⟨rfl, hg⟩ := hcut
        clear X8 ZZ
        have hgw : G w w9 := HW9.out
        go_wp2_with fail
        rcases II.out with ⟨hpq, h4⟩ | ⟨hpq, h4⟩ | ⟨hpq, h4⟩
        · subst h4
          have hne : ((p : Int) == q) = false := beq_false_of_ne (by omega)
          clear II
          go_region_held3 (fun _ => True) (trivial) (first | (go_at_call 8; with_reducible refine (X4.out _ ?_).mono ?_; (exact G.trans (G.drew hg) hb); rintro e w11 ⟨rfl, hb2⟩) | (go_at_call 8; with_reducible refine (X4.out _ ?_).mono ?_; (exact G.drew hg); rintro e w10 ⟨rfl, hb⟩) | fail)
          go_wp2_with fail
          go_ret
          exact ⟨rfl, G.trans hgw (G.trans (G.trans (G.drew hg) hb) hb2)⟩
        · subst h4
          have hne : ((p : Int) == q) = false := beq_false_of_ne (by omega)
          have hnl : ¬ (p : Int) < q := by omega
          clear II
          go_region_held3 (fun _ => True) (trivial) (first | (go_at_call 8; with_reducible refine (X4.out _ ?_).mono ?_; (exact G.trans (G.drew hg) hb); rintro e w11 ⟨rfl, hb2⟩) | (go_at_call 8; with_reducible refine (X4.out _ ?_).mono ?_; (exact G.drew hg); rintro e w10 ⟨rfl, hb⟩) | fail)
          go_wp2_with fail
          go_ret
          exact ⟨rfl, G.trans hgw (G.trans (G.trans (G.drew hg) hb) hb2)⟩
        · subst h4
          have hne : ((p : Int) == q) = true := by rw [hpq]; simp
          have hnl : ¬ (p : Int) < q := by omega
          clear II
          go_region_held3 (fun _ => True) (trivial) (first | (go_at_call 8; with_reducible refine (X4.out _ ?_).mono ?_; (exact G.trans (G.drew hg) hb); rintro e w11 ⟨rfl, hb2⟩) | (go_at_call 8; with_reducible refine (X4.out _ ?_).mono ?_; (exact G.drew hg); rintro e w10 ⟨rfl, hb⟩) | fail)
          go_wp2_with fail
          go_ret
          exact ⟨rfl, G.trans hgw (G.trans (G.trans (G.drew hg) hb) hb2)⟩
set_option maxRecDepth 100000 in
set_option maxHeartbeats 16000000 in
theorem keys_le (l m : ByteArray) (k a b k' a' b' : Int) (s s' : ByteArray) (p q : Nat) (F1 F2 F3 : Nat → Nat) (pl pm z : Int)
    (HN1 : Hid (∀ w, Calls Tryd.prog 10 #[.string l] w fun e w' => e = .returned (.bool true) ∧ w' = w)) (HN2 : Hid (∀ w, Calls Tryd.prog 10 #[.string m] w fun e w' => e = .returned (.bool true) ∧ w' = w))
    (HS1 : Hid (∀ w, Calls Tryd.prog 11 #[V k a b s] w fun e w' => e = .returned (.bool true) ∧ G w w')) (HS2 : Hid (∀ w, Calls Tryd.prog 11 #[V k' a' b' s'] w fun e w' => e = .returned (.bool true) ∧ G w w'))
    (HK1 : Hid (∀ w, Tabs w → Calls Tryd.prog 12 #[.string l, .string m, V k a b s, .int .i64 p] w fun e w' => e = .returned (.tuple #[.agg (cellsOf F1).toArray, .int .i64 0]) ∧ G w w'))
    (HK2 : Hid (∀ w, Tabs w → Calls Tryd.prog 12 #[.string l, .string m, V k' a' b' s', .int .i64 q] w fun e w' => e = .returned (.tuple #[.agg (cellsOf F2).toArray, .int .i64 0]) ∧ G w w'))
    (HK3 : Hid (∀ w, Tabs w → Calls Tryd.prog 12 #[.string m, .string l, V k' a' b' s', .int .i64 q] w fun e w' => e = .returned (.tuple #[.agg (cellsOf F3).toArray, .int .i64 0]) ∧ G w w'))
    (HP1 : Hid (∀ w, Calls Tryd.prog 13 #[.string l] w fun e w' => e = .returned (.tuple #[.int .i64 pl, .int .i64 0]) ∧ w' = w)) (HP2 : Hid (∀ w, Calls Tryd.prog 13 #[.string m] w fun e w' => e = .returned (.tuple #[.int .i64 pm, .int .i64 0]) ∧ w' = w))
    (HU : Hid (∀ w, Calls Tryd.prog 14 #[.int .i64 pl] w fun e w' => e = .returned (.tuple #[.string l, .int .i64 0]) ∧ G w w'))
    (HC : Hid (∀ w, Tabs w → Rks w → Calls Tryd.prog 7 #[V k a b s, V k' a' b' s'] w fun e w' => e = .returned (.int .i64 z) ∧ G w w'))
    (B1 : Hid (∀ j, j < 24 → F1 j < 256)) (B2 : Hid (∀ j, j < 24 → F2 j < 256)) (B3 : Hid (∀ j, j < 24 → F3 j < 256)) (hl8 : l.size ≤ 8) (hm8 : m.size ≤ 8)
    (D : Hid (lx (nats l) (nats m) = -1 ∧ pl < pm ∧ lx (sub F1 0 24) (sub F3 0 24) = -1))
    (E : Hid (lx (sub F1 0 12) (sub F2 0 12) = 0))
    (ZZ : Hid (z = 0 ∧ lx (sub F1 12 8) (sub F2 12 8) = 0))
    (II : Hid (((p : Int) < q ∧ lx (sub F1 20 4) (sub F2 20 4) = -1) ∨ ((q : Int) < p ∧ lx (sub F1 20 4) (sub F2 20 4) = 1) ∨ ((p : Int) = q ∧ lx (sub F1 20 4) (sub F2 20 4) = 0)))
    (p1 : 1 ≤ p) (p2 : p ≤ 4294967295) (q1 : 1 ≤ q) (q2 : q ≤ 4294967295) (w : World) (hT : Tabs w) (hR : Rks w) :
    Calls Tryd.prog 4 #[.string l, .string m, V k a b s, V k' a' b' s', .int .i64 p, .int .i64 q] w fun e w' => e = .returned (.bool true) ∧ G w w' := by
  have HT : Hid _ := hT
  have HR : Hid _ := hR
  have HL1 : Hid ((cellsOf F1).toArray.size = 24) := by simp [Hid, cellsOf]
  have HL2 : Hid ((cellsOf F2).toArray.size = 24) := by simp [Hid, cellsOf]
  have HL3 : Hid ((cellsOf F3).toArray.size = 24) := by simp [Hid, cellsOf]
  have hks := KS.start w k a b k' a' b' s s'
  clear hT hR
  go_enter Tryd.func4, Tryd.ntmps4
  go_wp2_with fail
  generalize (w.alloc (.cells #[I k, I a, I b, .string s] 30)).alloc (.cells #[I k', I a', I b', .string s'] 30) = w0 at hks ⊢
  refine (HN1.out _).mono ?_
  rintro e w1 ⟨rfl, hw⟩
  rw [hw]
  clear hw w1
  go_wp2_with fail
  refine (HN2.out _).mono ?_
  rintro e w1 ⟨rfl, hw⟩
  rw [hw]
  clear hw w1
  have hx1 := hks.c1
  have hx2 := hks.c2
  go_wp2_with fail
  refine (HS1.out _).mono ?_
  rintro e w1 ⟨rfl, hb⟩
  clear hx1 hx2
  replace hks := hks.keep hb
  clear hb
  have hx1 := hks.c1
  have hx2 := hks.c2
  go_wp2_with fail
  refine (HS2.out _).mono ?_
  rintro e w2 ⟨rfl, hb⟩
  clear hx1 hx2
  replace hks := hks.keep hb
  clear hb
  have hx1 := hks.c1
  have hx2 := hks.c2
  go_wp2_with fail
  refine (HK1.out _ (Tabs.G HT.out hks.g)).mono ?_
  rintro e w3 ⟨rfl, hb⟩
  clear hx1 hx2
  replace hks := hks.keep hb
  clear hb
  go_wp2_with (refine wpList_store_mid rfl 37 _ _ rfl w3.heap.size 0 (cellsOf F1).toArray rfl rfl (by rw [HL1.out]; exact (laid_at w3 37 F1).1) (by rw [HL1.out]; kernel_rfl) (cellsOf_one F1) ?_; have hl := (laid_at w3 37 F1).2; generalize (w3.alloc (.cells #[.int .u8 0, .int .u8 0, .int .u8 0, .int .u8 0, .int .u8 0, .int .u8 0, .int .u8 0, .int .u8 0, .int .u8 0, .int .u8 0, .int .u8 0, .int .u8 0, .int .u8 0, .int .u8 0, .int .u8 0, .int .u8 0, .int .u8 0, .int .u8 0, .int .u8 0, .int .u8 0, .int .u8 0, .int .u8 0, .int .u8 0, .int .u8 0] 37)).setCells w3.heap.size 0 (cellsOf F1).toArray.toList = w4 at hl ⊢; have hx1 := (hks.keep hl.1).c1; have hx2 := (hks.keep hl.1).c2)
  clear hx1 hx2
  replace hks := hks.keep hl.1
  have HA : Hid _ := hl.2
  clear hl
  refine (HK2.out _ (Tabs.G HT.out hks.g)).mono ?_
  rintro e w5 ⟨rfl, hb⟩
  replace hks := hks.keep hb
  replace HA : Hid (w5.rangeAt w3.heap.size 0 (cellsOf F1) ∧ w3.heap.size < w5.heap.size) := ⟨rangeAt_G HA.out.1 hb, Nat.lt_of_lt_of_le HA.out.2 hb.size⟩
  clear hb
  generalize w3.heap.size = g1 at HA ⊢
  go_wp2_with (refine wpList_store_mid rfl 37 _ _ rfl w5.heap.size 0 (cellsOf F2).toArray rfl rfl (by rw [HL2.out]; exact (laid_at w5 37 F2).1) (by rw [HL2.out]; kernel_rfl) (cellsOf_one F2) ?_; have hl := (laid_at w5 37 F2).2; generalize (w5.alloc (.cells #[.int .u8 0, .int .u8 0, .int .u8 0, .int .u8 0, .int .u8 0, .int .u8 0, .int .u8 0, .int .u8 0, .int .u8 0, .int .u8 0, .int .u8 0, .int .u8 0, .int .u8 0, .int .u8 0, .int .u8 0, .int .u8 0, .int .u8 0, .int .u8 0, .int .u8 0, .int .u8 0, .int .u8 0, .int .u8 0, .int .u8 0, .int .u8 0] 37)).setCells w5.heap.size 0 (cellsOf F2).toArray.toList = w6 at hl ⊢; have hx1 := (hks.keep hl.1).c1; have hx2 := (hks.keep hl.1).c2)
  clear hx1 hx2
  replace hks := hks.keep hl.1
  replace HA : Hid (w6.rangeAt g1 0 (cellsOf F1) ∧ g1 < w6.heap.size) := ⟨rangeAt_G HA.out.1 hl.1, Nat.lt_of_lt_of_le HA.out.2 hl.1.size⟩
  have HB : Hid _ := hl.2
  clear hl
  refine (HK3.out _ (Tabs.G HT.out hks.g)).mono ?_
  rintro e w7 ⟨rfl, hb⟩
  replace hks := hks.keep hb
  replace HA : Hid (w7.rangeAt g1 0 (cellsOf F1) ∧ g1 < w7.heap.size) := ⟨rangeAt_G HA.out.1 hb, Nat.lt_of_lt_of_le HA.out.2 hb.size⟩
  replace HB : Hid (w7.rangeAt w5.heap.size 0 (cellsOf F2) ∧ w5.heap.size < w7.heap.size) := ⟨rangeAt_G HB.out.1 hb, Nat.lt_of_lt_of_le HB.out.2 hb.size⟩
  clear hb
  generalize w5.heap.size = g2 at HB ⊢
  go_wp2_with (refine wpList_store_mid rfl 37 _ _ rfl w7.heap.size 0 (cellsOf F3).toArray rfl rfl (by rw [HL3.out]; exact (laid_at w7 37 F3).1) (by rw [HL3.out]; kernel_rfl) (cellsOf_one F3) ?_; have hl := (laid_at w7 37 F3).2; generalize (w7.alloc (.cells #[.int .u8 0, .int .u8 0, .int .u8 0, .int .u8 0, .int .u8 0, .int .u8 0, .int .u8 0, .int .u8 0, .int .u8 0, .int .u8 0, .int .u8 0, .int .u8 0, .int .u8 0, .int .u8 0, .int .u8 0, .int .u8 0, .int .u8 0, .int .u8 0, .int .u8 0, .int .u8 0, .int .u8 0, .int .u8 0, .int .u8 0, .int .u8 0] 37)).setCells w7.heap.size 0 (cellsOf F3).toArray.toList = w8 at hl ⊢; have hx1 := (hks.keep hl.1).c1; have hx2 := (hks.keep hl.1).c2)
  clear hx1 hx2
  replace hks := hks.keep hl.1
  replace HA : Hid (w8.rangeAt g1 0 (cellsOf F1) ∧ g1 < w8.heap.size) := ⟨rangeAt_G HA.out.1 hl.1, Nat.lt_of_lt_of_le HA.out.2 hl.1.size⟩
  replace HB : Hid (w8.rangeAt g2 0 (cellsOf F2) ∧ g2 < w8.heap.size) := ⟨rangeAt_G HB.out.1 hl.1, Nat.lt_of_lt_of_le HB.out.2 hl.1.size⟩
  have HG3 : Hid _ := hl.2
  clear hl
  generalize w7.heap.size = g3 at HG3 ⊢
  refine (HP1.out _).mono ?_
  rintro e w9 ⟨rfl, hw⟩
  rw [hw]
  clear hw w9
  go_wp2_with fail
  refine (HP2.out _).mono ?_
  rintro e w9 ⟨rfl, hw⟩
  rw [hw]
  clear hw w9
  have hcv1 := conv_run l
  have hcv2 := conv_run m
  go_wp2_with fail
  refine (lex_any _ _ (nats l) (nats m) _ (RowB.G (conv_row l w8) (conv_G m _)) (conv_row m _) (by rw [nats_len]; omega) (by rw [nats_len]; omega) (nats_lt l) (nats_lt m)).mono ?_
  rintro e w9 ⟨rfl, hb⟩
  replace hb := G.trans (G.trans (conv_G l w8) (conv_G m _)) hb
  replace hks := hks.keep hb
  replace HA : Hid (w9.rangeAt g1 0 (cellsOf F1)) := rangeAt_G HA.out.1 hb
  replace HB : Hid (w9.rangeAt g2 0 (cellsOf F2)) := rangeAt_G HB.out.1 hb
  replace HG3 : Hid (w9.rangeAt g3 0 (cellsOf F3)) := rangeAt_G HG3.out.1 hb
  clear hb hcv1 hcv2
  generalize hd : lx (nats l) (nats m) = d at D ⊢
  clear hd
  clear HN1 HN2 HS1 HS2 HK1 HK2 HK3 HP1 HP2 HL1 HL2 HL3 p1 p2 q1 q2 hl8 hm8
  have hx1 := hks.c1
  have hx2 := hks.c2
  have X24 : Hid (∀ W, G w9 W → Calls Tryd.prog 8 #[.slice (some ⟨g1, 0, none⟩) 24 24, .slice (some ⟨g3, 0, none⟩) 24 24] W fun e w' => e = .returned (.int .i64 (lx (sub F1 0 24) (sub F3 0 24))) ∧ G W w') := fun W g => lex_any _ _ _ _ W (RowB.G (sub_row HA.out 0 24 24 (by omega) (by omega)) g) (RowB.G (sub_row HG3.out 0 24 24 (by omega) (by omega)) g) (by rw [sub_len]; omega) (by rw [sub_len]; omega) (sub_lt B1.out 0 24 (by omega)) (sub_lt B3.out 0 24 (by omega))
  have X12 : Hid (∀ W, G w9 W → Calls Tryd.prog 8 #[.slice (some ⟨g1, 0, none⟩) 12 24, .slice (some ⟨g2, 0, none⟩) 12 24] W fun e w' => e = .returned (.int .i64 (lx (sub F1 0 12) (sub F2 0 12))) ∧ G W w') := fun W g => lex_any _ _ _ _ W (RowB.G (sub_row HA.out 0 12 24 (by omega) (by omega)) g) (RowB.G (sub_row HB.out 0 12 24 (by omega) (by omega)) g) (by rw [sub_len]; omega) (by rw [sub_len]; omega) (sub_lt B1.out 0 12 (by omega)) (sub_lt B2.out 0 12 (by omega))
  have X8 : Hid (∀ W, G w9 W → Calls Tryd.prog 8 #[.slice (some ⟨g1, 12, none⟩) 8 12, .slice (some ⟨g2, 12, none⟩) 8 12] W fun e w' => e = .returned (.int .i64 (lx (sub F1 12 8) (sub F2 12 8))) ∧ G W w') := fun W g => lex_any _ _ _ _ W (RowB.G (sub_row HA.out 12 8 12 (by omega) (by omega)) g) (RowB.G (sub_row HB.out 12 8 12 (by omega) (by omega)) g) (by rw [sub_len]; omega) (by rw [sub_len]; omega) (sub_lt B1.out 12 8 (by omega)) (sub_lt B2.out 12 8 (by omega))
  have X4 : Hid (∀ W, G w9 W → Calls Tryd.prog 8 #[.slice (some ⟨g1, 20, none⟩) 4 4, .slice (some ⟨g2, 20, none⟩) 4 4] W fun e w' => e = .returned (.int .i64 (lx (sub F1 20 4) (sub F2 20 4))) ∧ G W w') := fun W g => lex_any _ _ _ _ W (RowB.G (sub_row HA.out 20 4 4 (by omega) (by omega)) g) (RowB.G (sub_row HB.out 20 4 4 (by omega) (by omega)) g) (by rw [sub_len]; omega) (by rw [sub_len]; omega) (sub_lt B1.out 20 4 (by omega)) (sub_lt B2.out 20 4 (by omega))
  clear HA HB HG3 B1 B2 B3
  have hg0 : G w9 w9 := G.refl _
  have HW9 : Hid (G w w9) := hks.g
  generalize lx (sub F1 0 24) (sub F3 0 24) = d24 at X24 D
  generalize lx (sub F1 0 12) (sub F2 0 12) = d12 at X12 E
  generalize lx (sub F1 12 8) (sub F2 12 8) = d8 at X8 ZZ
  generalize lx (sub F1 20 4) (sub F2 20 4) = d4 at X4 II
  clear hx1 hx2
  go_wp2_with fail
  go_cut [148] from 27 (fun u W => u = .bool false ∧ G w9 W)
  case first =>
    have hE : d12 = 0 := E.out
    obtain ⟨hd, hlt, hll⟩ := D.out
    subst hd hll hE
    have hne : (pl == pm) = false := beq_false_of_ne (by omega)
    clear D E ZZ II X8 X4 HU HC HT HR
    go_region_held3 (fun _ => True) (trivial) (first | (go_at_call 8; with_reducible refine (X24.out _ ?_).mono ?_; (exact (by repeat (first | exact hg0 | refine G.drew ?_))); rintro e w10 ⟨rfl, hb⟩) | (go_at_call 8; with_reducible refine (X12.out _ ?_).mono ?_; (exact (by repeat (first | exact hg0 | exact G.trans (G.drew hg0) hb | refine G.drew ?_))); rintro e w11 ⟨rfl, hb2⟩) | fail)
    go_wp2_with fail
    go_meet
    case rel => exact ⟨rfl, G.trans (G.trans (G.drew hg0) hb) hb2⟩
  case rest =>
    obtain ⟨rfl, hg⟩ := hcut
    clear X24 X12 D E
    replace hks := hks.keep hg
    have HW : Hid (G w9 wc) := hg
    clear hg hg0
    go_wp2_with fail
    refine (HU.out _).mono ?_
    rintro e w12 ⟨rfl, hb⟩
    replace hks := hks.keep hb
    replace HW : Hid (G w9 w12) := HW.out.trans hb
    clear hb
    have hx1 := hks.c1
    have hx2 := hks.c2
    have hll : (l.toList == l.toList) = true := by simp
    go_wp2_with fail
    refine (HC.out _ (Tabs.G HT.out hks.g) (Rks.G HR.out hks.g)).mono ?_
    rintro e w13 ⟨rfl, hb⟩
    clear hx1 hx2
    replace hks := hks.keep hb
    replace HW : Hid (G w9 w13) := HW.out.trans hb
    clear hb HU HC HT HR
    go_wp2_with fail
    go_cut [173] from 27 (fun u W => u = .bool false ∧ G w13 W)
    case first =>
      obtain ⟨hz, h8⟩ := ZZ.out
      subst hz
      clear ZZ II X4
      go_quiet (fail)
      go_wp2_with fail
      go_meet
      case rel => exact ⟨rfl, by repeat (first | exact G.refl _ | refine G.drewNE ?_ _ | refine G.drew ?_)⟩
    case rest =>
      obtain ⟨rfl, hg⟩ := hcut
      replace hks := hks.keep hg
      replace HW : Hid (G w9 wc) := HW.out.trans hg
      clear hg
      go_wp2_with fail
      rename_i wd
      go_cut [181] from 27 (fun u W => u = .bool false ∧ G w9 W)
      case first =>
        obtain ⟨hz, h8⟩ := ZZ.out
        subst hz h8
        clear ZZ II X4
        go_region_held3 (fun _ => True) (trivial) (first | (go_at_call 8; with_reducible refine (X8.out _ ?_).mono ?_; (exact (by repeat (first | exact HW.out | refine G.drew ?_))); rintro e w10 ⟨rfl, hb⟩) | fail)
        go_wp2_with fail
        go_meet
        case rel => exact ⟨rfl, G.trans (G.drew HW.out) hb⟩
      case rest =>
        obtain ⟨rfl, hg⟩ := hcut
        clear X8 ZZ
        have hgw : G w w9 := HW9.out
        go_wp2_with fail
        rcases II.out with ⟨hpq, h4⟩ | ⟨hpq, h4⟩ | ⟨hpq, h4⟩
        · subst h4
          have hne : ((p : Int) == q) = false := beq_false_of_ne (by omega)
          clear II
          go_region_held3 (fun _ => True) (trivial) (first | (go_at_call 8; with_reducible refine (X4.out _ ?_).mono ?_; (exact G.trans (G.drew hg) hb); rintro e w11 ⟨rfl, hb2⟩) | (go_at_call 8; with_reducible refine (X4.out _ ?_).mono ?_; (exact G.drew hg); rintro e w10 ⟨rfl, hb⟩) | fail)
          go_wp2_with fail
          go_ret
          exact ⟨rfl, G.trans hgw (G.trans (G.trans (G.drew hg) hb) hb2)⟩
        · subst h4
          have hne : ((p : Int) == q) = false := beq_false_of_ne (by omega)
          have hnl : ¬ (p : Int) < q := by omega
          clear II
          go_region_held3 (fun _ => True) (trivial) (first | (go_at_call 8; with_reducible refine (X4.out _ ?_).mono ?_; (exact G.trans (G.drew hg) hb); rintro e w11 ⟨rfl, hb2⟩) | (go_at_call 8; with_reducible refine (X4.out _ ?_).mono ?_; (exact G.drew hg); rintro e w10 ⟨rfl, hb⟩) | fail)
          go_wp2_with fail
          go_ret
          exact ⟨rfl, G.trans hgw (G.trans (G.trans (G.drew hg) hb) hb2)⟩
        · subst h4
          have hne : ((p : Int) == q) = true := by rw [hpq]; simp
          have hnl : ¬ (p : Int) < q := by omega
          clear II
          go_region_held3 (fun _ => True) (trivial) (first | (go_at_call 8; with_reducible refine (X4.out _ ?_).mono ?_; (exact G.trans (G.drew hg) hb); rintro e w11 ⟨rfl, hb2⟩) | (go_at_call 8; with_reducible refine (X4.out _ ?_).mono ?_; (exact G.drew hg); rintro e w10 ⟨rfl, hb⟩) | fail)
          go_wp2_with fail
          go_ret
          exact ⟨rfl, G.trans hgw (G.trans (G.trans (G.drew hg) hb) hb2)⟩
end Go.Proofs.YtdiikofgilplkaaDoor
