/- GateOwn: the law. -/
import Derived.Test.YtmclbnhbioficacGo5
namespace Go.Proofs.Ytmclbnhbioficac
open Go.RowKit
set_option maxRecDepth 100000 in
set_option maxHeartbeats 4000000 in
theorem gateOwn_law (mo un : Int) (v : Value) (L : Nat) (X : Nat → Int × Int × Bool) (W : World) (hS : Scr W v L X) (hL : L ≤ 1048576) :
    Calls Try.prog 3 #[I mo, I un, v] W fun e W' => e = .returned (.bool true) ∧ G W W' := by
  by_cases hf : 1 ≤ mo ∧ mo ≤ 16 ∧ 1 ≤ un ∧ un ≤ 64
  · obtain ⟨a, cap, rfl, hS⟩ := hS
    have KN := hide (new_ok mo un W hf.1 hf.2.1 hf.2.2.1 hf.2.2.2)
    have HF := hide hf
    have HS := hide hS
    have HL := hide hL
    clear hf hS hL
    go_enter Try.func3, Try.ntmps3
    go_wp2_with (first | (go_at_call 4; refine Hid.out ?_) | fail)
    unfold Hid
    refine KN.out.mono ?_
    rintro e w1 ⟨b, K, rfl, hp, hg1, hk1⟩
    have KR := hide (rnew_ok mo un w1 HF.out.1 HF.out.2.1 HF.out.2.2.1 HF.out.2.2.2)
    have HP := hide hp
    have HG1 := hide hg1
    have HK1 := hide hk1
    clear hp hg1 hk1 KN
    go_wp2_with (first | (go_at_call 5; refine Hid.out ?_) | fail)
    unfold Hid
    refine KR.out.mono ?_
    rintro e w2 ⟨r, K2, rfl, hq, hg2, hk2⟩
    have HPR : Hid (PR w2 b r (new0 mo un) K K2 ∧ G W w2 ∧ ∀ k, Un K K2 k → W.heap.size ≤ k) := ⟨⟨HP.out.G hg2, hq, fun k e q => Nat.not_le.2 (HP.out.lt k e) (hk2 k q)⟩, HG1.out.trans hg2, fun k e => e.elim (HK1.out k) (fun q => Nat.le_trans HG1.out.size (hk2 k q))⟩
    have HLW : Hid (Lw W w2 b r 0 (-3) (.slice none 0 0) [] (new0 mo un) K K2) := ⟨⟨HPR.out.1, HPR.out.2.1, HPR.out.2.2, Sw.nil _ _ _, fun j e => by simp [Value.ownBlock] at e, fun x hx => by simp at hx, fun x hx => by simp at hx⟩, iv_new HF.out.1 HF.out.2.1 HF.out.2.2.1 HF.out.2.2.2, by simp [new0], by simp [new0], by simp, by simp⟩
    clear hq hg2 hk2 KR HP HG1 HK1 HPR
    go_wp2_with fail
    go_loopw [13, 11, 12] (fun iv bv mv wr => ∃ (i : Nat) (mk : Int) (bv0 : Value) (es : List (SV × SV)) (m : GM) (K K2 : Nat → Prop), iv = I i ∧ bv = bv0 ∧ mv = I mk ∧ i ≤ L ∧ Lw W wr b r i mk bv0 es m K K2) (fun iv _ _ _ => L - (RowKit.intOf iv).toNat)
    case atStart => exact ⟨0, _, _, _, _, K, K2, rfl, rfl, rfl, Nat.zero_le _, HLW.out⟩
    case round =>
      obtain ⟨i, mk, bv, es, m, K1, K3, rfl, rfl, rfl, hik, hlw⟩ := hrel
      by_cases hil : i < L
      · rcases HS.out with h0 | ⟨sb, off, rfl, hops⟩
        · omega
        obtain ⟨x1, x2, x3⟩ := hops.G hlw.b.g i hil
        generalize X i = xx at x1 x2 x3
        obtain ⟨xk, xi, xy⟩ := xx
        dsimp only at x1 x2 x3
        have i1 : (i : Int) < L := Int.ofNat_lt.2 hil
        have HW : Hid (wrap64 ((i : Int) + 1) = (i : Int) + 1) := by show _ = _; have := HL.out; unfold wrap64; omega
        have hmk := hlw.mr
        have hL0 := HL.out
        have k2 : wrap64 (mk - 2) = mk - 2 := by unfold wrap64; omega
        have k4 : wrap64 (mk - 4) = mk - 4 := by unfold wrap64; omega
        have k6 : wrap64 (mk - 6) = mk - 6 := by unfold wrap64; omega
        have k8 : wrap64 (mk - 8) = mk - 8 := by unfold wrap64; omega
        have k10 : wrap64 (mk - 10) = mk - 10 := by unfold wrap64; omega
        have HMB : Hid ((-1000000000000 ≤ mk - 2 ∧ mk - 2 ≤ 0) ∧ (-1000000000000 ≤ mk - 4 ∧ mk - 4 ≤ 0) ∧ (-1000000000000 ≤ mk - 6 ∧ mk - 6 ≤ 0) ∧ (-1000000000000 ≤ mk - 8 ∧ mk - 8 ≤ 0)) := by show _ ∧ _; omega
        have HMX : Hid (mk - 10 = -3 - 10 * ((i + 1 : Nat) : Int)) := by show _ = _; omega
        have HM0 : Hid (-1000000000000 ≤ mk ∧ mk ≤ 0) := by show _ ∧ _; omega
        have HIL := hide hil
        have HLW0 := hide hlw
        have HSC : Hid ((m.stepM xk xi xy).sp ≤ ((i + 1 : Nat) : Int) ∧ (m.stepM xk xi xy).ck ≤ ((i + 1 : Nat) : Int)) := by
          have h1 := step_le m xk xi xy
          have h2 := hlw.sp
          have h3 := hlw.ck
          exact ⟨by omega, by omega⟩
        have HIV : Hid (Iv (m.stepM xk xi xy)) := iv_step hlw.iv _ _ _
        clear hik hil hlw hops hmk hL0 HLW
        by_cases hk : xk = 2
        · subst hk
          have hst : m.stepM 2 xi xy = m.admit.2 := rfl
          rw [hst] at HSC HIV
          clear hst
          have KA := hide (admit_any b m K1 wr HLW0.out.b.p.p HLW0.out.iv)
          have HLA : Hid (m.admit.1.length ≤ 1000) := by show _ ≤ _; have h1 := admit_len m; have h2 := HLW0.out.iv.crowd; omega
          go_wp2_with (first | (go_at_call 6; refine Hid.out ?_) | fail)
          unfold Hid
          refine KA.out.mono ?_
          rintro e v1w ⟨a1, rfl, hv1, hf1, K5, hp1, hs1, hn1⟩
          clear KA x1 x2 x3
          have KB := hide (radmit_any r m K3 v1w (HLW0.out.b.p.ref hp1 hs1) HLW0.out.iv)
          have HP1 := hide hp1
          have HS1 := hide hs1
          have HV1 := hide hv1
          have HF1 := hide hf1
          have HN1 := hide hn1
          clear hp1 hs1 hv1 hf1 hn1
          go_wp2_with (first | (go_at_call 8; refine Hid.out ?_) | fail)
          unfold Hid
          refine KB.out.mono ?_
          rintro e v2w ⟨a2, rfl, hv2, hf2, K4, hq2, hs2, hn2⟩
          clear KB
          have HBB := hide (HLW0.out.b.p.both HP1.out HS1.out hq2 hs2)
          have hv12 : SwI v2w a1 m.admit.1 := HV1.out.chg hs2.chg (fun k e q => Nat.not_le.2 (HLW0.out.b.p.q.lt k q) (HF1.out k e))
          have KC := hide (same_any m.admit.1 a1 a2 v2w hv12 hv2 HLA.out)
          have HPE : Hid (Pe W v2w K5 K4 es a1 m.admit.1) := HLW0.out.b.new hv12 HF1.out (fun j e q => q.elim (HN1.out j e) (fun q => (hs2.nw j q).elim (fun q => Nat.not_le.2 (HLW0.out.b.p.q.lt j q) (HF1.out j e)) (fun q => Nat.not_le.2 (HV1.out.lt e) q)))
          clear hv2 hf2 hq2 hs2 hn2 hv12 HP1 HS1 HV1 HF1 HN1
          go_wp2_with (first | (go_at_call 7; refine Hid.out ?_) | fail)
          unfold Hid
          refine KC.out.mono ?_
          rintro e v3w ⟨rfl, hg3⟩
          clear KC
          have HB3 := hide ((HLW0.out.b.pass HBB.out.1 HBB.out.2).G hg3)
          have HPE3 := hide (HPE.out.G hg3)
          clear hg3 HBB HPE
          have KD := hide (keep_bo HB3.out HPE3.out HLA.out (by have := HLW0.out.ln; have := HL.out; have := HIL.out; omega) mk HM0.out)
          go_wp2_with (first | (go_at_call 9; refine Hid.out ?_) | fail)
          unfold Hid
          refine KD.out.mono ?_
          rintro e w0 ⟨bv1, es1, rfl, hb0, hl0, hp0⟩
          clear KD hp0 HB3 HPE3 HLA
          have HB := hide hb0
          have HLN : Hid (es1.length ≤ 10 * i + 2) := by show _ ≤ _; have := HLW0.out.ln; omega
          clear hb0 hl0 HLW0
          generalize m.admit.2 = m2 at HB HSC HIV
          have KS1 := hide (stat_bo HB.out HIV.out)
          go_wp2_with (first | (go_at_call 11; refine Hid.out ?_) | fail)
          unfold Hid
          refine KS1.out.mono ?_
          rintro e w1 ⟨v4, v6, K5, rfl, hb1, p4, p6, ap, f4, f6, st1⟩
          clear KS1 HB
          obtain ⟨a4, c4, e4⟩ := p4.s.form
          obtain ⟨a6, c6, e6⟩ := p6.s.form
          rw [show m2.ids.length = m2.ins.length from List.length_map _] at e4
          rw [show m2.qids.length = m2.q.length from List.length_map _] at e6
          subst e4 e6
          have hA1 := (G.refl w1).alloc (.cells #[.slice a4 m2.ins.length c4, .slice a6 m2.q.length c6, I m2.lg, I m2.un, I m2.mo] 39)
          have HX1 := hide (Blk.new w1 [.slice a4 m2.ins.length c4, .slice a6 m2.q.length c6, I m2.lg, I m2.un, I m2.mo] 39)
          have HNU : Hid (¬ Un K5 K4 w1.heap.size) := fun q => Nat.lt_irrefl _ (q.elim (hb1.p.p.lt _) (hb1.p.q.lt _))
          have HB1 := hide (hb1.G hA1)
          have KS2 := hide (stat_bo HB1.out HIV.out)
          have HP1 := hide (And.intro (p4.G hA1) (And.intro (p6.G hA1) ap))
          clear hb1 p4 p6 ap f4 f6 st1 hA1
          go_wp2_with (first | (go_at_call 11; refine Hid.out ?_) | fail)
          unfold Hid
          generalize w1.alloc (.cells #[.slice a4 m2.ins.length c4, .slice a6 m2.q.length c6, I m2.lg, I m2.un, I m2.mo] 39) = w1s at HB1 KS2 HP1 HX1 ⊢
          generalize w1.heap.size = ks at HX1 HNU ⊢
          refine KS2.out.mono ?_
          rintro e w2 ⟨u4, u6, K6, rfl, hb2, q4, q6, apu, f4, f6, st2⟩
          clear KS2
          obtain ⟨b4, d4, e4⟩ := q4.s.form
          obtain ⟨b6, d6, e6⟩ := q6.s.form
          rw [show m2.ids.length = m2.ins.length from List.length_map _] at e4
          rw [show m2.qids.length = m2.q.length from List.length_map _] at e6
          subst e4 e6
          have hA2 := (G.refl w2).alloc (.cells #[.slice b4 m2.ins.length d4, .slice b6 m2.q.length d6, I m2.lg, I m2.un, I m2.mo] 39)
          have HX2 := hide ((HX1.out.chg st2.chg HNU.out).G hA2)
          have HZ2 := hide (Blk.new w2 [.slice b4 m2.ins.length d4, .slice b6 m2.q.length d6, I m2.lg, I m2.un, I m2.mo] 39)
          have HP2 : Hid (Pe W (w2.alloc (.cells #[.slice b4 m2.ins.length d4, .slice b6 m2.q.length d6, I m2.lg, I m2.un, I m2.mo] 39)) K6 K4 es1 (Value.slice a4 m2.ins.length c4) m2.ids ∧ Pe W (w2.alloc (.cells #[.slice b4 m2.ins.length d4, .slice b6 m2.q.length d6, I m2.lg, I m2.un, I m2.mo] 39)) K6 K4 es1 (Value.slice a6 m2.q.length c6) m2.qids ∧ Pe W (w2.alloc (.cells #[.slice b4 m2.ins.length d4, .slice b6 m2.q.length d6, I m2.lg, I m2.un, I m2.mo] 39)) K6 K4 es1 (Value.slice b4 m2.ins.length d4) m2.ids ∧ Pe W (w2.alloc (.cells #[.slice b4 m2.ins.length d4, .slice b6 m2.q.length d6, I m2.lg, I m2.un, I m2.mo] 39)) K6 K4 es1 (Value.slice b6 m2.q.length d6) m2.qids) := ⟨(HP1.out.1.pass st2).G hA2, (HP1.out.2.1.pass st2).G hA2, q4.G hA2, q6.G hA2⟩
          have HAP : Hid ((∀ j, (Value.slice a6 m2.q.length c6).ownBlock = some j → (Value.slice a4 m2.ins.length c4).ownBlock ≠ some j) ∧ (∀ j, (Value.slice b4 m2.ins.length d4).ownBlock = some j → (Value.slice a4 m2.ins.length c4).ownBlock ≠ some j) ∧ (∀ j, (Value.slice b6 m2.q.length d6).ownBlock = some j → (Value.slice a4 m2.ins.length c4).ownBlock ≠ some j) ∧ (∀ j, (Value.slice b4 m2.ins.length d4).ownBlock = some j → (Value.slice a6 m2.q.length c6).ownBlock ≠ some j) ∧ (∀ j, (Value.slice b6 m2.q.length d6).ownBlock = some j → (Value.slice a6 m2.q.length c6).ownBlock ≠ some j) ∧ (∀ j, (Value.slice b6 m2.q.length d6).ownBlock = some j → (Value.slice b4 m2.ins.length d4).ownBlock ≠ some j)) := ⟨fun j e q => HP1.out.2.2 j q e, fun j e q => Nat.not_le.2 (HP1.out.1.s.lt q) (f4 j e), fun j e q => Nat.not_le.2 (HP1.out.1.s.lt q) (f6 j e), fun j e q => Nat.not_le.2 (HP1.out.2.1.s.lt q) (f4 j e), fun j e q => Nat.not_le.2 (HP1.out.2.1.s.lt q) (f6 j e), fun j e q => apu j q e⟩
          have HB2 := hide (hb2.G hA2)
          have KT1 := hide (stat_same r m2 K4 (Value.slice a4 m2.ins.length c4) (Value.slice a6 m2.q.length c6) _ HB2.out.p.q HIV.out HP2.out.1.s HP2.out.2.1.s)
          have hx2 := HX2.out.cell
          have hz2 := HZ2.out.cell
          clear hb2 q4 q6 apu f4 f6 st2 HB1 HP1 HX1 HNU hA2
          go_wp2_with (first | (go_at_call 12; refine Hid.out ?_) | fail)
          unfold Hid
          generalize w2.alloc (.cells #[.slice b4 m2.ins.length d4, .slice b6 m2.q.length d6, I m2.lg, I m2.un, I m2.mo] 39) = w2t at HB2 KT1 HP2 HX2 HZ2 hx2 hz2 ⊢
          generalize w2.heap.size = kz at HZ2 hz2 ⊢
          refine KT1.out.mono ?_
          rintro e w3 ⟨rfl, hg3⟩
          clear KT1 hx2 hz2
          have HB3 := hide (HB2.out.G hg3)
          have HX3 := hide (HX2.out.G hg3)
          have HZ3 := hide (HZ2.out.G hg3)
          have hx3 := HX3.out.cell
          have hz3 := HZ3.out.cell
          have HP3 : Hid (Pe W w3 K6 K4 es1 (Value.slice a4 m2.ins.length c4) m2.ids ∧ Pe W w3 K6 K4 es1 (Value.slice a6 m2.q.length c6) m2.qids ∧ Pe W w3 K6 K4 es1 (Value.slice b4 m2.ins.length d4) m2.ids ∧ Pe W w3 K6 K4 es1 (Value.slice b6 m2.q.length d6) m2.qids) := ⟨HP2.out.1.G hg3, HP2.out.2.1.G hg3, HP2.out.2.2.1.G hg3, HP2.out.2.2.2.G hg3⟩
          have KT2 := hide (stat_same r m2 K4 (Value.slice b4 m2.ins.length d4) (Value.slice b6 m2.q.length d6) w3 HB3.out.p.q HIV.out HP3.out.2.2.1.s HP3.out.2.2.2.s)
          clear hg3 HB2 HP2 HX2 HZ2
          go_wp2_with (first | (go_at_call 12; refine Hid.out ?_) | fail)
          unfold Hid
          refine KT2.out.mono ?_
          rintro e w4 ⟨rfl, hg4⟩
          clear KT2 hx3 hz3
          have HB4 := hide (HB3.out.G hg4)
          have HX4 := hide (HX3.out.G hg4)
          have HZ4 := hide (HZ3.out.G hg4)
          have hx4 := HX4.out.cell
          have hz4 := HZ4.out.cell
          have HP4 : Hid (Pe W w4 K6 K4 es1 (Value.slice a4 m2.ins.length c4) m2.ids ∧ Pe W w4 K6 K4 es1 (Value.slice a6 m2.q.length c6) m2.qids ∧ Pe W w4 K6 K4 es1 (Value.slice b4 m2.ins.length d4) m2.ids ∧ Pe W w4 K6 K4 es1 (Value.slice b6 m2.q.length d6) m2.qids) := ⟨HP3.out.1.G hg4, HP3.out.2.1.G hg4, HP3.out.2.2.1.G hg4, HP3.out.2.2.2.G hg4⟩
          clear HX3 HZ3
          clear hg4 HB3 HP3
          have KK1 := hide (keep_bo HB4.out HP4.out.1 (iv_lens HIV.out).1 (by have := HLN.out; have := HL.out; have := HIL.out; omega) (mk - 2) HMB.out.1)
          go_wp2_with (first | (go_at_call 9; refine Hid.out ?_) | fail)
          unfold Hid
          refine KK1.out.mono ?_
          rintro e w5 ⟨bv5, es5, rfl, hb5, hl5, hp5⟩
          clear KK1 HB4 hx4 hz4
          have HX5 := hide ((hp5 (Value.slice a4 m2.ins.length c4) []).2 _ _ HX4.out)
          have HZ5 := hide ((hp5 (Value.slice a4 m2.ins.length c4) []).2 _ _ HZ4.out)
          have hx5 := HX5.out.cell
          have hz5 := HZ5.out.cell
          clear HX4 HZ4
          have HB5 := hide hb5
          have HL5 := hide hl5
          have HP5 : Hid (Pe W w5 K6 K4 es5 (Value.slice a6 m2.q.length c6) m2.qids ∧ Pe W w5 K6 K4 es5 (Value.slice b4 m2.ins.length d4) m2.ids ∧ Pe W w5 K6 K4 es5 (Value.slice b6 m2.q.length d6) m2.qids) := ⟨(hp5 _ _).1 HP4.out.2.1 HAP.out.1, (hp5 _ _).1 HP4.out.2.2.1 HAP.out.2.1, (hp5 _ _).1 HP4.out.2.2.2 HAP.out.2.2.1⟩
          clear hb5 hl5 hp5 HP4
          have KK2 := hide (keep_bo HB5.out HP5.out.1 (iv_lens HIV.out).2 (by have := HLN.out; have := HL.out; have := HIL.out; have := HL5.out; omega) (mk - 4) HMB.out.2.1)
          go_wp2_with (first | (go_at_call 9; refine Hid.out ?_) | fail)
          unfold Hid
          refine KK2.out.mono ?_
          rintro e w6 ⟨bv6, es6, rfl, hb6, hl6, hp6⟩
          clear KK2 HB5 hx5 hz5
          have HX6 := hide ((hp6 (Value.slice a4 m2.ins.length c4) []).2 _ _ HX5.out)
          have HZ6 := hide ((hp6 (Value.slice a4 m2.ins.length c4) []).2 _ _ HZ5.out)
          have hx6 := HX6.out.cell
          have hz6 := HZ6.out.cell
          clear HX5 HZ5
          have HB6 := hide hb6
          have HL6 := hide hl6
          have HP6 : Hid (Pe W w6 K6 K4 es6 (Value.slice b4 m2.ins.length d4) m2.ids ∧ Pe W w6 K6 K4 es6 (Value.slice b6 m2.q.length d6) m2.qids) := ⟨(hp6 _ _).1 HP5.out.2.1 HAP.out.2.2.2.1, (hp6 _ _).1 HP5.out.2.2 HAP.out.2.2.2.2.1⟩
          clear hb6 hl6 hp6 HP5
          have KK3 := hide (keep_bo HB6.out HP6.out.1 (iv_lens HIV.out).1 (by have := HLN.out; have := HL.out; have := HIL.out; have := HL5.out; have := HL6.out; omega) (mk - 6) HMB.out.2.2.1)
          go_wp2_with (first | (go_at_call 9; refine Hid.out ?_) | fail)
          unfold Hid
          refine KK3.out.mono ?_
          rintro e w7 ⟨bv7, es7, rfl, hb7, hl7, hp7⟩
          clear KK3 HB6 hx6 hz6
          have HX7 := hide ((hp7 (Value.slice a4 m2.ins.length c4) []).2 _ _ HX6.out)
          have HZ7 := hide ((hp7 (Value.slice a4 m2.ins.length c4) []).2 _ _ HZ6.out)
          have hx7 := HX7.out.cell
          have hz7 := HZ7.out.cell
          clear HX6 HZ6
          have HB7 := hide hb7
          have HL7 := hide hl7
          have HP7 : Hid (Pe W w7 K6 K4 es7 (Value.slice b6 m2.q.length d6) m2.qids) := (hp7 _ _).1 HP6.out.2 HAP.out.2.2.2.2.2
          clear hb7 hl7 hp7 HP6
          have KK4 := hide (keep_bo HB7.out HP7.out (iv_lens HIV.out).2 (by have := HLN.out; have := HL.out; have := HIL.out; have := HL5.out; have := HL6.out; have := HL7.out; omega) (mk - 8) HMB.out.2.2.2)
          go_wp2_with (first | (go_at_call 9; refine Hid.out ?_) | fail)
          unfold Hid
          refine KK4.out.mono ?_
          rintro e w8 ⟨bv8, es8, rfl, hb8, hl8, hp8⟩
          clear KK4 HB7 hp8 hx7 hz7 HX7 HZ7
          obtain ⟨ba, bc, ebv⟩ := hb8.s.form
          subst ebv
          have HB8 := hide hb8
          have HL8 : Hid (es8.length ≤ 10 * (i + 1)) := by show _ ≤ _; have := HLN.out; have := HL5.out; have := HL6.out; have := HL7.out; omega
          have HLL : Hid (es8.length ≤ 100000000) := by show _ ≤ _; have := HL8.out; have := HL.out; have := HIL.out; omega
          clear hb8 hl8 HP7 HAP HL5 HL6 HL7
          go_wp2_with fail
          rw [k10]
          go_loopw [17] (fun jv wz => ∃ j : Nat, jv = I j ∧ j ≤ es8.length ∧ Bo W wz b r m2 K6 K4 (.slice ba es8.length bc) es8) (fun jv _ => es8.length - (RowKit.intOf jv).toNat)
          case atStart => exact ⟨0, rfl, Nat.zero_le _, HB8.out⟩
          case round =>
            obtain ⟨j, rfl, hjl, hb⟩ := hrel
            have HBJ := hide hb
            by_cases hj : j < es8.length
            · have j1 : (j : Int) < es8.length := Int.ofNat_lt.2 hj
              by_cases h6 : i < 60
              · have i6 : (i : Int) < 60 := by omega
                obtain ⟨x, hx⟩ : ∃ x, es8[j]? = some x := ⟨_, List.getElem?_eq_getElem hj⟩
                obtain ⟨g, cap, e⟩ := hb.s.slice (by omega)
                injection e with e1 e2 e3
                subst e1 e3
                obtain ⟨el, hel, r1, r2⟩ := hb.e x (List.mem_of_getElem? hx)
                have y1 : wr.cell? ⟨g, j * 2, none⟩ = some (sv x.1) := by have := hb.s.at hx 0 (by decide); simpa using this
                have y2 : wr.cell? ⟨g, j * 2 + 1, none⟩ = some (sv x.2) := hb.s.at hx 1 (by decide)
                have KM : Hid (∀ V, G wr V → Calls Try.prog 7 #[sv x.1, sv x.2] V fun e W' => e = .returned (.bool true) ∧ G V W') := fun V hV => same_gen el _ _ V (r1.G hV) (r2.G hV) (by omega)
                have HY : Hid (∀ V, G wr V → V.cell? ⟨g, j * 2, none⟩ = some (sv x.1) ∧ V.cell? ⟨g, j * 2 + 1, none⟩ = some (sv x.2)) := fun V hV => ⟨by rw [hV.cell (cell_lt y1)]; exact y1, by rw [hV.cell (cell_lt y2)]; exact y2⟩
                obtain ⟨⟨a1, n1, c1⟩, ⟨a2, n2, c2⟩⟩ := x
                simp only [sv] at y1 y2 KM HY
                have HW2 : Hid (wrap64 ((j : Int) + 1) = (j : Int) + 1) := by show _ = _; have := HLL.out; unfold wrap64; omega
                have HJ := hide hj
                clear hjl hj h6 hx e2 hb hel r1 r2
                clear y1 y2
                go_wp2_with fail
                refine wp_region_noPanic ?_
                refine wp_region_held_drew (S := (fun V => V.cell? ⟨g, j * 2, none⟩ = some (.slice a1 n1 c1) ∧ V.cell? ⟨g, j * 2 + 1, none⟩ = some (.slice a2 n2 c2))) (by kernel_rfl) (HY.out _ (G.drew (G.refl _))) (fun hHeld => ?_)
                refine wpAnyH_take (i := 0) (v := ?_) rfl (by kernel_rfl) (by kernel_rfl) (by kernel_rfl) (fun _ _ _ h => h) (Or.inl ⟨by rfl, ?_⟩) hHeld ?_
                rotate_left 1
                · (intro w hSw; (try dsimp only at hSw); go_simp; try with_reducible rfl)
                try simp only [Act.put, List.getElem_toArray, List.getElem_cons_zero, List.setIfInBounds_toArray, List.set_cons_zero, List.set_cons_succ]
                refine wpAnyH_take (i := 1) (v := ?_) rfl (by kernel_rfl) (by kernel_rfl) (by kernel_rfl) (fun _ _ _ h => h) (Or.inl ⟨by rfl, ?_⟩) hHeld ?_
                rotate_left 1
                · (intro w hSw; (try dsimp only at hSw); go_simp; try with_reducible rfl)
                try simp only [Act.put, List.getElem_toArray, List.getElem_cons_zero, List.getElem_cons_succ, List.setIfInBounds_toArray, List.set_cons_zero, List.set_cons_succ]
                refine wpAnyH_take (i := 2) (v := ?_) rfl (by kernel_rfl) (by kernel_rfl) (by kernel_rfl) (fun _ _ _ h => h) (Or.inl ⟨by rfl, ?_⟩) hHeld ?_
                rotate_left 1
                · (intro w hSw; (try dsimp only at hSw); go_simp; try with_reducible rfl)
                try simp only [Act.put, List.getElem_toArray, List.getElem_cons_zero, List.getElem_cons_succ, List.setIfInBounds_toArray, List.set_cons_zero, List.set_cons_succ]
                refine wpAnyH_take (i := 3) (v := ?_) rfl (by kernel_rfl) (by kernel_rfl) (by kernel_rfl) (fun _ _ _ h => h) (Or.inl ⟨by rfl, ?_⟩) hHeld ?_
                rotate_left 1
                · (intro w hSw; (try dsimp only at hSw); go_simp; try with_reducible rfl)
                try simp only [Act.put, List.getElem_toArray, List.getElem_cons_zero, List.getElem_cons_succ, List.setIfInBounds_toArray, List.set_cons_zero, List.set_cons_succ]
                refine wpAnyH_take (i := 4) (v := ?_) rfl (by kernel_rfl) (by kernel_rfl) (by kernel_rfl) (fun _ _ _ h => h) (Or.inl ⟨by rfl, ?_⟩) hHeld ?_
                rotate_left 1
                · (intro w hSw; obtain ⟨s1, s2⟩ := hSw; go_simp; try with_reducible rfl)
                try simp only [Act.put, List.getElem_toArray, List.getElem_cons_zero, List.getElem_cons_succ, List.setIfInBounds_toArray, List.set_cons_zero, List.set_cons_succ]
                refine wpAnyH_take (i := 5) (v := ?_) rfl (by kernel_rfl) (by kernel_rfl) (by kernel_rfl) (fun _ _ _ h => h) (Or.inl ⟨by rfl, ?_⟩) hHeld ?_
                rotate_left 1
                · (intro w hSw; (try dsimp only at hSw); go_simp; try with_reducible rfl)
                try simp only [Act.put, List.getElem_toArray, List.getElem_cons_zero, List.getElem_cons_succ, List.setIfInBounds_toArray, List.set_cons_zero, List.set_cons_succ]
                refine wpAnyH_take (i := 6) (v := ?_) rfl (by kernel_rfl) (by kernel_rfl) (by kernel_rfl) (fun _ _ _ h => h) (Or.inl ⟨by rfl, ?_⟩) hHeld ?_
                rotate_left 1
                · (intro w hSw; (try dsimp only at hSw); go_simp; try with_reducible rfl)
                try simp only [Act.put, List.getElem_toArray, List.getElem_cons_zero, List.getElem_cons_succ, List.setIfInBounds_toArray, List.set_cons_zero, List.set_cons_succ]
                refine wpAnyH_take (i := 7) (v := ?_) rfl (by kernel_rfl) (by kernel_rfl) (by kernel_rfl) (fun _ _ _ h => h) (Or.inl ⟨by rfl, ?_⟩) hHeld ?_
                rotate_left 1
                · (intro w hSw; (try dsimp only at hSw); go_simp; try with_reducible rfl)
                try simp only [Act.put, List.getElem_toArray, List.getElem_cons_zero, List.getElem_cons_succ, List.setIfInBounds_toArray, List.set_cons_zero, List.set_cons_succ]
                refine wpAnyH_take (i := 8) (v := ?_) rfl (by kernel_rfl) (by kernel_rfl) (by kernel_rfl) (fun _ _ _ h => h) (Or.inl ⟨by rfl, ?_⟩) hHeld ?_
                rotate_left 1
                · (intro w hSw; (try dsimp only at hSw); go_simp; try with_reducible rfl)
                try simp only [Act.put, List.getElem_toArray, List.getElem_cons_zero, List.getElem_cons_succ, List.setIfInBounds_toArray, List.set_cons_zero, List.set_cons_succ]
                refine wpAnyH_take (i := 9) (v := ?_) rfl (by kernel_rfl) (by kernel_rfl) (by kernel_rfl) (fun _ _ _ h => h) (Or.inl ⟨by rfl, ?_⟩) hHeld ?_
                rotate_left 1
                · (intro w hSw; obtain ⟨s1, s2⟩ := hSw; go_simp; try with_reducible rfl)
                try simp only [Act.put, List.getElem_toArray, List.getElem_cons_zero, List.getElem_cons_succ, List.setIfInBounds_toArray, List.set_cons_zero, List.set_cons_succ]
                refine wpAnyH_ready (rs := [10]) (by kernel_rfl) (by simp) (AllReadyH.cons rfl (fun K hK => ?_) AllReadyH.nil)
                clear hHeld
                go_simp
                refine (KM.out _ (G.drew (G.refl _))).mono ?_
                rintro e w9 ⟨rfl, hg9⟩
                have HG9 := hide (G.trans (G.drew (G.refl wr)) hg9)
                clear hg9
                go_wp2_with fail
                refine hK.out _ _ (HY.out _ HG9.out) (fun hHeld => ?_)
                clear hK K
                try simp only [Act.put, List.getElem_toArray, List.getElem_cons_zero, List.getElem_cons_succ, List.setIfInBounds_toArray, List.set_cons_zero, List.set_cons_succ]
                refine wpAnyH_take (i := 11) (v := ?_) rfl (by kernel_rfl) (by kernel_rfl) (by kernel_rfl) (fun _ _ _ h => h) (Or.inl ⟨by rfl, ?_⟩) hHeld ?_
                rotate_left 1
                · (intro w hSw; (try dsimp only at hSw); go_simp; try with_reducible rfl)
                try simp only [Act.put, List.getElem_toArray, List.getElem_cons_zero, List.getElem_cons_succ, List.setIfInBounds_toArray, List.set_cons_zero, List.set_cons_succ]
                refine wpAnyH_done (by kernel_rfl) ?_ _
                refine NoPanic.normal ?_
                have HB9 := hide (HBJ.out.G HG9.out)
                clear KM HY
                go_wp2_with fail
                rw [HW2.out]
                go_roundw
                case rel => exact ⟨j + 1, rfl, HJ.out, HB9.out⟩
                case measure => simp only [RowKit.intOf]; have := HJ.out; omega
              · have i6 : ¬ ((i : Int) < 60) := by omega
                clear hjl hj h6 hb
                go_wp2_with fail
                rw [HW.out]
                go_roundw
                case rel => exact ⟨i + 1, _, _, es8, m2, K6, K4, rfl, rfl, rfl, HIL.out, ⟨HBJ.out, HIV.out, HSC.out.1, HSC.out.2, HMX.out, HL8.out⟩⟩
                case measure => simp only [RowKit.intOf]; have := HIL.out; omega
            · have j1 : ¬ ((j : Int) < es8.length) := by omega
              clear hjl hj hb
              go_wp2_with fail
              rw [HW.out]
              go_roundw
              case rel => exact ⟨i + 1, _, _, es8, m2, K6, K4, rfl, rfl, rfl, HIL.out, ⟨HBJ.out, HIV.out, HSC.out.1, HSC.out.2, HMX.out, HL8.out⟩⟩
              case measure => simp only [RowKit.intOf]; have := HIL.out; omega
        · have k0 : (xk == 2) = false := beq_eq_false_iff_ne.2 hk
          have KP := hide (plays_any b r m K1 K3 xk xi xy wr HLW0.out.b.p HLW0.out.iv (by have := HLW0.out.sp; have := HL.out; have := HIL.out; omega) (by have := HLW0.out.ck; have := HL.out; have := HIL.out; omega))
          clear hk
          go_wp2_with (first | (go_at_call 10; refine Hid.out ?_) | fail)
          unfold Hid
          refine KP.out.mono ?_
          rintro e w0 ⟨rfl, K5, K4, hpr, hst⟩
          clear KP x1 x2 x3 k0
          have HB := hide (HLW0.out.b.pass hpr hst)
          have HLN : Hid (es.length ≤ 10 * i + 2) := by show _ ≤ _; have := HLW0.out.ln; omega
          clear hpr hst HLW0
          generalize m.stepM xk xi xy = m2 at HB HSC HIV
          have KS1 := hide (stat_bo HB.out HIV.out)
          go_wp2_with (first | (go_at_call 11; refine Hid.out ?_) | fail)
          unfold Hid
          refine KS1.out.mono ?_
          rintro e w1 ⟨v4, v6, K5, rfl, hb1, p4, p6, ap, f4, f6, st1⟩
          clear KS1 HB
          obtain ⟨a4, c4, e4⟩ := p4.s.form
          obtain ⟨a6, c6, e6⟩ := p6.s.form
          rw [show m2.ids.length = m2.ins.length from List.length_map _] at e4
          rw [show m2.qids.length = m2.q.length from List.length_map _] at e6
          subst e4 e6
          have hA1 := (G.refl w1).alloc (.cells #[.slice a4 m2.ins.length c4, .slice a6 m2.q.length c6, I m2.lg, I m2.un, I m2.mo] 39)
          have HX1 := hide (Blk.new w1 [.slice a4 m2.ins.length c4, .slice a6 m2.q.length c6, I m2.lg, I m2.un, I m2.mo] 39)
          have HNU : Hid (¬ Un K5 K4 w1.heap.size) := fun q => Nat.lt_irrefl _ (q.elim (hb1.p.p.lt _) (hb1.p.q.lt _))
          have HB1 := hide (hb1.G hA1)
          have KS2 := hide (stat_bo HB1.out HIV.out)
          have HP1 := hide (And.intro (p4.G hA1) (And.intro (p6.G hA1) ap))
          clear hb1 p4 p6 ap f4 f6 st1 hA1
          go_wp2_with (first | (go_at_call 11; refine Hid.out ?_) | fail)
          unfold Hid
          generalize w1.alloc (.cells #[.slice a4 m2.ins.length c4, .slice a6 m2.q.length c6, I m2.lg, I m2.un, I m2.mo] 39) = w1s at HB1 KS2 HP1 HX1 ⊢
          generalize w1.heap.size = ks at HX1 HNU ⊢
          refine KS2.out.mono ?_
          rintro e w2 ⟨u4, u6, K6, rfl, hb2, q4, q6, apu, f4, f6, st2⟩
          clear KS2
          obtain ⟨b4, d4, e4⟩ := q4.s.form
          obtain ⟨b6, d6, e6⟩ := q6.s.form
          rw [show m2.ids.length = m2.ins.length from List.length_map _] at e4
          rw [show m2.qids.length = m2.q.length from List.length_map _] at e6
          subst e4 e6
          have hA2 := (G.refl w2).alloc (.cells #[.slice b4 m2.ins.length d4, .slice b6 m2.q.length d6, I m2.lg, I m2.un, I m2.mo] 39)
          have HX2 := hide ((HX1.out.chg st2.chg HNU.out).G hA2)
          have HZ2 := hide (Blk.new w2 [.slice b4 m2.ins.length d4, .slice b6 m2.q.length d6, I m2.lg, I m2.un, I m2.mo] 39)
          have HP2 : Hid (Pe W (w2.alloc (.cells #[.slice b4 m2.ins.length d4, .slice b6 m2.q.length d6, I m2.lg, I m2.un, I m2.mo] 39)) K6 K4 es (Value.slice a4 m2.ins.length c4) m2.ids ∧ Pe W (w2.alloc (.cells #[.slice b4 m2.ins.length d4, .slice b6 m2.q.length d6, I m2.lg, I m2.un, I m2.mo] 39)) K6 K4 es (Value.slice a6 m2.q.length c6) m2.qids ∧ Pe W (w2.alloc (.cells #[.slice b4 m2.ins.length d4, .slice b6 m2.q.length d6, I m2.lg, I m2.un, I m2.mo] 39)) K6 K4 es (Value.slice b4 m2.ins.length d4) m2.ids ∧ Pe W (w2.alloc (.cells #[.slice b4 m2.ins.length d4, .slice b6 m2.q.length d6, I m2.lg, I m2.un, I m2.mo] 39)) K6 K4 es (Value.slice b6 m2.q.length d6) m2.qids) := ⟨(HP1.out.1.pass st2).G hA2, (HP1.out.2.1.pass st2).G hA2, q4.G hA2, q6.G hA2⟩
          have HAP : Hid ((∀ j, (Value.slice a6 m2.q.length c6).ownBlock = some j → (Value.slice a4 m2.ins.length c4).ownBlock ≠ some j) ∧ (∀ j, (Value.slice b4 m2.ins.length d4).ownBlock = some j → (Value.slice a4 m2.ins.length c4).ownBlock ≠ some j) ∧ (∀ j, (Value.slice b6 m2.q.length d6).ownBlock = some j → (Value.slice a4 m2.ins.length c4).ownBlock ≠ some j) ∧ (∀ j, (Value.slice b4 m2.ins.length d4).ownBlock = some j → (Value.slice a6 m2.q.length c6).ownBlock ≠ some j) ∧ (∀ j, (Value.slice b6 m2.q.length d6).ownBlock = some j → (Value.slice a6 m2.q.length c6).ownBlock ≠ some j) ∧ (∀ j, (Value.slice b6 m2.q.length d6).ownBlock = some j → (Value.slice b4 m2.ins.length d4).ownBlock ≠ some j)) := ⟨fun j e q => HP1.out.2.2 j q e, fun j e q => Nat.not_le.2 (HP1.out.1.s.lt q) (f4 j e), fun j e q => Nat.not_le.2 (HP1.out.1.s.lt q) (f6 j e), fun j e q => Nat.not_le.2 (HP1.out.2.1.s.lt q) (f4 j e), fun j e q => Nat.not_le.2 (HP1.out.2.1.s.lt q) (f6 j e), fun j e q => apu j q e⟩
          have HB2 := hide (hb2.G hA2)
          have KT1 := hide (stat_same r m2 K4 (Value.slice a4 m2.ins.length c4) (Value.slice a6 m2.q.length c6) _ HB2.out.p.q HIV.out HP2.out.1.s HP2.out.2.1.s)
          have hx2 := HX2.out.cell
          have hz2 := HZ2.out.cell
          clear hb2 q4 q6 apu f4 f6 st2 HB1 HP1 HX1 HNU hA2
          go_wp2_with (first | (go_at_call 12; refine Hid.out ?_) | fail)
          unfold Hid
          generalize w2.alloc (.cells #[.slice b4 m2.ins.length d4, .slice b6 m2.q.length d6, I m2.lg, I m2.un, I m2.mo] 39) = w2t at HB2 KT1 HP2 HX2 HZ2 hx2 hz2 ⊢
          generalize w2.heap.size = kz at HZ2 hz2 ⊢
          refine KT1.out.mono ?_
          rintro e w3 ⟨rfl, hg3⟩
          clear KT1 hx2 hz2
          have HB3 := hide (HB2.out.G hg3)
          have HX3 := hide (HX2.out.G hg3)
          have HZ3 := hide (HZ2.out.G hg3)
          have hx3 := HX3.out.cell
          have hz3 := HZ3.out.cell
          have HP3 : Hid (Pe W w3 K6 K4 es (Value.slice a4 m2.ins.length c4) m2.ids ∧ Pe W w3 K6 K4 es (Value.slice a6 m2.q.length c6) m2.qids ∧ Pe W w3 K6 K4 es (Value.slice b4 m2.ins.length d4) m2.ids ∧ Pe W w3 K6 K4 es (Value.slice b6 m2.q.length d6) m2.qids) := ⟨HP2.out.1.G hg3, HP2.out.2.1.G hg3, HP2.out.2.2.1.G hg3, HP2.out.2.2.2.G hg3⟩
          have KT2 := hide (stat_same r m2 K4 (Value.slice b4 m2.ins.length d4) (Value.slice b6 m2.q.length d6) w3 HB3.out.p.q HIV.out HP3.out.2.2.1.s HP3.out.2.2.2.s)
          clear hg3 HB2 HP2 HX2 HZ2
          go_wp2_with (first | (go_at_call 12; refine Hid.out ?_) | fail)
          unfold Hid
          refine KT2.out.mono ?_
          rintro e w4 ⟨rfl, hg4⟩
          clear KT2 hx3 hz3
          have HB4 := hide (HB3.out.G hg4)
          have HX4 := hide (HX3.out.G hg4)
          have HZ4 := hide (HZ3.out.G hg4)
          have hx4 := HX4.out.cell
          have hz4 := HZ4.out.cell
          have HP4 : Hid (Pe W w4 K6 K4 es (Value.slice a4 m2.ins.length c4) m2.ids ∧ Pe W w4 K6 K4 es (Value.slice a6 m2.q.length c6) m2.qids ∧ Pe W w4 K6 K4 es (Value.slice b4 m2.ins.length d4) m2.ids ∧ Pe W w4 K6 K4 es (Value.slice b6 m2.q.length d6) m2.qids) := ⟨HP3.out.1.G hg4, HP3.out.2.1.G hg4, HP3.out.2.2.1.G hg4, HP3.out.2.2.2.G hg4⟩
          clear HX3 HZ3
          clear hg4 HB3 HP3
          have KK1 := hide (keep_bo HB4.out HP4.out.1 (iv_lens HIV.out).1 (by have := HLN.out; have := HL.out; have := HIL.out; omega) (mk - 2) HMB.out.1)
          go_wp2_with (first | (go_at_call 9; refine Hid.out ?_) | fail)
          unfold Hid
          refine KK1.out.mono ?_
          rintro e w5 ⟨bv5, es5, rfl, hb5, hl5, hp5⟩
          clear KK1 HB4 hx4 hz4
          have HX5 := hide ((hp5 (Value.slice a4 m2.ins.length c4) []).2 _ _ HX4.out)
          have HZ5 := hide ((hp5 (Value.slice a4 m2.ins.length c4) []).2 _ _ HZ4.out)
          have hx5 := HX5.out.cell
          have hz5 := HZ5.out.cell
          clear HX4 HZ4
          have HB5 := hide hb5
          have HL5 := hide hl5
          have HP5 : Hid (Pe W w5 K6 K4 es5 (Value.slice a6 m2.q.length c6) m2.qids ∧ Pe W w5 K6 K4 es5 (Value.slice b4 m2.ins.length d4) m2.ids ∧ Pe W w5 K6 K4 es5 (Value.slice b6 m2.q.length d6) m2.qids) := ⟨(hp5 _ _).1 HP4.out.2.1 HAP.out.1, (hp5 _ _).1 HP4.out.2.2.1 HAP.out.2.1, (hp5 _ _).1 HP4.out.2.2.2 HAP.out.2.2.1⟩
          clear hb5 hl5 hp5 HP4
          have KK2 := hide (keep_bo HB5.out HP5.out.1 (iv_lens HIV.out).2 (by have := HLN.out; have := HL.out; have := HIL.out; have := HL5.out; omega) (mk - 4) HMB.out.2.1)
          go_wp2_with (first | (go_at_call 9; refine Hid.out ?_) | fail)
          unfold Hid
          refine KK2.out.mono ?_
          rintro e w6 ⟨bv6, es6, rfl, hb6, hl6, hp6⟩
          clear KK2 HB5 hx5 hz5
          have HX6 := hide ((hp6 (Value.slice a4 m2.ins.length c4) []).2 _ _ HX5.out)
          have HZ6 := hide ((hp6 (Value.slice a4 m2.ins.length c4) []).2 _ _ HZ5.out)
          have hx6 := HX6.out.cell
          have hz6 := HZ6.out.cell
          clear HX5 HZ5
          have HB6 := hide hb6
          have HL6 := hide hl6
          have HP6 : Hid (Pe W w6 K6 K4 es6 (Value.slice b4 m2.ins.length d4) m2.ids ∧ Pe W w6 K6 K4 es6 (Value.slice b6 m2.q.length d6) m2.qids) := ⟨(hp6 _ _).1 HP5.out.2.1 HAP.out.2.2.2.1, (hp6 _ _).1 HP5.out.2.2 HAP.out.2.2.2.2.1⟩
          clear hb6 hl6 hp6 HP5
          have KK3 := hide (keep_bo HB6.out HP6.out.1 (iv_lens HIV.out).1 (by have := HLN.out; have := HL.out; have := HIL.out; have := HL5.out; have := HL6.out; omega) (mk - 6) HMB.out.2.2.1)
          go_wp2_with (first | (go_at_call 9; refine Hid.out ?_) | fail)
          unfold Hid
          refine KK3.out.mono ?_
          rintro e w7 ⟨bv7, es7, rfl, hb7, hl7, hp7⟩
          clear KK3 HB6 hx6 hz6
          have HX7 := hide ((hp7 (Value.slice a4 m2.ins.length c4) []).2 _ _ HX6.out)
          have HZ7 := hide ((hp7 (Value.slice a4 m2.ins.length c4) []).2 _ _ HZ6.out)
          have hx7 := HX7.out.cell
          have hz7 := HZ7.out.cell
          clear HX6 HZ6
          have HB7 := hide hb7
          have HL7 := hide hl7
          have HP7 : Hid (Pe W w7 K6 K4 es7 (Value.slice b6 m2.q.length d6) m2.qids) := (hp7 _ _).1 HP6.out.2 HAP.out.2.2.2.2.2
          clear hb7 hl7 hp7 HP6
          have KK4 := hide (keep_bo HB7.out HP7.out (iv_lens HIV.out).2 (by have := HLN.out; have := HL.out; have := HIL.out; have := HL5.out; have := HL6.out; have := HL7.out; omega) (mk - 8) HMB.out.2.2.2)
          go_wp2_with (first | (go_at_call 9; refine Hid.out ?_) | fail)
          unfold Hid
          refine KK4.out.mono ?_
          rintro e w8 ⟨bv8, es8, rfl, hb8, hl8, hp8⟩
          clear KK4 HB7 hp8 hx7 hz7 HX7 HZ7
          obtain ⟨ba, bc, ebv⟩ := hb8.s.form
          subst ebv
          have HB8 := hide hb8
          have HL8 : Hid (es8.length ≤ 10 * (i + 1)) := by show _ ≤ _; have := HLN.out; have := HL5.out; have := HL6.out; have := HL7.out; omega
          have HLL : Hid (es8.length ≤ 100000000) := by show _ ≤ _; have := HL8.out; have := HL.out; have := HIL.out; omega
          clear hb8 hl8 HP7 HAP HL5 HL6 HL7
          go_wp2_with fail
          rw [k10]
          go_loopw [17] (fun jv wz => ∃ j : Nat, jv = I j ∧ j ≤ es8.length ∧ Bo W wz b r m2 K6 K4 (.slice ba es8.length bc) es8) (fun jv _ => es8.length - (RowKit.intOf jv).toNat)
          case atStart => exact ⟨0, rfl, Nat.zero_le _, HB8.out⟩
          case round =>
            obtain ⟨j, rfl, hjl, hb⟩ := hrel
            have HBJ := hide hb
            by_cases hj : j < es8.length
            · have j1 : (j : Int) < es8.length := Int.ofNat_lt.2 hj
              by_cases h6 : i < 60
              · have i6 : (i : Int) < 60 := by omega
                obtain ⟨x, hx⟩ : ∃ x, es8[j]? = some x := ⟨_, List.getElem?_eq_getElem hj⟩
                obtain ⟨g, cap, e⟩ := hb.s.slice (by omega)
                injection e with e1 e2 e3
                subst e1 e3
                obtain ⟨el, hel, r1, r2⟩ := hb.e x (List.mem_of_getElem? hx)
                have y1 : wr.cell? ⟨g, j * 2, none⟩ = some (sv x.1) := by have := hb.s.at hx 0 (by decide); simpa using this
                have y2 : wr.cell? ⟨g, j * 2 + 1, none⟩ = some (sv x.2) := hb.s.at hx 1 (by decide)
                have KM : Hid (∀ V, G wr V → Calls Try.prog 7 #[sv x.1, sv x.2] V fun e W' => e = .returned (.bool true) ∧ G V W') := fun V hV => same_gen el _ _ V (r1.G hV) (r2.G hV) (by omega)
                have HY : Hid (∀ V, G wr V → V.cell? ⟨g, j * 2, none⟩ = some (sv x.1) ∧ V.cell? ⟨g, j * 2 + 1, none⟩ = some (sv x.2)) := fun V hV => ⟨by rw [hV.cell (cell_lt y1)]; exact y1, by rw [hV.cell (cell_lt y2)]; exact y2⟩
                obtain ⟨⟨a1, n1, c1⟩, ⟨a2, n2, c2⟩⟩ := x
                simp only [sv] at y1 y2 KM HY
                have HW2 : Hid (wrap64 ((j : Int) + 1) = (j : Int) + 1) := by show _ = _; have := HLL.out; unfold wrap64; omega
                have HJ := hide hj
                clear hjl hj h6 hx e2 hb hel r1 r2
                clear y1 y2
                go_wp2_with fail
                refine wp_region_noPanic ?_
                refine wp_region_held_drew (S := (fun V => V.cell? ⟨g, j * 2, none⟩ = some (.slice a1 n1 c1) ∧ V.cell? ⟨g, j * 2 + 1, none⟩ = some (.slice a2 n2 c2))) (by kernel_rfl) (HY.out _ (G.drew (G.refl _))) (fun hHeld => ?_)
                refine wpAnyH_take (i := 0) (v := ?_) rfl (by kernel_rfl) (by kernel_rfl) (by kernel_rfl) (fun _ _ _ h => h) (Or.inl ⟨by rfl, ?_⟩) hHeld ?_
                rotate_left 1
                · (intro w hSw; (try dsimp only at hSw); go_simp; try with_reducible rfl)
                try simp only [Act.put, List.getElem_toArray, List.getElem_cons_zero, List.setIfInBounds_toArray, List.set_cons_zero, List.set_cons_succ]
                refine wpAnyH_take (i := 1) (v := ?_) rfl (by kernel_rfl) (by kernel_rfl) (by kernel_rfl) (fun _ _ _ h => h) (Or.inl ⟨by rfl, ?_⟩) hHeld ?_
                rotate_left 1
                · (intro w hSw; (try dsimp only at hSw); go_simp; try with_reducible rfl)
                try simp only [Act.put, List.getElem_toArray, List.getElem_cons_zero, List.getElem_cons_succ, List.setIfInBounds_toArray, List.set_cons_zero, List.set_cons_succ]
                refine wpAnyH_take (i := 2) (v := ?_) rfl (by kernel_rfl) (by kernel_rfl) (by kernel_rfl) (fun _ _ _ h => h) (Or.inl ⟨by rfl, ?_⟩) hHeld ?_
                rotate_left 1
                · (intro w hSw; (try dsimp only at hSw); go_simp; try with_reducible rfl)
                try simp only [Act.put, List.getElem_toArray, List.getElem_cons_zero, List.getElem_cons_succ, List.setIfInBounds_toArray, List.set_cons_zero, List.set_cons_succ]
                refine wpAnyH_take (i := 3) (v := ?_) rfl (by kernel_rfl) (by kernel_rfl) (by kernel_rfl) (fun _ _ _ h => h) (Or.inl ⟨by rfl, ?_⟩) hHeld ?_
                rotate_left 1
                · (intro w hSw; (try dsimp only at hSw); go_simp; try with_reducible rfl)
                try simp only [Act.put, List.getElem_toArray, List.getElem_cons_zero, List.getElem_cons_succ, List.setIfInBounds_toArray, List.set_cons_zero, List.set_cons_succ]
                refine wpAnyH_take (i := 4) (v := ?_) rfl (by kernel_rfl) (by kernel_rfl) (by kernel_rfl) (fun _ _ _ h => h) (Or.inl ⟨by rfl, ?_⟩) hHeld ?_
                rotate_left 1
                · (intro w hSw; obtain ⟨s1, s2⟩ := hSw; go_simp; try with_reducible rfl)
                try simp only [Act.put, List.getElem_toArray, List.getElem_cons_zero, List.getElem_cons_succ, List.setIfInBounds_toArray, List.set_cons_zero, List.set_cons_succ]
                refine wpAnyH_take (i := 5) (v := ?_) rfl (by kernel_rfl) (by kernel_rfl) (by kernel_rfl) (fun _ _ _ h => h) (Or.inl ⟨by rfl, ?_⟩) hHeld ?_
                rotate_left 1
                · (intro w hSw; (try dsimp only at hSw); go_simp; try with_reducible rfl)
                try simp only [Act.put, List.getElem_toArray, List.getElem_cons_zero, List.getElem_cons_succ, List.setIfInBounds_toArray, List.set_cons_zero, List.set_cons_succ]
                refine wpAnyH_take (i := 6) (v := ?_) rfl (by kernel_rfl) (by kernel_rfl) (by kernel_rfl) (fun _ _ _ h => h) (Or.inl ⟨by rfl, ?_⟩) hHeld ?_
                rotate_left 1
                · (intro w hSw; (try dsimp only at hSw); go_simp; try with_reducible rfl)
                try simp only [Act.put, List.getElem_toArray, List.getElem_cons_zero, List.getElem_cons_succ, List.setIfInBounds_toArray, List.set_cons_zero, List.set_cons_succ]
                refine wpAnyH_take (i := 7) (v := ?_) rfl (by kernel_rfl) (by kernel_rfl) (by kernel_rfl) (fun _ _ _ h => h) (Or.inl ⟨by rfl, ?_⟩) hHeld ?_
                rotate_left 1
                · (intro w hSw; (try dsimp only at hSw); go_simp; try with_reducible rfl)
                try simp only [Act.put, List.getElem_toArray, List.getElem_cons_zero, List.getElem_cons_succ, List.setIfInBounds_toArray, List.set_cons_zero, List.set_cons_succ]
                refine wpAnyH_take (i := 8) (v := ?_) rfl (by kernel_rfl) (by kernel_rfl) (by kernel_rfl) (fun _ _ _ h => h) (Or.inl ⟨by rfl, ?_⟩) hHeld ?_
                rotate_left 1
                · (intro w hSw; (try dsimp only at hSw); go_simp; try with_reducible rfl)
                try simp only [Act.put, List.getElem_toArray, List.getElem_cons_zero, List.getElem_cons_succ, List.setIfInBounds_toArray, List.set_cons_zero, List.set_cons_succ]
                refine wpAnyH_take (i := 9) (v := ?_) rfl (by kernel_rfl) (by kernel_rfl) (by kernel_rfl) (fun _ _ _ h => h) (Or.inl ⟨by rfl, ?_⟩) hHeld ?_
                rotate_left 1
                · (intro w hSw; obtain ⟨s1, s2⟩ := hSw; go_simp; try with_reducible rfl)
                try simp only [Act.put, List.getElem_toArray, List.getElem_cons_zero, List.getElem_cons_succ, List.setIfInBounds_toArray, List.set_cons_zero, List.set_cons_succ]
                refine wpAnyH_ready (rs := [10]) (by kernel_rfl) (by simp) (AllReadyH.cons rfl (fun K hK => ?_) AllReadyH.nil)
                clear hHeld
                go_simp
                refine (KM.out _ (G.drew (G.refl _))).mono ?_
                rintro e w9 ⟨rfl, hg9⟩
                have HG9 := hide (G.trans (G.drew (G.refl wr)) hg9)
                clear hg9
                go_wp2_with fail
                refine hK.out _ _ (HY.out _ HG9.out) (fun hHeld => ?_)
                clear hK K
                try simp only [Act.put, List.getElem_toArray, List.getElem_cons_zero, List.getElem_cons_succ, List.setIfInBounds_toArray, List.set_cons_zero, List.set_cons_succ]
                refine wpAnyH_take (i := 11) (v := ?_) rfl (by kernel_rfl) (by kernel_rfl) (by kernel_rfl) (fun _ _ _ h => h) (Or.inl ⟨by rfl, ?_⟩) hHeld ?_
                rotate_left 1
                · (intro w hSw; (try dsimp only at hSw); go_simp; try with_reducible rfl)
                try simp only [Act.put, List.getElem_toArray, List.getElem_cons_zero, List.getElem_cons_succ, List.setIfInBounds_toArray, List.set_cons_zero, List.set_cons_succ]
                refine wpAnyH_done (by kernel_rfl) ?_ _
                refine NoPanic.normal ?_
                have HB9 := hide (HBJ.out.G HG9.out)
                clear KM HY
                go_wp2_with fail
                rw [HW2.out]
                go_roundw
                case rel => exact ⟨j + 1, rfl, HJ.out, HB9.out⟩
                case measure => simp only [RowKit.intOf]; have := HJ.out; omega
              · have i6 : ¬ ((i : Int) < 60) := by omega
                clear hjl hj h6 hb
                go_wp2_with fail
                rw [HW.out]
                go_roundw
                case rel => exact ⟨i + 1, _, _, es8, m2, K6, K4, rfl, rfl, rfl, HIL.out, ⟨HBJ.out, HIV.out, HSC.out.1, HSC.out.2, HMX.out, HL8.out⟩⟩
                case measure => simp only [RowKit.intOf]; have := HIL.out; omega
            · have j1 : ¬ ((j : Int) < es8.length) := by omega
              clear hjl hj hb
              go_wp2_with fail
              rw [HW.out]
              go_roundw
              case rel => exact ⟨i + 1, _, _, es8, m2, K6, K4, rfl, rfl, rfl, HIL.out, ⟨HBJ.out, HIV.out, HSC.out.1, HSC.out.2, HMX.out, HL8.out⟩⟩
              case measure => simp only [RowKit.intOf]; have := HIL.out; omega
      · have i1 : ¬ ((i : Int) < L) := by omega
        obtain ⟨ba, bc, ebv⟩ := hlw.b.s.form
        subst ebv
        have HLW0 := hide hlw
        have HLL : Hid (es.length ≤ 100000000) := by show _ ≤ _; have := hlw.ln; have := HL.out; omega
        clear hik hil hlw HLW
        go_wp2_with fail
        go_loopw [18] (fun jv wz => ∃ j : Nat, jv = I j ∧ j ≤ es.length ∧ Bo W wz b r m K1 K3 (.slice ba es.length bc) es) (fun jv _ => es.length - (RowKit.intOf jv).toNat)
        case atStart => exact ⟨0, rfl, Nat.zero_le _, HLW0.out.b⟩
        case round =>
          obtain ⟨j, rfl, hjl, hb⟩ := hrel
          have HBJ := hide hb
          by_cases hj : j < es.length
          · have j1 : (j : Int) < es.length := Int.ofNat_lt.2 hj
            obtain ⟨x, hx⟩ : ∃ x, es[j]? = some x := ⟨_, List.getElem?_eq_getElem hj⟩
            obtain ⟨g, cap, e⟩ := hb.s.slice (by omega)
            injection e with e1 e2 e3
            subst e1 e3
            obtain ⟨el, hel, r1, r2⟩ := hb.e x (List.mem_of_getElem? hx)
            have y1 : wr.cell? ⟨g, j * 2, none⟩ = some (sv x.1) := by have := hb.s.at hx 0 (by decide); simpa using this
            have y2 : wr.cell? ⟨g, j * 2 + 1, none⟩ = some (sv x.2) := hb.s.at hx 1 (by decide)
            have KM : Hid (∀ V, G wr V → Calls Try.prog 7 #[sv x.1, sv x.2] V fun e W' => e = .returned (.bool true) ∧ G V W') := fun V hV => same_gen el _ _ V (r1.G hV) (r2.G hV) (by omega)
            have HY : Hid (∀ V, G wr V → V.cell? ⟨g, j * 2, none⟩ = some (sv x.1) ∧ V.cell? ⟨g, j * 2 + 1, none⟩ = some (sv x.2)) := fun V hV => ⟨by rw [hV.cell (cell_lt y1)]; exact y1, by rw [hV.cell (cell_lt y2)]; exact y2⟩
            obtain ⟨⟨a1, n1, c1⟩, ⟨a2, n2, c2⟩⟩ := x
            simp only [sv] at y1 y2 KM HY
            have HW2 : Hid (wrap64 ((j : Int) + 1) = (j : Int) + 1) := by show _ = _; have := HLL.out; unfold wrap64; omega
            have HJ := hide hj
            clear hjl hj hx e2 hb hel r1 r2
            clear y1 y2
            go_wp2_with fail
            refine wp_region_noPanic ?_
            refine wp_region_held_drew (S := (fun V => V.cell? ⟨g, j * 2, none⟩ = some (.slice a1 n1 c1) ∧ V.cell? ⟨g, j * 2 + 1, none⟩ = some (.slice a2 n2 c2))) (by kernel_rfl) (HY.out _ (G.drew (G.refl _))) (fun hHeld => ?_)
            refine wpAnyH_take (i := 0) (v := ?_) rfl (by kernel_rfl) (by kernel_rfl) (by kernel_rfl) (fun _ _ _ h => h) (Or.inl ⟨by rfl, ?_⟩) hHeld ?_
            rotate_left 1
            · (intro w hSw; (try dsimp only at hSw); go_simp; try with_reducible rfl)
            try simp only [Act.put, List.getElem_toArray, List.getElem_cons_zero, List.setIfInBounds_toArray, List.set_cons_zero, List.set_cons_succ]
            refine wpAnyH_take (i := 1) (v := ?_) rfl (by kernel_rfl) (by kernel_rfl) (by kernel_rfl) (fun _ _ _ h => h) (Or.inl ⟨by rfl, ?_⟩) hHeld ?_
            rotate_left 1
            · (intro w hSw; (try dsimp only at hSw); go_simp; try with_reducible rfl)
            try simp only [Act.put, List.getElem_toArray, List.getElem_cons_zero, List.getElem_cons_succ, List.setIfInBounds_toArray, List.set_cons_zero, List.set_cons_succ]
            refine wpAnyH_take (i := 2) (v := ?_) rfl (by kernel_rfl) (by kernel_rfl) (by kernel_rfl) (fun _ _ _ h => h) (Or.inl ⟨by rfl, ?_⟩) hHeld ?_
            rotate_left 1
            · (intro w hSw; (try dsimp only at hSw); go_simp; try with_reducible rfl)
            try simp only [Act.put, List.getElem_toArray, List.getElem_cons_zero, List.getElem_cons_succ, List.setIfInBounds_toArray, List.set_cons_zero, List.set_cons_succ]
            refine wpAnyH_take (i := 3) (v := ?_) rfl (by kernel_rfl) (by kernel_rfl) (by kernel_rfl) (fun _ _ _ h => h) (Or.inl ⟨by rfl, ?_⟩) hHeld ?_
            rotate_left 1
            · (intro w hSw; (try dsimp only at hSw); go_simp; try with_reducible rfl)
            try simp only [Act.put, List.getElem_toArray, List.getElem_cons_zero, List.getElem_cons_succ, List.setIfInBounds_toArray, List.set_cons_zero, List.set_cons_succ]
            refine wpAnyH_take (i := 4) (v := ?_) rfl (by kernel_rfl) (by kernel_rfl) (by kernel_rfl) (fun _ _ _ h => h) (Or.inl ⟨by rfl, ?_⟩) hHeld ?_
            rotate_left 1
            · (intro w hSw; obtain ⟨s1, s2⟩ := hSw; go_simp; try with_reducible rfl)
            try simp only [Act.put, List.getElem_toArray, List.getElem_cons_zero, List.getElem_cons_succ, List.setIfInBounds_toArray, List.set_cons_zero, List.set_cons_succ]
            refine wpAnyH_take (i := 5) (v := ?_) rfl (by kernel_rfl) (by kernel_rfl) (by kernel_rfl) (fun _ _ _ h => h) (Or.inl ⟨by rfl, ?_⟩) hHeld ?_
            rotate_left 1
            · (intro w hSw; (try dsimp only at hSw); go_simp; try with_reducible rfl)
            try simp only [Act.put, List.getElem_toArray, List.getElem_cons_zero, List.getElem_cons_succ, List.setIfInBounds_toArray, List.set_cons_zero, List.set_cons_succ]
            refine wpAnyH_take (i := 6) (v := ?_) rfl (by kernel_rfl) (by kernel_rfl) (by kernel_rfl) (fun _ _ _ h => h) (Or.inl ⟨by rfl, ?_⟩) hHeld ?_
            rotate_left 1
            · (intro w hSw; (try dsimp only at hSw); go_simp; try with_reducible rfl)
            try simp only [Act.put, List.getElem_toArray, List.getElem_cons_zero, List.getElem_cons_succ, List.setIfInBounds_toArray, List.set_cons_zero, List.set_cons_succ]
            refine wpAnyH_take (i := 7) (v := ?_) rfl (by kernel_rfl) (by kernel_rfl) (by kernel_rfl) (fun _ _ _ h => h) (Or.inl ⟨by rfl, ?_⟩) hHeld ?_
            rotate_left 1
            · (intro w hSw; (try dsimp only at hSw); go_simp; try with_reducible rfl)
            try simp only [Act.put, List.getElem_toArray, List.getElem_cons_zero, List.getElem_cons_succ, List.setIfInBounds_toArray, List.set_cons_zero, List.set_cons_succ]
            refine wpAnyH_take (i := 8) (v := ?_) rfl (by kernel_rfl) (by kernel_rfl) (by kernel_rfl) (fun _ _ _ h => h) (Or.inl ⟨by rfl, ?_⟩) hHeld ?_
            rotate_left 1
            · (intro w hSw; (try dsimp only at hSw); go_simp; try with_reducible rfl)
            try simp only [Act.put, List.getElem_toArray, List.getElem_cons_zero, List.getElem_cons_succ, List.setIfInBounds_toArray, List.set_cons_zero, List.set_cons_succ]
            refine wpAnyH_take (i := 9) (v := ?_) rfl (by kernel_rfl) (by kernel_rfl) (by kernel_rfl) (fun _ _ _ h => h) (Or.inl ⟨by rfl, ?_⟩) hHeld ?_
            rotate_left 1
            · (intro w hSw; obtain ⟨s1, s2⟩ := hSw; go_simp; try with_reducible rfl)
            try simp only [Act.put, List.getElem_toArray, List.getElem_cons_zero, List.getElem_cons_succ, List.setIfInBounds_toArray, List.set_cons_zero, List.set_cons_succ]
            refine wpAnyH_ready (rs := [10]) (by kernel_rfl) (by simp) (AllReadyH.cons rfl (fun K hK => ?_) AllReadyH.nil)
            clear hHeld
            go_simp
            refine (KM.out _ (G.drew (G.refl _))).mono ?_
            rintro e w9 ⟨rfl, hg9⟩
            have HG9 := hide (G.trans (G.drew (G.refl wr)) hg9)
            clear hg9
            go_wp2_with fail
            refine hK.out _ _ (HY.out _ HG9.out) (fun hHeld => ?_)
            clear hK K
            try simp only [Act.put, List.getElem_toArray, List.getElem_cons_zero, List.getElem_cons_succ, List.setIfInBounds_toArray, List.set_cons_zero, List.set_cons_succ]
            refine wpAnyH_take (i := 11) (v := ?_) rfl (by kernel_rfl) (by kernel_rfl) (by kernel_rfl) (fun _ _ _ h => h) (Or.inl ⟨by rfl, ?_⟩) hHeld ?_
            rotate_left 1
            · (intro w hSw; (try dsimp only at hSw); go_simp; try with_reducible rfl)
            try simp only [Act.put, List.getElem_toArray, List.getElem_cons_zero, List.getElem_cons_succ, List.setIfInBounds_toArray, List.set_cons_zero, List.set_cons_succ]
            refine wpAnyH_done (by kernel_rfl) ?_ _
            refine NoPanic.normal ?_
            have HB9 := hide (HBJ.out.G HG9.out)
            clear KM HY
            go_wp2_with fail
            rw [HW2.out]
            go_roundw
            case rel => exact ⟨j + 1, rfl, HJ.out, HB9.out⟩
            case measure => simp only [RowKit.intOf]; have := HJ.out; omega
          · have j1 : ¬ ((j : Int) < es.length) := by omega
            have KS := hide (stat_bo hb HLW0.out.iv)
            clear hjl hj hb
            go_wp2_with (first | (go_at_call 11; refine Hid.out ?_) | fail)
            unfold Hid
            refine KS.out.mono ?_
            rintro e w5 ⟨v4, v6, K5, rfl, hb1, p4, p6, ap, f4, f6, st1⟩
            have KT := hide (stat_same r m K3 v4 v6 w5 hb1.p.q HLW0.out.iv p4.s p6.s)
            have HG5 := hide hb1.g
            clear KS hb1 p4 p6 ap f4 f6 st1
            go_wp2_with (first | (go_at_call 12; refine Hid.out ?_) | fail)
            unfold Hid
            refine KT.out.mono ?_
            rintro e w6 ⟨rfl, hg6⟩
            have HG6 := hide (HG5.out.trans hg6)
            clear hg6 KT
            go_wp2_with fail
            go_ret
            exact ⟨rfl, HG6.out⟩
  · have KN := hide (new_no mo un W hf)
    have KR := hide (rnew_no mo un W hf)
    clear hf hS hL
    go_enter Try.func3, Try.ntmps3
    go_wp2_with (first | (go_at_call 4; with_reducible refine KN.out.mono ?_; rintro e w9 ⟨rfl, e9⟩; rw [e9]; clear e9 w9) | (go_at_call 5; with_reducible refine KR.out.mono ?_; rintro e w9 ⟨rfl, e9⟩; rw [e9]; clear e9 w9) | fail)
    go_ret
    exact ⟨rfl, G.refl _⟩
end Go.Proofs.Ytmclbnhbioficac
