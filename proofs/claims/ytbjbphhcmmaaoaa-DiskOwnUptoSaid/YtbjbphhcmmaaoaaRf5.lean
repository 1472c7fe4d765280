/- The document's disks: Flush, Crash. -/
import Derived.Test.YtbjbphhcmmaaoaaRf4
namespace Go.Proofs.Ytbjbphhcmmaaoaa
open Go.RowKit

/-- A row of writes stays where nothing but the row of bytes lb turns. -/
theorem RowW.lays {w w' : World} {v : Value} {l : List (Nat × List Nat)} {F : Nat → Prop} {lb : Nat} {xs : List Value} (h : RowW w v l F (fun k => k = lb)) (hb : Blk w lb 5 xs) (k : Chg (fun j => j = lb) w w') : RowW w' v l F (fun k => k = lb) := by
  obtain ⟨⟨ds, r1, r2, r3⟩, r4⟩ := h
  exact ⟨⟨ds, r1, own_chg r2 k (fun g hg e => by subst e; exact own_ne r2 hb (by decide) hg), fun i e d hi hd => ⟨(r3 i e d hi hd).1.chg k (r3 i e d hi hd).2.2, (r3 i e d hi hd).2⟩⟩, r4⟩
set_option maxRecDepth 100000 in
set_option maxHeartbeats 4000000 in
theorem rflush_nil (w : World) : Calls Try.prog 47 #[.pointer none] w fun e w' => e = .returned (.int .i64 1) ∧ w' = w := by
  go_enter Try.func47, Try.ntmps47
  go_wp2
  go_ret
  exact ⟨rfl, rfl⟩
set_option maxRecDepth 100000 in
set_option maxHeartbeats 4000000 in
theorem rcrash_nil (x : Value) (w : World) : Calls Try.prog 43 #[.pointer none, x] w fun e w' => e = .returned (.tuple #[.int .i64 0, .int .i64 1]) ∧ w' = w := by
  go_enter Try.func43, Try.ntmps43
  go_wp2
  go_ret2
  exact ⟨rfl, rfl⟩
set_option maxRecDepth 100000 in
set_option maxHeartbeats 4000000 in
theorem rflush_any (F : Nat → Prop) (m : DM) (p : Nat) (hB : m.few 549755813888) (w : World) (h : RD w F p m) : Calls Try.prog 47 #[.pointer (some ⟨p, 0, none⟩)] w fun e w' => e = .returned (.int .i64 m.flush.2) ∧ RD w' F p m.flush.1 ∧ Chg F w w' := by
  have HP := hide h
  have HFP := hide h.f
  have HW : Hid (m.flush = if m.spent.2 then ({ m.spent.1 with flushes := m.spent.1.flushes + 1, laid := m.spent.1.pend.foldl lay m.spent.1.laid, pend := [] }, 0) else (m.spent.1, 2)) := rfl
  cases hoff : m.off with
  | true =>
    have HS : Hid (m.spent = (m, false)) := by unfold Hid DM.spent; rw [hoff]; rfl
    obtain ⟨_, ⟨lb, ps, hb, _⟩, _⟩ := h
    have hc := hb.rheadC
    rw [hoff] at hc
    clear hb
    go_enter Try.func47, Try.ntmps47
    go_wp2
    go_ret
    rw [HW.out, HS.out]
    exact ⟨rfl, HP.out, Chg.refl _ _⟩
  | false =>
    have HOP := hide (rop_any F m p hoff w h)
    obtain ⟨ok0, ⟨lb0, ps0, hb0, _⟩, _⟩ := h
    have hc := hb0.rheadC
    rw [hoff] at hc
    clear hb0 ok0
    go_enter Try.func47, Try.ntmps47
    go_wp2_with fail
    refine HOP.out.mono ?_
    rintro e w2 ⟨rfl, hrd, hch, hsz⟩
    clear HOP hc
    cases hsp : m.spent.2 with
    | false =>
      have HSPF : Hid (m.flush = (m.spent.1, 2)) := by unfold Hid; rw [HW.out, hsp]; rfl
      have HRD := hide hrd
      have HCH := hide hch
      clear hrd hch HW
      go_wp2
      go_ret
      rw [HSPF.out]
      exact ⟨rfl, HRD.out, HCH.out.mono (fun k e => by subst e; exact HFP.out)⟩
    | true =>
      obtain ⟨m0, hm0⟩ : ∃ x, x = m.spent.1 := ⟨_, rfl⟩
      have HWR : Hid (m.flush = ({ m0 with flushes := m0.flushes + 1, laid := m0.pend.foldl lay m0.laid, pend := [] }, 0)) := by unfold Hid; rw [HW.out, hsp, hm0]; rfl
      have hs := spent_same m
      rw [← hm0] at hs hrd
      obtain ⟨hs1, hs2, hs3, hs4, hs5⟩ := hs
      have hwl := hB.f
      have hpl := hB.p
      rw [← hs5] at hwl
      rw [← hs3] at hpl
      have hwI : (m0.flushes : Int) + 1 ≤ 9223372036854775807 := by omega
      obtain ⟨ok0, ⟨lb, ps, hb2, hlb2, hrw2, hfl⟩, hfp⟩ := hrd
      obtain ⟨cp, cc, rfl⟩ := hrw2.slice
      have HO1 := hide ok0
      have HB2 := hide hb2
      have HLB := hide hlb2
      have HFL := hide hfl
      have HRW := hide hrw2
      have HCH := hide hch
      have HNE : Hid (p ≠ lb) := hb2.ne hlb2 (by decide)
      clear hrw2 hb2 hlb2 hfl ok0 hch HW hsp hm0 hs1 hs2 hs3 hs4 hs5 hsz
      go_wp2
      go_loopw [4] (fun i W => ∃ k : Nat, k ≤ m0.pend.length ∧ i = .int .i64 k ∧ Chg (fun j => j = lb) w2 W ∧ Blk W lb 5 (((m0.pend.take k).foldl lay m0.laid).map bv)) (fun i _ => m0.pend.length - (RowKit.intOf i).toNat)
      case atStart => exact ⟨0, by omega, rfl, Chg.refl _ _, HLB.out⟩
      case round =>
        obtain ⟨k, hk, rfl, hcw, hlw⟩ := hrel
        have HCW := hide hcw
        have HLW := hide hlw
        clear hcw hlw
        have HBW := hide (HB2.out.chg HCW.out HNE.out)
        have hc := HBW.out.rheadC
        by_cases hlt : k < m0.pend.length
        · obtain ⟨e, he⟩ : ∃ e, m0.pend[k]? = some e := ⟨_, List.getElem?_eq_getElem hlt⟩
          obtain ⟨e1, e2, e3⟩ := HO1.out.p e (List.mem_of_getElem? he)
          have hlo := lays_ok (n := m0.n) (m0.pend.take k) HO1.out.ll HO1.out.lb (fun f hf => HO1.out.p f (List.mem_of_mem_take hf))
          obtain ⟨g, d, rfl, _, hcc, hat, hdat, hbd, _, hnd, _⟩ := (HRW.out.lays HLB.out HCW.out).ent he
          have HLY := hide (rlay_any p lb d m0.n 98 _ _ e rfl HO1.out.n2 hlo.1 e1 e2 wr HBW.out HLW.out hbd HNE.out hnd)
          have HTF := hide (take_foldl he m0.laid)
          have hkI : (k : Int) < (m0.pend.length : Int) := by omega
          clear he hlo hbd e1 e2 e3
          go_wp2_with fail
          refine HLY.out.mono ?_
          rintro e' w5 ⟨rfl, hc5, hb5⟩
          have HC5 := hide (HCW.out.trans hc5)
          have HB5 := hide hb5
          clear hc5 hb5 HLY hc hat hdat
          go_wp2
          go_roundw
          case rel => exact ⟨k + 1, by omega, by go_num, HC5.out, by rw [HTF.out]; exact HB5.out⟩
          case measure => simp [RowKit.intOf]; omega
        · have hkI : ¬ (k : Int) < (m0.pend.length : Int) := by omega
          obtain rfl : k = m0.pend.length := by omega
          have hz := HBW.out.frozen
          go_wp2
          go_ret
          rw [HWR.out]
          have hlo := lays_ok (n := m0.n) m0.pend HO1.out.ll HO1.out.lb HO1.out.p
          have hcp : Chg (fun k => k = p) wr ((wr.setCell ⟨p, 1, none⟩ (.slice none 0 0)).setCell ⟨p, 5, none⟩ (.int .i64 ((m0.flushes : Int) + 1))) := (chg1 _ _ _ _).trans (chg1 _ _ _ _)
          refine ⟨rfl, ⟨⟨HO1.out.n1, HO1.out.n2, hlo.1, hlo.2, fun e he => by simp at he, HO1.out.o, HO1.out.f⟩, ⟨lb, .slice none 0 0, ?_, ?_, ⟨⟨[], rfl, World.ownsRow_nil _ _ _ _, fun i e d h => by simp at h⟩, fun g hg => by simp [Value.ownBlock] at hg⟩, HFL.out⟩, HFP.out⟩, ?_⟩
          · exact (HBW.out.set 1 (.slice none 0 0)).set 5 (.int .i64 ((m0.flushes : Int) + 1))
          · have := HLW.out.chg hcp (fun e => HNE.out e.symm)
            rw [List.take_length] at this
            exact this
          · exact ((HCH.out.mono (fun k e => by subst e; exact HFP.out)).trans (HCW.out.mono (fun k e => by subst e; exact HFL.out))).trans (hcp.mono (fun k e => by subst e; exact HFP.out))
set_option maxRecDepth 100000 in
set_option maxHeartbeats 4000000 in
theorem rcrash_any (F : Nat → Prop) (m : DM) (p : Nat) (kv : Value) (ks : List Bool) (hB : m.few 549755813888) (hkl : ks.length ≤ 4611686018427387904) (w : World) (h : RD w F p m) (hk : Keeps w kv ks) (hkF : ∀ j, Value.blk kv j → ¬ F j) : Calls Try.prog 43 #[.pointer (some ⟨p, 0, none⟩), kv] w fun e w' => e = .returned (.tuple #[.int .i64 (m.crash ks).2, .int .i64 0]) ∧ RD w' F p (m.crash ks).1 ∧ Chg F w w' := by
  obtain ⟨ok, ⟨lb, ps, hb, hlb, hrw, fl⟩, hf⟩ := h
  obtain ⟨cp, cc, rfl⟩ := hrw.slice
  have HLB := hide hlb
  have HRW := hide hrw
  have HOK := hide ok
  have HFL := hide fl
  have HFP := hide hf
  have HHB := hide hb
  have HKV := hide hk
  have HKF := hide hkF
  have hc := hb.rheadC
  have hpl := hB.p
  obtain ⟨ka, kc, rfl, hkc, _⟩ := hk
  have HNPL : Hid (p ≠ lb) := HHB.out.ne HLB.out (by decide)
  clear hlb hrw ok hb hkF
  go_enter Try.func43, Try.ntmps43
  go_wp2
  clear hc
  go_loopw [7, 6] (fun i c W => ∃ k : Nat, k ≤ m.pend.length ∧ k ≤ ks.length ∧ i = .int .i64 k ∧ c = .int .i64 (crashK ks m.pend m.laid k).2 ∧ Chg (fun j => j = lb) w W ∧ Blk W lb 5 ((crashK ks m.pend m.laid k).1.map bv)) (fun i _ _ => m.pend.length - (RowKit.intOf i).toNat)
  case atStart => exact ⟨0, by omega, by omega, rfl, rfl, Chg.refl _ _, HLB.out⟩
  case round =>
    obtain ⟨k, hk, hk2, rfl, rfl, hcw, hlw⟩ := hrel
    have HCW := hide hcw
    have HLW := hide hlw
    clear hcw hlw
    have HBW := hide (HHB.out.chg HCW.out HNPL.out)
    have hc := HBW.out.rheadC
    have HEND : Hid (∀ W, Chg (fun j => j = lb) w W → Blk W lb 5 ((crashK ks m.pend m.laid m.pend.length).1.map bv) → RD ((((W.setCell ⟨p, 1, none⟩ (.slice none 0 0)).setCell ⟨p, 3, none⟩ (.bool false)).setCell ⟨p, 2, none⟩ (.int .i64 (-1)))) F p (m.crash ks).1 ∧ Chg F w ((((W.setCell ⟨p, 1, none⟩ (.slice none 0 0)).setCell ⟨p, 3, none⟩ (.bool false)).setCell ⟨p, 2, none⟩ (.int .i64 (-1))))) := fun W hcW hbW => by
      have hcp : Chg (fun k => k = p) W ((((W.setCell ⟨p, 1, none⟩ (.slice none 0 0)).setCell ⟨p, 3, none⟩ (.bool false)).setCell ⟨p, 2, none⟩ (.int .i64 (-1)))) := ((chg1 _ _ _ _).trans (chg1 _ _ _ _)).trans (chg1 _ _ _ _)
      refine ⟨⟨DM.crash_ok HOK.out ks, ⟨lb, .slice none 0 0, ?_, hbW.chg hcp (fun e => HNPL.out e.symm), ⟨⟨[], rfl, World.ownsRow_nil _ _ _ _, fun i e d h => by simp [DM.crash] at h⟩, fun g hg => by simp [Value.ownBlock] at hg⟩, HFL.out⟩, HFP.out⟩, (hcW.mono (fun k e => by subst e; exact HFL.out)).trans (hcp.mono (fun k e => by subst e; exact HFP.out))⟩
      exact (((HHB.out.chg hcW HNPL.out).set 1 (.slice none 0 0)).set 3 (.bool false)).set 2 (.int .i64 (-1))
    by_cases hlt : k < m.pend.length
    · have hkI : (k : Int) < (m.pend.length : Int) := by omega
      by_cases hkk : k < ks.length
      · have hkkI : (k : Int) < (ks.length : Int) := by omega
        obtain ⟨b, hb⟩ : ∃ b, ks[k]? = some b := ⟨_, List.getElem?_eq_getElem hkk⟩
        obtain ⟨e, he⟩ : ∃ e, m.pend[k]? = some e := ⟨_, List.getElem?_eq_getElem hlt⟩
        obtain ⟨e1, e2, e3⟩ := HOK.out.p e (List.mem_of_getElem? he)
        have HTF := hide (crashK_step (ks := ks) (l := m.laid) he)
        obtain ⟨hl1, _, hl3⟩ := crashK_ok (ks := ks) (n := m.n) HOK.out.ll HOK.out.lb HOK.out.p k
        obtain ⟨kb, ko, rfl, hkcell⟩ : ∃ kb ko, ka = some ⟨kb, ko, none⟩ ∧ wr.cell? ⟨kb, ko + k, none⟩ = some (.bool b) := by
          obtain ⟨ka', kc', h1, h2, h3⟩ := HKV.out.chg HCW.out (fun j hj hjl => HKF.out j hj (by subst hjl; exact HFL.out))
          cases h1
          rcases h3 with h3 | ⟨kb, ko, h4, h5⟩
          · rw [h3] at hb; simp at hb
          · exact ⟨kb, ko, h4, h5 k b hb⟩
        obtain ⟨g, d, rfl, _, hcc, hat, hdat, hbd, _, hnd, _⟩ := (HRW.out.lays HLB.out HCW.out).ent he
        cases b with
        | false =>
          have HTK : Hid (crashK ks m.pend m.laid (k + 1) = crashK ks m.pend m.laid k) := by unfold Hid; rw [HTF.out, hb]; simp
          clear hb he hbd HEND
          go_wp2
          go_roundw
          case rel => exact ⟨k + 1, by omega, by omega, by go_num, by rw [HTK.out], HCW.out, by rw [HTK.out]; exact HLW.out⟩
          case measure => simp [RowKit.intOf]; omega
        | true =>
          have HTK : Hid (crashK ks m.pend m.laid (k + 1) = (lay (crashK ks m.pend m.laid k).1 e, (crashK ks m.pend m.laid k).2 + 1)) := by unfold Hid; rw [HTF.out, hb]; simp
          have HLY := hide (rlay_any p lb d m.n 98 _ _ e rfl HOK.out.n2 hl1 e1 e2 wr HBW.out HLW.out hbd HNPL.out hnd)
          clear hb he hbd e1 e2 e3 HTF HEND hl1
          generalize crashK ks m.pend m.laid k = r at HLW HTK HLY hl3 ⊢
          obtain ⟨l, c⟩ := r
          simp only at HLW HTK HLY hl3
          have hcI : (c : Int) + 1 ≤ 9223372036854775807 := by omega
          go_wp2_with fail
          refine HLY.out.mono ?_
          rintro e' w5 ⟨rfl, hc5, hb5⟩
          have HC5 := hide (HCW.out.trans hc5)
          have HB5 := hide hb5
          clear hc5 hb5 HLY hc hat hdat hkcell
          go_wp2
          go_roundw
          case rel => exact ⟨k + 1, by omega, by omega, by go_num, by rw [HTK.out]; go_num, HC5.out, by rw [HTK.out]; exact HB5.out⟩
          case measure => simp [RowKit.intOf]; omega
      · have hkkI : ¬ (k : Int) < (ks.length : Int) := by omega
        obtain rfl : k = ks.length := by omega
        have HSP : Hid (crashK ks m.pend m.laid ks.length = crashK ks m.pend m.laid m.pend.length) := (crashK_stop _ (by omega)).symm
        have hz := HBW.out.frozen
        go_wp2
        go_ret2
        have hl := HLW.out
        rw [HSP.out] at hl
        exact ⟨by rw [HSP.out]; rfl, HEND.out wr HCW.out hl⟩
    · have hkI : ¬ (k : Int) < (m.pend.length : Int) := by omega
      obtain rfl : k = m.pend.length := by omega
      have hz := HBW.out.frozen
      go_wp2
      go_ret2
      exact ⟨rfl, HEND.out wr HCW.out HLW.out⟩
end Go.Proofs.Ytbjbphhcmmaaoaa
