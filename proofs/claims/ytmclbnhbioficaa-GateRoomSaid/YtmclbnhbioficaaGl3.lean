/- GateRoom. -/
import Derived.Test.YtmclbnhbioficaaGl2
namespace Go.Proofs.Ytmclbnhbioficaa
open Go.RowKit

theorem step_mu (m : GM) (k id : Int) (y : Bool) : (m.stepM k id y).mo = m.mo ∧ (m.stepM k id y).un = m.un := by
  unfold GM.stepM
  split
  · unfold GM.subM
    split
    · exact ⟨rfl, rfl⟩
    · split
      · exact ⟨rfl, rfl⟩
      · split
        · exact ⟨rfl, rfl⟩
        · exact ⟨rfl, rfl⟩
  · split
    · have := adm_keeps m.q.length m
      exact ⟨this.2.2.1, this.2.2.2.1⟩
    · split
      · unfold GM.endM
        split <;> exact ⟨rfl, rfl⟩
      · split
        · exact ⟨rfl, rfl⟩
        · split
          · unfold GM.pickM
            split
            · exact ⟨rfl, rfl⟩
            · split <;> exact ⟨rfl, rfl⟩
          · exact ⟨rfl, rfl⟩
theorem adm_le : ∀ (n : Nat) (m : GM), (m.adm n).1.length ≤ n
  | 0, _ => Nat.le_refl _
  | n + 1, m => by
    unfold GM.adm
    cases hq : m.q with
    | nil => exact Nat.zero_le _
    | cons x t =>
      by_cases hr : m.room = true
      · simp only [hr, if_true, List.length_cons]
        exact Nat.succ_le_succ (adm_le n (m.ent x t))
      · simp only [hr]
        exact Nat.zero_le _
theorem adm_ins : ∀ (n : Nat) (m : GM), (m.adm n).2.ins.length = m.ins.length + (m.adm n).1.length
  | 0, _ => by simp [GM.adm]
  | n + 1, m => by
    unfold GM.adm
    cases hq : m.q with
    | nil => simp
    | cons x t =>
      by_cases hr : m.room = true
      · simp only [hr, if_true, List.length_cons]
        rw [adm_ins n (m.ent x t)]
        simp [GM.ent]; omega
      · simp [hr]
/-- Behind an Admit nobody queues who could enter. -/
theorem adm_full : ∀ (n : Nat) (m : GM), m.q.length ≤ n → (m.adm n).2.q = [] ∨ (m.adm n).2.room = false
  | 0, m, h => .inl (List.eq_nil_of_length_eq_zero (by simpa [GM.adm] using h))
  | n + 1, m, h => by
    unfold GM.adm
    cases hq : m.q with
    | nil => exact .inl hq
    | cons x t =>
      by_cases hr : m.room = true
      · simp only [hr, if_true]
        refine adm_full n (m.ent x t) ?_
        rw [hq] at h
        simp [GM.ent] at h ⊢
        omega
      · simp only [hr]
        exact .inr (by simpa using hr)
/-- How many are inside behind a step that is no End. -/
theorem step_ins (m : GM) (k id : Int) (y : Bool) (h : k ≠ 3) : (m.stepM k id y).ins.length = m.ins.length + (m.doL k).length ∧ (m.stepM k id y).lg = if k = 4 then 0 else m.lg := by
  unfold GM.stepM GM.doL
  by_cases h1 : k = 1
  · subst h1
    simp only [if_true]
    unfold GM.subM
    split
    · simp
    · split
      · simp
      · split
        · simp
        · simp [GM.sub]
  · rw [if_neg h1]
    by_cases h2 : k = 2
    · subst h2
      simp only [if_true]
      exact ⟨adm_ins _ _, (adm_keeps m.q.length m).2.2.2.2⟩
    · rw [if_neg h2, if_neg h2, if_neg h]
      by_cases h4 : k = 4
      · simp [h4]
      · rw [if_neg h4, if_neg h4]
        by_cases h6 : k = 6
        · rw [if_pos h6]
          unfold GM.pickM
          split
          · simp [GM.pick0]
          · split
            · simp [GM.pick]
            · simp
        · rw [if_neg h6]; simp
set_option maxRecDepth 100000 in
set_option maxHeartbeats 1000000 in
theorem gateRoom_law (mo un : Int) (v : Value) (L : Nat) (X : Nat → Int × Int × Bool) (W : World) (hS : Scr W v L X) (hL : L ≤ 9000000000000) :
    Calls Try.prog 6 #[I mo, I un, v] W fun e W' => e = .returned (.bool true) ∧ G W W' := by
  by_cases hf : Fit mo un
  · obtain ⟨a, cap, rfl, hS⟩ := hS
    have KF := hide (fits_yes mo un W hf)
    have KB := hide (begun_any mo un W hf)
    have HF := hide hf
    have HS := hide hS
    have HL := hide hL
    clear hf hS hL
    go_enter Try.func6, Try.ntmps6
    go_wp2_with (first | (go_at_call 19; with_reducible refine KF.out.mono ?_; rintro e w9 ⟨rfl, e9⟩; rw [e9]; clear e9 w9) | (go_at_call 20; refine Hid.out ?_) | fail)
    unfold Hid
    refine KB.out.mono ?_
    rintro e w1 ⟨b, K, rfl, hp, hg1, hk1⟩
    have KS := hide (stat_any b (beg mo un) K w1 hp (iv_beg HF.out))
    have HG1 := hide hg1
    have HK1 := hide hk1
    clear hp hg1 hk1 KB KF
    go_wp2_with (first | (go_at_call 12; refine Hid.out ?_) | fail)
    unfold Hid
    refine KS.out.mono ?_
    rintro e w2 ⟨v4, v6, rfl, hv4, hv6, hf4, hf6, hap, K2, hp2, hs2, hn2⟩
    obtain ⟨a4, c4, e4⟩ := hv4.form
    obtain ⟨a6, c6, e6⟩ := hv6.form
    generalize (beg mo un).ids.length = n4 at e4
    generalize (beg mo un).qids.length = n6 at e6
    subst e4 e6
    have HP2 := hide hp2
    have HG2 := hide (hs2.toG HG1.out HK1.out)
    have HA2 := hide ((G.refl w2).alloc (.cells #[.slice a4 n4 c4, .slice a6 n6 c6, I 0, I un, I mo] 33))
    clear hv4 hv6 hf4 hf6 hap hp2 hs2 hn2 KS
    have e1 : (beg mo un).lg = 0 := rfl
    have e2 : (beg mo un).un = un := rfl
    have e3 : (beg mo un).mo = mo := rfl
    rw [e1, e2, e3]
    clear e1 e2 e3
    go_wp2_with fail
    go_loopw [13, 11, 12] (fun iv lv nv wr => ∃ (i : Nat) (m : GM) (K : Nat → Prop), iv = I i ∧ lv = I m.lg ∧ nv = I (m.ins.length : Int) ∧ i ≤ L ∧ PG wr b 0 m K ∧ G W wr ∧ (∀ k, K k → W.heap.size ≤ k) ∧ Iv m ∧ m.sp ≤ i + 1 ∧ m.ck ≤ i ∧ m.mo = mo ∧ m.un = un) (fun iv _ _ _ => L - (RowKit.intOf iv).toNat)
    case atStart => exact ⟨0, beg mo un, K2, rfl, rfl, rfl, Nat.zero_le _, HP2.out.G HA2.out, HG2.out.1.trans HA2.out, HG2.out.2, iv_beg HF.out, by simp [beg], by simp [beg], rfl, rfl⟩
    case round =>
      obtain ⟨i, m, K1, rfl, rfl, rfl, hik, hp, hg, hK, hiv, hsp, hck, hmo, hun⟩ := hrel
      by_cases hil : i < L
      · rcases HS.out with h0 | ⟨sb, off, rfl, hops⟩
        · omega
        obtain ⟨x1, x2, x3⟩ := hops.G hg i hil
        generalize X i = xx at x1 x2 x3
        obtain ⟨xk, xi, xy⟩ := xx
        dsimp only at x1 x2 x3
        have i1 : (i : Int) < L := Int.ofNat_lt.2 hil
        have HW : Hid (wrap64 ((i : Int) + 1) = (i : Int) + 1) := by show _ = _; have := HL.out; unfold wrap64; omega
        have HIL := hide hil
        have hA := (G.refl wr).alloc (.cells #[I xk, I xi, .bool xy] 46)
        have hX := Blk.new wr [I xk, I xi, .bool xy] 46
        have HX1 := hide hX
        have hcx1 := hX.cell
        have HG1 := hide (hg.trans hA)
        have HKK := hide hK
        have HNO : Hid (¬ K1 wr.heap.size) := fun q => Nat.lt_irrefl _ (hp.lt _ q)
        have HMO := hide hmo
        have HUN := hide hun
        have HSL : Hid ((m.stepM xk xi xy).sp ≤ ((i + 1 : Nat) : Int) + 1 ∧ (m.stepM xk xi xy).ck ≤ ((i + 1 : Nat) : Int)) := by
          have := step_le m xk xi xy
          exact ⟨by omega, by omega⟩
        clear hmo hun
        by_cases hk3 : xk = 3
        · subst hk3
          have KE := hide (end_any b m K1 (wr.alloc (.cells #[I 3, I xi, .bool xy] 46)) xi xy (hp.G hA) hiv)
          have HIV2 := hide (iv_step hiv 3 xi xy)
          have HST : Hid (m.stepM 3 xi xy = m.endM xi xy) := rfl
          have HMI : Hid ((m.ins.length : Int) ≤ 16 ∧ 0 ≤ m.lg ∧ m.lg ≤ 64) := by
            have h1 := hiv.most; have h2 := hiv.mo2; have h3 := hiv.lg0; have h4 := hiv.room; have h5 := hiv.un2
            exact ⟨by omega, by omega, by omega⟩
          clear hik hil hp hg hK hiv hsp hck hops hA hX
          by_cases hin : xi ∈ m.ids
          · have HEA : Hid (m.endA xi = 0) := by show _ = _; unfold GM.endA; rw [if_pos hin]
            rw [HEA.out] at KE
            have HIE : Hid (wrap64 ((m.ins.length : Int) - 1) = (((m.stepM 3 xi xy).ins.length : Nat) : Int)) := by
              show _ = _
              have h1 : (m.stepM 3 xi xy).ins.length = m.ins.length - 1 := by rw [HST.out]; unfold GM.endM; rw [if_pos hin]; exact cutL_len (idx_ins hin)
              have h2 := idx_ins hin
              have h3 := HMI.out.1
              rw [h1]
              unfold wrap64
              omega
            have HLE : Hid ((m.stepM 3 xi xy).lg = if xy = true then m.lg + 1 else m.lg) := by show _ = _; rw [HST.out]; unfold GM.endM; rw [if_pos hin]; rfl
            clear hin
            cases xy with
            | true =>
              have HLT : Hid (wrap64 (m.lg + 1) = (m.stepM 3 xi true).lg) := by
                show _ = _
                have h1 := HLE.out
                rw [if_pos rfl] at h1
                have h3 := HMI.out
                rw [h1]
                unfold wrap64
                omega
              go_wp2_with (first | (go_at_call 15; refine Hid.out ?_) | fail)
              unfold Hid
              generalize wr.alloc (.cells #[I 3, I xi, .bool true] 46) = w1 at KE HX1 HG1 hcx1 ⊢
              refine KE.out.mono ?_
              rintro e w2 ⟨rfl, K2, hp2, hs2⟩
              rw [← HST.out] at hp2
              have HP2 := hide hp2
              have HX2 := hide (HX1.out.chg hs2.chg HNO.out)
              have HG2 := hide (hs2.toG HG1.out HKK.out)
              have HNO2 : Hid (¬ K2 wr.heap.size) := fun q => (hs2.nw _ q).elim HNO.out (fun r => Nat.not_le.2 HX1.out.lt r)
              have hx2 := HX2.out.cell
              clear hp2 hs2 KE hcx1
              have hmu := step_mu m 3 xi true
              have KS := hide (stat_any b (m.stepM 3 xi true) K2 w2 HP2.out HIV2.out)
              have hroom := HIV2.out.room
              have hmost := HIV2.out.most
              have hlg0 := HIV2.out.lg0
              have hun := HIV2.out.un2
              have HFUL := hide (show 3 = 2 → (m.stepM 3 xi true).q = [] ∨ (m.stepM 3 xi true).room = false from fun e => by cases e)
              rw [hmu.1, HMO.out] at hmost
              rw [hmu.2, HUN.out] at hroom hun
              have HMU : Hid ((m.stepM 3 xi true).mo = mo ∧ (m.stepM 3 xi true).un = un) := ⟨hmu.1.trans HMO.out, hmu.2.trans HUN.out⟩
              clear hmu
              generalize m.stepM 3 xi true = m2 at KS hroom hmost hlg0 hun HP2 HIV2 HFUL HMU HSL HIE HLT ⊢
              have HWI : Hid (wrap64 (m2.ins.length : Int) = (m2.ins.length : Int)) := by show _ = _; unfold wrap64; omega
              go_wp2_with (first | (go_at_call 12; refine Hid.out ?_) | fail)
              unfold Hid
              rw [HLT.out, HIE.out, HWI.out]
              refine KS.out.mono ?_
              rintro e w3 ⟨v4, v6, rfl, hv4, hv6, hf4, hf6, hap, K3, hp3, hs3, hn3⟩
              obtain ⟨a4, c4, e4⟩ := hv4.form
              obtain ⟨a6, c6, e6⟩ := hv6.form
              rw [List.length_map] at e4 e6
              subst e4 e6
              have hx3 := (HX2.out.chg hs3.chg HNO2.out)
              have hcx := hx3.cell
              have hxl := hx3.lt
              have HP3 := hide hp3
              have HG3 := hide (hs3.toG HG2.out.1 HG2.out.2)
              have HA3 := hide (((G.refl w3).alloc (.cells #[.slice a4 m2.ins.length c4, .slice a6 m2.q.length c6, I m2.lg, I m2.un, I m2.mo] 33)))
              have n1 : ¬ ((m2.ins.length : Int) < 0) := by omega
              have n2 : ¬ ((m2.ins.length : Int) > mo) := by omega
              have n3 : wrap64 ((m2.ins.length : Int) + m2.lg) = (m2.ins.length : Int) + m2.lg := by unfold wrap64; omega
              have n4 : ¬ ((m2.ins.length : Int) + m2.lg > un) := by omega
              have HI2 := hide HIV2.out
              clear hroom hmost hlg0 hun hv4 hv6 hf4 hf6 hap hp3 hs3 hn3 hx3 KS HX2 HP2 HIV2
              have kb2 : ((3 : Int) == 2) = false := by decide
              clear HFUL
              go_wp2_with fail
              rw [HW.out]
              go_roundw
              case rel => exact ⟨i + 1, m2, K3, rfl, rfl, rfl, HIL.out, HP3.out.G HA3.out, HG3.out.1.trans HA3.out, HG3.out.2, HI2.out, HSL.out.1, HSL.out.2, HMU.out.1, HMU.out.2⟩
              case measure => simp only [RowKit.intOf]; have := HIL.out; omega
            | false =>
              have HLF : Hid (m.lg = (m.stepM 3 xi false).lg) := by
                show _ = _
                have h1 := HLE.out
                rw [if_neg (by decide)] at h1
                exact h1.symm
              go_wp2_with (first | (go_at_call 15; refine Hid.out ?_) | fail)
              unfold Hid
              generalize wr.alloc (.cells #[I 3, I xi, .bool false] 46) = w1 at KE HX1 HG1 hcx1 ⊢
              refine KE.out.mono ?_
              rintro e w2 ⟨rfl, K2, hp2, hs2⟩
              rw [← HST.out] at hp2
              have HP2 := hide hp2
              have HX2 := hide (HX1.out.chg hs2.chg HNO.out)
              have HG2 := hide (hs2.toG HG1.out HKK.out)
              have HNO2 : Hid (¬ K2 wr.heap.size) := fun q => (hs2.nw _ q).elim HNO.out (fun r => Nat.not_le.2 HX1.out.lt r)
              have hx2 := HX2.out.cell
              clear hp2 hs2 KE hcx1
              have hmu := step_mu m 3 xi false
              have KS := hide (stat_any b (m.stepM 3 xi false) K2 w2 HP2.out HIV2.out)
              have hroom := HIV2.out.room
              have hmost := HIV2.out.most
              have hlg0 := HIV2.out.lg0
              have hun := HIV2.out.un2
              have HFUL := hide (show 3 = 2 → (m.stepM 3 xi false).q = [] ∨ (m.stepM 3 xi false).room = false from fun e => by cases e)
              rw [hmu.1, HMO.out] at hmost
              rw [hmu.2, HUN.out] at hroom hun
              have HMU : Hid ((m.stepM 3 xi false).mo = mo ∧ (m.stepM 3 xi false).un = un) := ⟨hmu.1.trans HMO.out, hmu.2.trans HUN.out⟩
              clear hmu
              generalize m.stepM 3 xi false = m2 at KS hroom hmost hlg0 hun HP2 HIV2 HFUL HMU HSL HIE HLF ⊢
              have HWI : Hid (wrap64 (m2.ins.length : Int) = (m2.ins.length : Int)) := by show _ = _; unfold wrap64; omega
              go_wp2_with (first | (go_at_call 12; refine Hid.out ?_) | fail)
              unfold Hid
              rw [HLF.out, HIE.out, HWI.out]
              refine KS.out.mono ?_
              rintro e w3 ⟨v4, v6, rfl, hv4, hv6, hf4, hf6, hap, K3, hp3, hs3, hn3⟩
              obtain ⟨a4, c4, e4⟩ := hv4.form
              obtain ⟨a6, c6, e6⟩ := hv6.form
              rw [List.length_map] at e4 e6
              subst e4 e6
              have hx3 := (HX2.out.chg hs3.chg HNO2.out)
              have hcx := hx3.cell
              have hxl := hx3.lt
              have HP3 := hide hp3
              have HG3 := hide (hs3.toG HG2.out.1 HG2.out.2)
              have HA3 := hide (((G.refl w3).alloc (.cells #[.slice a4 m2.ins.length c4, .slice a6 m2.q.length c6, I m2.lg, I m2.un, I m2.mo] 33)))
              have n1 : ¬ ((m2.ins.length : Int) < 0) := by omega
              have n2 : ¬ ((m2.ins.length : Int) > mo) := by omega
              have n3 : wrap64 ((m2.ins.length : Int) + m2.lg) = (m2.ins.length : Int) + m2.lg := by unfold wrap64; omega
              have n4 : ¬ ((m2.ins.length : Int) + m2.lg > un) := by omega
              have HI2 := hide HIV2.out
              clear hroom hmost hlg0 hun hv4 hv6 hf4 hf6 hap hp3 hs3 hn3 hx3 KS HX2 HP2 HIV2
              have kb2 : ((3 : Int) == 2) = false := by decide
              clear HFUL
              go_wp2_with fail
              rw [HW.out]
              go_roundw
              case rel => exact ⟨i + 1, m2, K3, rfl, rfl, rfl, HIL.out, HP3.out.G HA3.out, HG3.out.1.trans HA3.out, HG3.out.2, HI2.out, HSL.out.1, HSL.out.2, HMU.out.1, HMU.out.2⟩
              case measure => simp only [RowKit.intOf]; have := HIL.out; omega
          · have HEA : Hid (m.endA xi = 152) := by show _ = _; unfold GM.endA; rw [if_neg hin]
            rw [HEA.out] at KE
            have HLF : Hid (m.lg = (m.stepM 3 xi xy).lg) := by show _ = _; rw [HST.out]; unfold GM.endM; rw [if_neg hin]
            have HIF : Hid ((m.ins.length : Int) = (((m.stepM 3 xi xy).ins.length : Nat) : Int)) := by show _ = _; rw [HST.out]; unfold GM.endM; rw [if_neg hin]
            clear hin
            go_wp2_with (first | (go_at_call 15; refine Hid.out ?_) | fail)
            unfold Hid
            generalize wr.alloc (.cells #[I 3, I xi, .bool xy] 46) = w1 at KE HX1 HG1 hcx1 ⊢
            refine KE.out.mono ?_
            rintro e w2 ⟨rfl, K2, hp2, hs2⟩
            rw [← HST.out] at hp2
            have HP2 := hide hp2
            have HX2 := hide (HX1.out.chg hs2.chg HNO.out)
            have HG2 := hide (hs2.toG HG1.out HKK.out)
            have HNO2 : Hid (¬ K2 wr.heap.size) := fun q => (hs2.nw _ q).elim HNO.out (fun r => Nat.not_le.2 HX1.out.lt r)
            have hx2 := HX2.out.cell
            clear hp2 hs2 KE hcx1
            have hmu := step_mu m 3 xi xy
            have KS := hide (stat_any b (m.stepM 3 xi xy) K2 w2 HP2.out HIV2.out)
            have hroom := HIV2.out.room
            have hmost := HIV2.out.most
            have hlg0 := HIV2.out.lg0
            have hun := HIV2.out.un2
            have HFUL := hide (show 3 = 2 → (m.stepM 3 xi xy).q = [] ∨ (m.stepM 3 xi xy).room = false from fun e => by cases e)
            rw [hmu.1, HMO.out] at hmost
            rw [hmu.2, HUN.out] at hroom hun
            have HMU : Hid ((m.stepM 3 xi xy).mo = mo ∧ (m.stepM 3 xi xy).un = un) := ⟨hmu.1.trans HMO.out, hmu.2.trans HUN.out⟩
            clear hmu
            generalize m.stepM 3 xi xy = m2 at KS hroom hmost hlg0 hun HP2 HIV2 HFUL HMU HSL HLF HIF ⊢
            have HWI : Hid (wrap64 (m2.ins.length : Int) = (m2.ins.length : Int)) := by show _ = _; unfold wrap64; omega
            go_wp2_with (first | (go_at_call 12; refine Hid.out ?_) | fail)
            unfold Hid
            rw [HLF.out, HIF.out, HWI.out]
            refine KS.out.mono ?_
            rintro e w3 ⟨v4, v6, rfl, hv4, hv6, hf4, hf6, hap, K3, hp3, hs3, hn3⟩
            obtain ⟨a4, c4, e4⟩ := hv4.form
            obtain ⟨a6, c6, e6⟩ := hv6.form
            rw [List.length_map] at e4 e6
            subst e4 e6
            have hx3 := (HX2.out.chg hs3.chg HNO2.out)
            have hcx := hx3.cell
            have hxl := hx3.lt
            have HP3 := hide hp3
            have HG3 := hide (hs3.toG HG2.out.1 HG2.out.2)
            have HA3 := hide (((G.refl w3).alloc (.cells #[.slice a4 m2.ins.length c4, .slice a6 m2.q.length c6, I m2.lg, I m2.un, I m2.mo] 33)))
            have n1 : ¬ ((m2.ins.length : Int) < 0) := by omega
            have n2 : ¬ ((m2.ins.length : Int) > mo) := by omega
            have n3 : wrap64 ((m2.ins.length : Int) + m2.lg) = (m2.ins.length : Int) + m2.lg := by unfold wrap64; omega
            have n4 : ¬ ((m2.ins.length : Int) + m2.lg > un) := by omega
            have HI2 := hide HIV2.out
            clear hroom hmost hlg0 hun hv4 hv6 hf4 hf6 hap hp3 hs3 hn3 hx3 KS HX2 HP2 HIV2
            have kb2 : ((3 : Int) == 2) = false := by decide
            clear HFUL
            go_wp2_with fail
            rw [HW.out]
            go_roundw
            case rel => exact ⟨i + 1, m2, K3, rfl, rfl, rfl, HIL.out, HP3.out.G HA3.out, HG3.out.1.trans HA3.out, HG3.out.2, HI2.out, HSL.out.1, HSL.out.2, HMU.out.1, HMU.out.2⟩
            case measure => simp only [RowKit.intOf]; have := HIL.out; omega
        · by_cases hk4 : xk = 4
          · subst hk4
            have k3 : ((4 : Int) == 3) = false := beq_eq_false_iff_ne.2 hk3
            have KD := hide (do_any b m K1 4 xi xy (wr.alloc (.cells #[I 4, I xi, .bool xy] 46)) (hp.G hA) hiv (by have := HL.out; omega) (by have := HL.out; omega))
            have HSI := hide (step_ins m 4 xi xy hk3)
            have HDL : Hid ((m.doL 4).length ≤ 64) := by
              show _ ≤ _
              unfold GM.doL
              split
              · exact Nat.le_trans (adm_le _ _) (by have := hiv.crowd; omega)
              · simp
            have HIV2 := hide (iv_step hiv 4 xi xy)
            have HMI : Hid ((m.ins.length : Int) ≤ 16) := by show _ ≤ _; have h1 := hiv.most; have h2 := hiv.mo2; omega
            clear hik hil hp hg hK hiv hsp hck hops hA hX
            go_wp2_with (first | (go_at_call 21; refine Hid.out ?_) | fail)
            unfold Hid
            generalize wr.alloc (.cells #[I 4, I xi, .bool xy] 46) = w1 at KD HX1 HG1 hcx1 ⊢
            refine KD.out.mono ?_
            rintro e w2 ⟨v2, rfl, hv2, hf2, K2, hp2, hs2, hn2⟩
            obtain ⟨a2, c2, e2⟩ := hv2.form
            generalize hn2' : (m.doL 4).length = n2' at e2
            subst e2
            have HP2 := hide hp2
            have HX2 := hide (HX1.out.chg hs2.chg HNO.out)
            have HG2 := hide (hs2.toG HG1.out HKK.out)
            have HNO2 : Hid (¬ K2 wr.heap.size) := fun q => (hs2.nw _ q).elim HNO.out (fun r => Nat.not_le.2 HX1.out.lt r)
            have hx2 := HX2.out.cell
            have HIN : Hid (wrap64 ((m.ins.length : Int) + (n2' : Int)) = (((m.stepM 4 xi xy).ins.length : Nat) : Int)) := by show _ = _; have h1 := HSI.out.1; have h2 := HDL.out; have h3 := HMI.out; unfold wrap64; omega
            have HLG2 := hide HSI.out.2
            clear hv2 hf2 hp2 hs2 hn2 KD hn2' hcx1
            have HLG4 : Hid ((m.stepM 4 xi xy).lg = 0) := by show _ = _; have := HLG2.out; simpa using this
            clear HLG2 HSI
            have hmu := step_mu m 4 xi xy
            have KS := hide (stat_any b (m.stepM 4 xi xy) K2 w2 HP2.out HIV2.out)
            have hroom := HIV2.out.room
            have hmost := HIV2.out.most
            have hlg0 := HIV2.out.lg0
            have hun := HIV2.out.un2
            have HFUL := hide (show 4 = 2 → (m.stepM 4 xi xy).q = [] ∨ (m.stepM 4 xi xy).room = false from fun e => by cases e)
            rw [hmu.1, HMO.out] at hmost
            rw [hmu.2, HUN.out] at hroom hun
            have HMU : Hid ((m.stepM 4 xi xy).mo = mo ∧ (m.stepM 4 xi xy).un = un) := ⟨hmu.1.trans HMO.out, hmu.2.trans HUN.out⟩
            clear hmu
            generalize m.stepM 4 xi xy = m2 at KS hroom hmost hlg0 hun HP2 HIV2 HFUL HMU HSL HIN HLG4 ⊢
            have HWI : Hid (wrap64 (m2.ins.length : Int) = (m2.ins.length : Int)) := by show _ = _; unfold wrap64; omega
            rw [HLG4.out] at KS
            go_wp2_with (first | (go_at_call 12; refine Hid.out ?_) | fail)
            unfold Hid
            rw [HIN.out]
            refine KS.out.mono ?_
            rintro e w3 ⟨v4, v6, rfl, hv4, hv6, hf4, hf6, hap, K3, hp3, hs3, hn3⟩
            obtain ⟨a4, c4, e4⟩ := hv4.form
            obtain ⟨a6, c6, e6⟩ := hv6.form
            rw [List.length_map] at e4 e6
            subst e4 e6
            have hx3 := (HX2.out.chg hs3.chg HNO2.out)
            have hcx := hx3.cell
            have hxl := hx3.lt
            have HP3 := hide hp3
            have HG3 := hide (hs3.toG HG2.out.1 HG2.out.2)
            have HA3 := hide (((G.refl w3).alloc (.cells #[.slice a4 m2.ins.length c4, .slice a6 m2.q.length c6, I 0, I m2.un, I m2.mo] 33)))
            have n1 : ¬ ((m2.ins.length : Int) < 0) := by omega
            have n2 : ¬ ((m2.ins.length : Int) > mo) := by omega
            have n3 := HWI.out
            have n4 : ¬ ((m2.ins.length : Int) > un) := by have := HLG4.out; omega
            have HI2 := hide HIV2.out
            clear hroom hmost hlg0 hun hv4 hv6 hf4 hf6 hap hp3 hs3 hn3 hx3 KS HX2 HP2 HIV2
            have kb2 : ((4 : Int) == 2) = false := by decide
            clear HFUL
            go_wp2_with fail
            rw [HW.out]
            go_roundw
            case rel => exact ⟨i + 1, m2, K3, rfl, by rw [HLG4.out], rfl, HIL.out, HP3.out.G HA3.out, HG3.out.1.trans HA3.out, HG3.out.2, HI2.out, HSL.out.1, HSL.out.2, HMU.out.1, HMU.out.2⟩
            case measure => simp only [RowKit.intOf]; have := HIL.out; omega
          · have k4 : (xk == 4) = false := beq_eq_false_iff_ne.2 hk4
            by_cases hk2 : xk = 2
            · subst hk2
              have k3 : ((2 : Int) == 3) = false := beq_eq_false_iff_ne.2 hk3
              have KD := hide (do_any b m K1 2 xi xy (wr.alloc (.cells #[I 2, I xi, .bool xy] 46)) (hp.G hA) hiv (by have := HL.out; omega) (by have := HL.out; omega))
              have HSI := hide (step_ins m 2 xi xy hk3)
              have HDL : Hid ((m.doL 2).length ≤ 64) := by
                show _ ≤ _
                unfold GM.doL
                split
                · exact Nat.le_trans (adm_le _ _) (by have := hiv.crowd; omega)
                · simp
              have HIV2 := hide (iv_step hiv 2 xi xy)
              have HMI : Hid ((m.ins.length : Int) ≤ 16) := by show _ ≤ _; have h1 := hiv.most; have h2 := hiv.mo2; omega
              clear hik hil hp hg hK hiv hsp hck hops hA hX
              go_wp2_with (first | (go_at_call 21; refine Hid.out ?_) | fail)
              unfold Hid
              generalize wr.alloc (.cells #[I 2, I xi, .bool xy] 46) = w1 at KD HX1 HG1 hcx1 ⊢
              refine KD.out.mono ?_
              rintro e w2 ⟨v2, rfl, hv2, hf2, K2, hp2, hs2, hn2⟩
              obtain ⟨a2, c2, e2⟩ := hv2.form
              generalize hn2' : (m.doL 2).length = n2' at e2
              subst e2
              have HP2 := hide hp2
              have HX2 := hide (HX1.out.chg hs2.chg HNO.out)
              have HG2 := hide (hs2.toG HG1.out HKK.out)
              have HNO2 : Hid (¬ K2 wr.heap.size) := fun q => (hs2.nw _ q).elim HNO.out (fun r => Nat.not_le.2 HX1.out.lt r)
              have hx2 := HX2.out.cell
              have HIN : Hid (wrap64 ((m.ins.length : Int) + (n2' : Int)) = (((m.stepM 2 xi xy).ins.length : Nat) : Int)) := by show _ = _; have h1 := HSI.out.1; have h2 := HDL.out; have h3 := HMI.out; unfold wrap64; omega
              have HLG2 := hide HSI.out.2
              clear hv2 hf2 hp2 hs2 hn2 KD hn2' hcx1
              have HLF : Hid (m.lg = (m.stepM 2 xi xy).lg) := by show _ = _; have := HLG2.out; simpa using this.symm
              clear HLG2 HSI
              have hmu := step_mu m 2 xi xy
              have KS := hide (stat_any b (m.stepM 2 xi xy) K2 w2 HP2.out HIV2.out)
              have hroom := HIV2.out.room
              have hmost := HIV2.out.most
              have hlg0 := HIV2.out.lg0
              have hun := HIV2.out.un2
              have HFUL := hide (show 2 = 2 → (m.stepM 2 xi xy).q = [] ∨ (m.stepM 2 xi xy).room = false from fun e => by exact adm_full _ _ (Nat.le_refl _))
              rw [hmu.1, HMO.out] at hmost
              rw [hmu.2, HUN.out] at hroom hun
              have HMU : Hid ((m.stepM 2 xi xy).mo = mo ∧ (m.stepM 2 xi xy).un = un) := ⟨hmu.1.trans HMO.out, hmu.2.trans HUN.out⟩
              clear hmu
              generalize m.stepM 2 xi xy = m2 at KS hroom hmost hlg0 hun HP2 HIV2 HFUL HMU HSL HIN HLF ⊢
              have HWI : Hid (wrap64 (m2.ins.length : Int) = (m2.ins.length : Int)) := by show _ = _; unfold wrap64; omega
              go_wp2_with (first | (go_at_call 12; refine Hid.out ?_) | fail)
              unfold Hid
              rw [HIN.out, HLF.out]
              refine KS.out.mono ?_
              rintro e w3 ⟨v4, v6, rfl, hv4, hv6, hf4, hf6, hap, K3, hp3, hs3, hn3⟩
              obtain ⟨a4, c4, e4⟩ := hv4.form
              obtain ⟨a6, c6, e6⟩ := hv6.form
              rw [List.length_map] at e4 e6
              subst e4 e6
              have hx3 := (HX2.out.chg hs3.chg HNO2.out)
              have hcx := hx3.cell
              have hxl := hx3.lt
              have HP3 := hide hp3
              have HG3 := hide (hs3.toG HG2.out.1 HG2.out.2)
              have HA3 := hide (((G.refl w3).alloc (.cells #[.slice a4 m2.ins.length c4, .slice a6 m2.q.length c6, I m2.lg, I m2.un, I m2.mo] 33)))
              have n1 : ¬ ((m2.ins.length : Int) < 0) := by omega
              have n2 : ¬ ((m2.ins.length : Int) > mo) := by omega
              have n3 : wrap64 ((m2.ins.length : Int) + m2.lg) = (m2.ins.length : Int) + m2.lg := by unfold wrap64; omega
              have n4 : ¬ ((m2.ins.length : Int) + m2.lg > un) := by omega
              have HI2 := hide HIV2.out
              clear hroom hmost hlg0 hun hv4 hv6 hf4 hf6 hap hp3 hs3 hn3 hx3 KS HX2 HP2 HIV2
              by_cases q0 : m2.q.length = 0
              · have d0 : decide ((0 : Int) < (m2.q.length : Int)) = false := decide_eq_false (by omega)
                have d0' : ¬ (0 < m2.q.length) := by omega
                clear q0 HFUL
                go_wp2_with fail
                rw [HW.out]
                go_roundw
                case rel => exact ⟨i + 1, m2, K3, rfl, rfl, rfl, HIL.out, HP3.out.G HA3.out, HG3.out.1.trans HA3.out, HG3.out.2, HI2.out, HSL.out.1, HSL.out.2, HMU.out.1, HMU.out.2⟩
                case measure => simp only [RowKit.intOf]; have := HIL.out; omega
              · have d0 : (0 : Int) < (m2.q.length : Int) := by omega
                have d0' : 0 < m2.q.length := by omega
                have hnr : ¬ ((m2.ins.length : Int) < mo) ∨ ¬ ((m2.ins.length : Int) + m2.lg < un) := by
                  rcases HFUL.out (by trivial) with r | r
                  · rw [r] at q0; simp at q0
                  · unfold GM.room at r
                    rw [HMU.out.1, HMU.out.2] at r
                    simp at r
                    by_cases hc : (m2.ins.length : Int) < mo
                    · exact .inr (by have := r hc; omega)
                    · exact .inl hc
                clear q0 HFUL
                by_cases c1 : (m2.ins.length : Int) < mo
                · have c2 : ¬ ((m2.ins.length : Int) + m2.lg < un) := hnr.resolve_left (fun q => q c1)
                  clear hnr
                  go_wp2_with fail
                  rw [HW.out]
                  go_roundw
                  case rel => exact ⟨i + 1, m2, K3, rfl, rfl, rfl, HIL.out, HP3.out.G HA3.out, HG3.out.1.trans HA3.out, HG3.out.2, HI2.out, HSL.out.1, HSL.out.2, HMU.out.1, HMU.out.2⟩
                  case measure => simp only [RowKit.intOf]; have := HIL.out; omega
                · clear hnr
                  go_wp2_with fail
                  rw [HW.out]
                  go_roundw
                  case rel => exact ⟨i + 1, m2, K3, rfl, rfl, rfl, HIL.out, HP3.out.G HA3.out, HG3.out.1.trans HA3.out, HG3.out.2, HI2.out, HSL.out.1, HSL.out.2, HMU.out.1, HMU.out.2⟩
                  case measure => simp only [RowKit.intOf]; have := HIL.out; omega
            · have HK2 : Hid ((xk == 2) = false) := beq_eq_false_iff_ne.2 hk2
              have k3 : (xk == 3) = false := beq_eq_false_iff_ne.2 hk3
              have KD := hide (do_any b m K1 xk xi xy (wr.alloc (.cells #[I xk, I xi, .bool xy] 46)) (hp.G hA) hiv (by have := HL.out; omega) (by have := HL.out; omega))
              have HSI := hide (step_ins m xk xi xy hk3)
              have HDL : Hid ((m.doL xk).length ≤ 64) := by
                show _ ≤ _
                unfold GM.doL
                split
                · exact Nat.le_trans (adm_le _ _) (by have := hiv.crowd; omega)
                · simp
              have HIV2 := hide (iv_step hiv xk xi xy)
              have HMI : Hid ((m.ins.length : Int) ≤ 16) := by show _ ≤ _; have h1 := hiv.most; have h2 := hiv.mo2; omega
              clear hik hil hp hg hK hiv hsp hck hops hA hX
              go_wp2_with (first | (go_at_call 21; refine Hid.out ?_) | fail)
              unfold Hid
              generalize wr.alloc (.cells #[I xk, I xi, .bool xy] 46) = w1 at KD HX1 HG1 hcx1 ⊢
              refine KD.out.mono ?_
              rintro e w2 ⟨v2, rfl, hv2, hf2, K2, hp2, hs2, hn2⟩
              obtain ⟨a2, c2, e2⟩ := hv2.form
              generalize hn2' : (m.doL xk).length = n2' at e2
              subst e2
              have HP2 := hide hp2
              have HX2 := hide (HX1.out.chg hs2.chg HNO.out)
              have HG2 := hide (hs2.toG HG1.out HKK.out)
              have HNO2 : Hid (¬ K2 wr.heap.size) := fun q => (hs2.nw _ q).elim HNO.out (fun r => Nat.not_le.2 HX1.out.lt r)
              have hx2 := HX2.out.cell
              have HIN : Hid (wrap64 ((m.ins.length : Int) + (n2' : Int)) = (((m.stepM xk xi xy).ins.length : Nat) : Int)) := by show _ = _; have h1 := HSI.out.1; have h2 := HDL.out; have h3 := HMI.out; unfold wrap64; omega
              have HLG2 := hide HSI.out.2
              clear hv2 hf2 hp2 hs2 hn2 KD hn2' hcx1
              have HLF : Hid (m.lg = (m.stepM xk xi xy).lg) := by show _ = _; have := HLG2.out; rw [if_neg hk4] at this; exact this.symm
              clear HLG2 HSI
              have hmu := step_mu m xk xi xy
              have KS := hide (stat_any b (m.stepM xk xi xy) K2 w2 HP2.out HIV2.out)
              have hroom := HIV2.out.room
              have hmost := HIV2.out.most
              have hlg0 := HIV2.out.lg0
              have hun := HIV2.out.un2
              have HFUL := hide (show xk = 2 → (m.stepM xk xi xy).q = [] ∨ (m.stepM xk xi xy).room = false from fun e => by subst e; exact adm_full _ _ (Nat.le_refl _))
              rw [hmu.1, HMO.out] at hmost
              rw [hmu.2, HUN.out] at hroom hun
              have HMU : Hid ((m.stepM xk xi xy).mo = mo ∧ (m.stepM xk xi xy).un = un) := ⟨hmu.1.trans HMO.out, hmu.2.trans HUN.out⟩
              clear hmu
              generalize m.stepM xk xi xy = m2 at KS hroom hmost hlg0 hun HP2 HIV2 HFUL HMU HSL HIN HLF ⊢
              have HWI : Hid (wrap64 (m2.ins.length : Int) = (m2.ins.length : Int)) := by show _ = _; unfold wrap64; omega
              go_wp2_with (first | (go_at_call 12; refine Hid.out ?_) | fail)
              unfold Hid
              rw [HIN.out, HLF.out]
              refine KS.out.mono ?_
              rintro e w3 ⟨v4, v6, rfl, hv4, hv6, hf4, hf6, hap, K3, hp3, hs3, hn3⟩
              obtain ⟨a4, c4, e4⟩ := hv4.form
              obtain ⟨a6, c6, e6⟩ := hv6.form
              rw [List.length_map] at e4 e6
              subst e4 e6
              have hx3 := (HX2.out.chg hs3.chg HNO2.out)
              have hcx := hx3.cell
              have hxl := hx3.lt
              have HP3 := hide hp3
              have HG3 := hide (hs3.toG HG2.out.1 HG2.out.2)
              have HA3 := hide (((G.refl w3).alloc (.cells #[.slice a4 m2.ins.length c4, .slice a6 m2.q.length c6, I m2.lg, I m2.un, I m2.mo] 33)))
              have n1 : ¬ ((m2.ins.length : Int) < 0) := by omega
              have n2 : ¬ ((m2.ins.length : Int) > mo) := by omega
              have n3 : wrap64 ((m2.ins.length : Int) + m2.lg) = (m2.ins.length : Int) + m2.lg := by unfold wrap64; omega
              have n4 : ¬ ((m2.ins.length : Int) + m2.lg > un) := by omega
              have HI2 := hide HIV2.out
              clear hroom hmost hlg0 hun hv4 hv6 hf4 hf6 hap hp3 hs3 hn3 hx3 KS HX2 HP2 HIV2
              have kb2 : ((xk : Int) == 2) = false := HK2.out
              clear HFUL
              go_wp2_with fail
              rw [HW.out]
              go_roundw
              case rel => exact ⟨i + 1, m2, K3, rfl, rfl, rfl, HIL.out, HP3.out.G HA3.out, HG3.out.1.trans HA3.out, HG3.out.2, HI2.out, HSL.out.1, HSL.out.2, HMU.out.1, HMU.out.2⟩
              case measure => simp only [RowKit.intOf]; have := HIL.out; omega
      · have i1 : ¬ ((i : Int) < L) := by omega
        have HG := hide hg
        clear hik hil hp hg hK hiv hsp hck hmo hun
        go_wp2_with fail
        go_ret
        exact ⟨rfl, HG.out⟩
  · have KN := hide (new_no mo un W hf)
    have KF := hide (fits_no mo un W hf)
    clear hf hS hL
    go_enter Try.func6, Try.ntmps6
    go_wp2_with (first | (go_at_call 19; with_reducible refine KF.out.mono ?_; rintro e w9 ⟨rfl, e9⟩; rw [e9]; clear e9 w9) | (go_at_call 9; with_reducible refine KN.out.mono ?_; rintro e w9 ⟨rfl, e9⟩; rw [e9]; clear e9 w9) | fail)
    go_ret
    exact ⟨rfl, G.refl _⟩
end Go.Proofs.Ytmclbnhbioficaa
