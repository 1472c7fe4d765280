/- GateFair. -/
import Derived.Test.YtmclbnhbioficaaGl7
namespace Go.Proofs.Ytmclbnhbioficaa
open Go.RowKit

theorem step_mo (m : GM) (k id : Int) (y : Bool) : (m.stepM k id y).mo = m.mo := by
  unfold GM.stepM
  split
  · unfold GM.subM
    split
    · rfl
    · split
      · rfl
      · split <;> rfl
  · split
    · exact (adm_keeps m.q.length m).2.2.1
    · split
      · unfold GM.endM
        split <;> rfl
      · split
        · rfl
        · split
          · unfold GM.pickM
            split
            · rfl
            · split <;> rfl
          · rfl
/-- Who is followed behind a step that is neither an End nor a turn. -/
theorem fa_step {m : GM} {al : List (Int × Int)} (h : Fa m al) (hv : Iv m) (k id : Int) (y : Bool) (h3 : k ≠ 3) (h6 : k ≠ 6) : Fa (m.stepM k id y) (al ++ (m.doL k).map fun i => (i, 0)) := by
  unfold GM.stepM GM.doL
  by_cases h1 : k = 1
  · subst h1
    simp only [if_true]
    have : Fa (m.subM id) al := by
      unfold GM.subM
      split
      · exact h
      · split
        · exact h
        · split
          · exact h
          · exact fa_same h rfl rfl rfl
    simpa using this
  · rw [if_neg h1]
    by_cases h2 : k = 2
    · rw [if_pos h2, if_pos h2]
      exact fa_adm _ h hv
    · rw [if_neg h2, if_neg h2, if_neg h3]
      by_cases h4 : k = 4
      · rw [if_pos h4]
        have : Fa { m with lg := 0 } al := fa_same h rfl rfl rfl
        simpa using this
      · rw [if_neg h4, if_neg h6]
        simpa using h
set_option maxRecDepth 100000 in
set_option maxHeartbeats 2000000 in
theorem gateFair_law (mo un : Int) (v : Value) (L : Nat) (X : Nat → Int × Int × Bool) (v' : Value) (L' : Nat) (X' : Nat → Int × Int × Bool) (W : World) (hS : Scr W v L X) (hL : L ≤ 9000000000000) (hS' : Scr W v' L' X') (hL' : L' ≤ 9000000000000) :
    Calls Try.prog 7 #[I mo, I un, v, v'] W fun e W' => e = .returned (.bool true) ∧ G W W' := by
  by_cases hf : Fit mo un
  · obtain ⟨a, cap, rfl, hS⟩ := hS
    obtain ⟨a', cap', rfl, hS'⟩ := hS'
    have KF := hide (fits_yes mo un W hf)
    have KB := hide (begun_any mo un W hf)
    have HF := hide hf
    have HS := hide hS
    have HL := hide hL
    have HS' := hide hS'
    have HL' := hide hL'
    clear hf hS hL hS' hL'
    go_enter Try.func7, Try.ntmps7
    go_wp2_with (first | (go_at_call 19; with_reducible refine KF.out.mono ?_; rintro e w9 ⟨rfl, e9⟩; rw [e9]; clear e9 w9) | (go_at_call 20; refine Hid.out ?_) | fail)
    unfold Hid
    refine KB.out.mono ?_
    rintro e w1 ⟨b, K, rfl, hp, hg1, hk1⟩
    have H1 := hide (And.intro hp (And.intro hg1 hk1))
    clear hp hg1 hk1 KB KF
    go_wp2_with fail
    go_loopw [12] (fun iv wr => ∃ (i : Nat) (m : GM) (K : Nat → Prop), iv = I i ∧ i ≤ L ∧ PG wr b 0 m K ∧ G W wr ∧ (∀ k, K k → W.heap.size ≤ k) ∧ Iv m ∧ m.sp ≤ i + 1 ∧ m.ck ≤ i ∧ m.mo = mo) (fun iv _ => L - (RowKit.intOf iv).toNat)
    case atStart => exact ⟨0, beg mo un, K, rfl, Nat.zero_le _, H1.out.1, H1.out.2.1, H1.out.2.2, iv_beg HF.out, by simp [beg], by simp [beg], rfl⟩
    case round =>
      obtain ⟨i, m, K1, rfl, hik, hp, hg, hK, hiv, hsp, hck, hmo⟩ := hrel
      by_cases hil : i < L
      · rcases HS.out with h0 | ⟨sb, off, rfl, hops⟩
        · omega
        obtain ⟨x1, x2, x3⟩ := hops.G hg i hil
        generalize X i = xx at x1 x2 x3
        obtain ⟨xk, xi, xy⟩ := xx
        dsimp only at x1 x2 x3
        have i1 : (i : Int) < L := Int.ofNat_lt.2 hil
        have HW : Hid (wrap64 ((i : Int) + 1) = (i : Int) + 1) := by show _ = _; have := HL.out; unfold wrap64; omega
        have KD := hide (do_any b m K1 xk xi xy wr hp hiv (by have := HL.out; omega) (by have := HL.out; omega))
        have HR : Hid (Iv (m.stepM xk xi xy) ∧ (m.stepM xk xi xy).sp ≤ ((i + 1 : Nat) : Int) + 1 ∧ (m.stepM xk xi xy).ck ≤ ((i + 1 : Nat) : Int) ∧ (m.stepM xk xi xy).mo = mo) := by
          have := step_le m xk xi xy
          exact ⟨iv_step hiv _ _ _, by omega, by omega, by rw [step_mo]; exact hmo⟩
        have HG := hide hg
        have HKK := hide hK
        have HIL := hide hil
        clear hik hil hp hg hK hiv hsp hck hops hmo
        go_wp2_with (first | (go_at_call 21; refine Hid.out ?_) | fail)
        unfold Hid
        refine KD.out.mono ?_
        rintro e w3 ⟨v3, rfl, hv3, hf3, K3, hp3, hs3, hn3⟩
        obtain ⟨hg3, hk3⟩ := hs3.toG HG.out HKK.out
        have H3 := hide (And.intro hp3 (And.intro hg3 hk3))
        clear hv3 hf3 hp3 hs3 hn3 hg3 hk3 KD
        go_wp2_with fail
        rw [HW.out]
        go_roundw
        case rel => exact ⟨i + 1, _, K3, rfl, HIL.out, H3.out.1, H3.out.2.1, H3.out.2.2, HR.out.1, HR.out.2.1, HR.out.2.2.1, HR.out.2.2.2⟩
        case measure => simp only [RowKit.intOf]; have := HIL.out; omega
      · have i1 : ¬ ((i : Int) < L) := by omega
        have KS := hide (stat_any b m K1 wr hp hiv)
        have HIV := hide hiv
        have HGW := hide (And.intro hg hK)
        have HSP : Hid (m.sp ≤ L + 1 ∧ m.ck ≤ L ∧ m.mo = mo) := ⟨by omega, by omega, hmo⟩
        clear hik hil hp hg hK hiv hsp hck hmo
        go_wp2_with (first | (go_at_call 12; refine Hid.out ?_) | fail)
        unfold Hid
        refine KS.out.mono ?_
        rintro e w3 ⟨v4, v6, rfl, hv4, hv6, hf4, hf6, hap, K3, hp3, hs3, hn3⟩
        obtain ⟨a4, c4, e4⟩ := hv4.form
        have hil2 : m.ids.length ≤ 16 := by rw [List.length_map]; have h1 := HIV.out.most; have h2 := HIV.out.mo2; omega
        have HN4 := hide hil2
        have HV4 := hide hv4
        have HE4 := hide e4
        have HP3 := hide hp3
        have HG3 := hide (hs3.toG HGW.out.1 HGW.out.2)
        clear hv4 hv6 hf4 hf6 hap hp3 hs3 hn3 KS e4 hil2 HGW
        go_wp2_with fail
        rw [fld0]
        have hU := Blk.new w3 [I 0, I 0] 50
        have HU : Hid (SwU (w3.alloc (.cells #[I 0, I 0] 50)) (.slice (some ⟨w3.heap.size, 0, none⟩) 1 1) [(0, 0)]) := .inr ⟨w3.heap.size, 1, [], rfl, hU, rfl, Nat.le_refl _, of_decide_eq_true (by kernel_rfl)⟩
        have HGU := hide ((G.refl w3).alloc (.cells #[I 0, I 0] 50))
        clear hU
        rw [HE4.out]
        generalize hid4 : m.ids = ids at HV4 HE4 HN4
        have HID := hide hid4
        clear hid4
        go_wp2_with fail
        generalize w3.alloc (.cells #[I 0, I 0] 50) = wu at HU HGU ⊢
        go_loopw [15, 14] (fun jv av wr => ∃ (j : Nat) (ca : Option Addr) (cc : Nat), jv = I j ∧ av = .slice ca (j + 1) cc ∧ j ≤ ids.length ∧ SwU wr (.slice ca (j + 1) cc) ((0, 0) :: (ids.take j).map fun i => (i, 0)) ∧ G w3 wr ∧ Fresh w3 (.slice ca (j + 1) cc)) (fun jv _ _ => ids.length - (RowKit.intOf jv).toNat)
        case atStart => exact ⟨0, _, 1, rfl, rfl, Nat.zero_le _, HU.out, HGU.out, fun k e => by simp [Value.ownBlock] at e; omega⟩
        case round =>
          obtain ⟨j, ca, cc, rfl, rfl, hjl, hs, hg, hfr⟩ := hrel
          by_cases hj : j < ids.length
          · obtain ⟨y, hy⟩ : ∃ y, ids[j]? = some y := ⟨_, List.getElem?_eq_getElem hj⟩
            have hvz := HV4.out.G hg
            rw [HE4.out] at hvz
            obtain ⟨g2, q2, e3⟩ := hvz.slice (by omega)
            injection e3 with e4 _ e5
            subst e4 e5
            have y1 : wr.cell? ⟨g2, j, none⟩ = some (I y) := by have := hvz.at hy 0 (by decide); simpa using this
            have j1 : (j : Int) < ids.length := Int.ofNat_lt.2 hj
            have HW2 : Hid (wrap64 ((j : Int) + 1) = (j : Int) + 1) := by show _ = _; have := HN4.out; unfold wrap64; omega
            obtain ⟨v7, w7, hrun, hs7, hch, hob⟩ := app_turn hs (by simp; have := HN4.out; omega) y
            obtain ⟨a7, c7, e7⟩ := hs7.form
            have hl7 : ((0, 0) :: (ids.take j).map (fun i => (i, (0 : Int))) ++ [(y, 0)]).length = (j + 1) + 1 := by simp; omega
            rw [hl7] at e7
            subst e7
            have hA := hg.alloc (.cells #[I y, I 0] 50)
            have hls : (0, 0) :: (ids.take j).map (fun i => (i, (0 : Int))) ++ [(y, 0)] = (0, 0) :: (ids.take (j + 1)).map fun i => (i, 0) := by rw [List.take_add_one, hy]; simp
            rw [hls] at hs7
            have HR : Hid (SwU w7 (.slice a7 ((j + 1) + 1) c7) ((0, 0) :: (ids.take (j + 1)).map fun i => (i, 0)) ∧ G w3 w7 ∧ Fresh w3 (.slice a7 ((j + 1) + 1) c7)) := ⟨hs7, ⟨hch.os.trans hA.os, hch.tape.trans hA.tape, hch.output.trans hA.output, Nat.le_trans hA.size hch.size, fun k hk => (hch.block k (Nat.lt_of_lt_of_le hk hA.size) (fun e => Nat.not_le.2 hk (hfr k e))).trans (hA.block k hk)⟩, fun k e => (hob k e).elim (hfr k) (fun q => Nat.le_trans hA.size q)⟩
            have HRUN := hide hrun
            have HJ := hide hj
            clear hjl hj hy hvz hs hg hfr hrun hs7 hch hob hl7 hA hls
            go_wp2_with (first | (at_builtin; refine wpList_append_run rfl _ _ 51 rfl (.slice ca (j + 1) cc) (.slice (some ⟨wr.heap.size, 0, none⟩) 1 1) rfl rfl HRUN.out ?_) | fail)
            rw [HW2.out]
            go_roundw
            case rel => exact ⟨j + 1, a7, c7, rfl, rfl, HJ.out, HR.out.1, HR.out.2.1, HR.out.2.2⟩
            case measure => simp only [RowKit.intOf]; have := HJ.out; omega
          · have j1 : ¬ ((j : Int) < ids.length) := by omega
            have e1 : ids.take j = ids := List.take_of_length_le (by omega)
            have hjn : j + 1 = ((0, 0) :: ids.map fun i => (i, (0 : Int))).length := by simp; omega
            rw [e1, hjn] at hs
            rw [hjn] at hfr
            have HFZ : Hid (Fz W wr b L mo (.slice ca ((0, 0) :: ids.map fun i => (i, (0 : Int))).length cc) ((0, 0) :: ids.map fun i => (i, (0 : Int))) m K3) := by
              refine ⟨HP3.out.G hg, HG3.out.1.trans hg, HG3.out.2, HIV.out, HSP.out.1, HSP.out.2.1, ?_, HSP.out.2.2, hs, fun k e => Nat.le_trans HG3.out.1.size (hfr k e), fun k e q => Nat.not_le.2 (HP3.out.lt k q) (hfr k e)⟩
              have := fa_start HIV.out
              have e2 : (m.all.map fun x => (x.1.1, (0 : Int))) = (0, 0) :: ids.map fun i => (i, (0 : Int)) := by rw [← HID.out]; simp [GM.all, swp, GM.ids]
              rw [e2] at this
              exact this
            have HJN := hide hjn
            generalize (0, 0) :: ids.map (fun i => (i, (0 : Int))) = al0 at HFZ HJN
            clear hjl hj hs hg hfr e1 hjn
            go_wp2_with fail
            rw [HJN.out]
            go_loopw [16, 14] (fun iv av wr => ∃ (i : Nat) (ca : Option Addr) (cc : Nat) (al : List (Int × Int)) (m : GM) (K : Nat → Prop), iv = I i ∧ av = (.slice ca al.length cc) ∧ i ≤ L' ∧ Fz W wr b (L + i) mo (.slice ca al.length cc) al m K) (fun iv _ _ => L' - (RowKit.intOf iv).toNat)
            case atStart => exact ⟨0, ca, cc, al0, m, K3, rfl, rfl, Nat.zero_le _, HFZ.out⟩
            case round =>
              obtain ⟨i, ca, cc, al, m, K1, rfl, rfl, hik, hfz⟩ := hrel
              by_cases hil : i < L'
              · rcases HS'.out with h0 | ⟨sb, off, rfl, hops⟩
                · omega
                obtain ⟨x1, x2, x3⟩ := hops.G hfz.g i hil
                generalize X' i = xx at x1 x2 x3
                obtain ⟨xk, xi, xy⟩ := xx
                dsimp only at x1 x2 x3
                have i1 : (i : Int) < L' := Int.ofNat_lt.2 hil
                have HW : Hid (wrap64 ((i : Int) + 1) = (i : Int) + 1) := by show _ = _; have := HL'.out; unfold wrap64; omega
                have HIL := hide hil
                have hA := (G.refl wr).alloc (.cells #[I xk, I xi, .bool xy] 46)
                have HX1 := hide (Blk.new wr [I xk, I xi, .bool xy] 46)
                have HOA := hide (hfz.G hA)
                have HNO : Hid (¬ K1 wr.heap.size) := fun q => Nat.lt_irrefl _ (hfz.p.lt _ q)
                have HNC : Hid ((Value.slice ca al.length cc).ownBlock ≠ some wr.heap.size) := fun q => Nat.lt_irrefl _ (hfz.c.lt q)
                have HB : Hid (m.sp < 4611686018427387904 ∧ m.ck < 4611686018427387904) := by have h1 := hfz.sp; have h2 := hfz.ck; have h3 := HL.out; have h4 := HL'.out; exact ⟨by omega, by omega⟩
                have HAL : Hid (al.length ≤ 17) := fa_len hfz.fa hfz.iv
                clear hik hil hops hA hfz
                by_cases hk6 : xk = 6
                · subst hk6
                  have KN := hide (next_gate b m K1 (wr.alloc (.cells #[I 6, I xi, .bool xy] 46)) HOA.out.p)
                  go_wp2_with (first | (go_at_call 18; refine Hid.out ?_) | fail)
                  unfold Hid
                  generalize wr.alloc (.cells #[I 6, I xi, .bool xy] 46) = w1 at KN HX1 HOA ⊢
                  refine KN.out.mono ?_
                  rintro e w2 ⟨n, rfl, hn, K2, hp2, hs2⟩
                  obtain ⟨r1, r2, r3, r4⟩ := HOA.out.row hs2
                  obtain ⟨hfa, hmem, hin⟩ := fa_pick HOA.out.fa HOA.out.iv (by have := HB.out.1; omega) hn
                  have hmo2 : (m.pickM n).mo = mo := (step_mo m 6 n xy).trans HOA.out.mo
                  have HKP : Hid (∀ z ∈ pickL al n, 0 ≤ z.2 ∧ z.2 ≤ mo) := by have := fa_le hfa; rw [hmo2] at this; exact this
                  have HALB : Hid (∀ z ∈ al, 0 ≤ z.2 ∧ z.2 ≤ mo) := by have := fa_le HOA.out.fa; rw [HOA.out.mo] at this; exact this
                  have hpos : 0 < al.length := by
                    cases al with
                    | nil => simp at hmem
                    | cons _ _ => simp
                  obtain ⟨gg, q2, e3⟩ := r3.slice hpos
                  injection e3 with e4 _ e5
                  subst e4 e5
                  have HM1 : Hid (1 ≤ mo ∧ mo ≤ 16) := by have h1 := HOA.out.iv.mo1; have h2 := HOA.out.iv.mo2; have h3 := HOA.out.mo; exact ⟨by omega, by omega⟩
                  have H2 := hide (And.intro hp2 (And.intro r1 (And.intro r2 r4)))
                  have HS2 := hide r3
                  have HFA := hide hfa
                  have HMEM := hide hmem
                  have HPA : Hid (m.pickA n = 0) := by show _ = _; unfold GM.pickA; rw [if_pos hin]
                  have HMO := hide hmo2
                  have HIV0 := hide HOA.out.iv
                  have HFR := hide HOA.out.fr
                  have HSC : Hid (m.sp ≤ L + i + 1 ∧ m.ck ≤ L + i) := by have h2 := HOA.out.sp; have h3 := HOA.out.ck; exact ⟨by omega, by omega⟩
                  have HSL := hide (step_le m 6 n xy)
                  clear hn hp2 hs2 r1 r2 r3 r4 hfa hmem hin hmo2 hpos KN HOA HX1
                  go_wp2_with fail
                  go_loopw [20, 19] (fun jv mv wz => ∃ (j : Nat) (mb : Bool), jv = I j ∧ mv = .bool mb ∧ (mb = true ↔ n ∈ (al.take j).map (·.1)) ∧ j ≤ al.length ∧ SwU wz (.slice (some ⟨gg, 0, none⟩) al.length cc) (midL al n j) ∧ Chg (fun k => k = gg) w2 wz) (fun jv _ _ => al.length - (RowKit.intOf jv).toNat)
                  case atStart => exact ⟨0, false, rfl, rfl, by simp, Nat.zero_le _, by simpa [midL, pickL] using HS2.out, Chg.refl _ _⟩
                  case round =>
                    obtain ⟨j, mb, rfl, rfl, hmb, hjl, hs, hch⟩ := hrel
                    by_cases hj : j < al.length
                    · obtain ⟨y, hy⟩ : ∃ y, al[j]? = some y := ⟨_, List.getElem?_eq_getElem hj⟩
                      have y1 : wr.cell? ⟨gg, j * 2, none⟩ = some (I y.1) := by have := hs.at (midL_at (id := n) hy) 0 (by decide); simpa using this
                      have y2 : wr.cell? ⟨gg, j * 2 + 1, none⟩ = some (I y.2) := hs.at (midL_at (id := n) hy) 1 (by decide)
                      obtain ⟨-, rest, hb, -⟩ := hs.open
                      have hgz := hb.frozen
                      have j1 : (j : Int) < al.length := Int.ofNat_lt.2 hj
                      have HW2 : Hid (wrap64 ((j : Int) + 1) = (j : Int) + 1) := by show _ = _; have := HAL.out; unfold wrap64; omega
                      have HJ := hide hj
                      have hym : y ∈ al := List.mem_of_getElem? hy
                      have htk : (al.take (j + 1)).map (·.1) = (al.take j).map (·.1) ++ [y.1] := by rw [List.take_add_one, hy]; simp
                      have hms := midL_step (id := n) hy
                      by_cases he : y.1 = n
                      · have d1 : (y.1 == n) = true := beq_iff_eq.2 he
                        rw [if_pos he] at hms
                        have HR : Hid ((true = true ↔ n ∈ (al.take (j + 1)).map (·.1)) ∧ SwU (wr.setCell ⟨gg, j * 2 + 1, none⟩ (I 0)) (.slice (some ⟨gg, 0, none⟩) al.length cc) (midL al n (j + 1)) ∧ Chg (fun k => k = gg) w2 (wr.setCell ⟨gg, j * 2 + 1, none⟩ (I 0))) := ⟨by rw [htk, he]; simp, by rw [← hms]; exact hs.put j y (midL_at hy) 0, hch.trans (chg_setCell (F := fun k => k = gg) _ _ (.inl rfl))⟩
                        have n0 : ¬ ((0 : Int) > mo) := by have := HM1.out; omega
                        clear hjl hj hy hs hch hmb hb hym htk hms he
                        go_wp2_with fail
                        rw [HW2.out]
                        go_roundw
                        case rel => exact ⟨j + 1, true, rfl, rfl, HR.out.1, HJ.out, HR.out.2.1, HR.out.2.2⟩
                        case measure => simp only [RowKit.intOf]; have := HJ.out; omega
                      · have d1 : (y.1 == n) = false := beq_eq_false_iff_ne.2 he
                        rw [if_neg he] at hms
                        have HR : Hid ((mb = true ↔ n ∈ (al.take (j + 1)).map (·.1)) ∧ SwU (wr.setCell ⟨gg, j * 2 + 1, none⟩ (I (y.2 + 1))) (.slice (some ⟨gg, 0, none⟩) al.length cc) (midL al n (j + 1)) ∧ Chg (fun k => k = gg) w2 (wr.setCell ⟨gg, j * 2 + 1, none⟩ (I (y.2 + 1)))) := ⟨by rw [htk, hmb, List.mem_append]; exact ⟨.inl, fun q => q.elim (fun r => r) (fun r => absurd (List.mem_singleton.1 r).symm he)⟩, by rw [← hms]; exact hs.put j y (midL_at hy) (y.2 + 1), hch.trans (chg_setCell (F := fun k => k = gg) _ _ (.inl rfl))⟩
                        have hz : (y.1, y.2 + 1) ∈ pickL al n := List.mem_map.2 ⟨y, hym, by rw [if_neg he]⟩
                        have n0 : ¬ (y.2 + 1 > mo) := by have := (HKP.out _ hz).2; simp only at this; omega
                        have n1 : wrap64 (y.2 + 1) = y.2 + 1 := by have h1 := HALB.out y hym; have h2 := HM1.out; unfold wrap64; omega
                        obtain ⟨yi, yg⟩ := y
                        dsimp only at y1 y2 d1 n0 n1 HR
                        clear hjl hj hy hs hch hmb hb hym htk hms he hz
                        go_wp2_with fail
                        rw [HW2.out]
                        go_roundw
                        case rel => exact ⟨j + 1, mb, rfl, rfl, HR.out.1, HJ.out, HR.out.2.1, HR.out.2.2⟩
                        case measure => simp only [RowKit.intOf]; have := HJ.out; omega
                    · have j1 : ¬ ((j : Int) < al.length) := by omega
                      have e1 : j = al.length := by omega
                      have hmt : mb = true := hmb.2 (by rw [e1, List.take_of_length_le (Nat.le_refl _)]; exact HMEM.out)
                      subst hmt
                      have hfin : midL al n j = pickL al n := by rw [e1]; unfold midL; rw [List.take_of_length_le (Nat.le_refl _), List.drop_of_length_le (Nat.le_refl _), List.append_nil]
                      rw [hfin] at hs
                      have hpz : PG wr b 0 m K2 := H2.out.1.off hch (fun k hk e => H2.out.2.2.2 gg rfl (by rw [← e]; exact hk))
                      have HGZ : Hid (G W wr) := by
                        have hg2 := H2.out.2.1
                        exact ⟨hch.os.trans hg2.os, hch.tape.trans hg2.tape, hch.output.trans hg2.output, Nat.le_trans hg2.size hch.size, fun k hk => (hch.block k (Nat.lt_of_lt_of_le hk hg2.size) (fun e => Nat.not_le.2 hk (HFR.out k (by rw [e]; rfl)))).trans (hg2.block k hk)⟩
                      have KP := hide (picked_call b m K2 wr n hpz HIV0.out HB.out.2)
                      rw [HPA.out] at KP
                      have HSZ := hide hs
                      clear hjl hj hs hch hmb e1 hfin hpz
                      go_wp2_with (first | (go_at_call 16; refine Hid.out ?_) | fail)
                      unfold Hid
                      refine KP.out.mono ?_
                      rintro e w5 ⟨rfl, K5, hp5, hs5⟩
                      obtain ⟨t1, t2⟩ := hs5.toG HGZ.out H2.out.2.2.1
                      have hln : (pickL al n).length = al.length := List.length_map _
                      have HR : Hid (Fz W w5 b (L + (i + 1)) mo (.slice (some ⟨gg, 0, none⟩) al.length cc) (pickL al n) (m.pickM n) K5) := by
                        refine ⟨hp5, t1, t2, iv_pickM HIV0.out n, ?_, ?_, HFA.out, HMO.out, HSZ.out.chg hs5.chg H2.out.2.2.2, HFR.out, fun k e q => ?_⟩
                        · have h1 : (m.pickM n).sp ≤ m.sp + 1 := HSL.out.1; have h2 := HSC.out.1; omega
                        · have h1 : (m.pickM n).ck ≤ m.ck + 1 := HSL.out.2; have h2 := HSC.out.2; omega
                        · rcases hs5.nw k q with r | r
                          · exact H2.out.2.2.2 k e r
                          · exact Nat.not_le.2 (HSZ.out.lt e) r
                      have HLN := hide hln
                      clear hp5 hs5 t1 t2 hln KP
                      go_wp2_with fail
                      rw [HW.out]
                      go_roundw
                      case rel => exact ⟨i + 1, _, cc, pickL al n, _, K5, rfl, by rw [HLN.out], HIL.out, by rw [HLN.out]; exact HR.out⟩
                      case measure => simp only [RowKit.intOf]; have := HIL.out; omega
                · by_cases hk3 : xk = 3
                  · subst hk3
                    have KE := hide (end_any b m K1 (wr.alloc (.cells #[I 3, I xi, .bool xy] 46)) xi xy HOA.out.p HOA.out.iv)
                    have HSL := hide (step_le m 3 xi xy)
                    have HIV := hide (iv_endM HOA.out.iv xi xy)
                    have HMO : Hid ((m.endM xi xy).mo = mo) := (step_mo m 3 xi xy).trans HOA.out.mo
                    by_cases hin : xi ∈ m.ids
                    · have HEA : Hid (m.endA xi = 0) := by show _ = _; unfold GM.endA; rw [if_pos hin]
                      rw [HEA.out] at KE
                      have HFA : Hid (Fa (m.endM xi xy) (outL al xi)) := by show Fa _ _; unfold GM.endM; rw [if_pos hin]; exact fa_end HOA.out.fa HOA.out.iv (idx_get hin)
                      clear hin
                      go_wp2_with (first | (go_at_call 15; refine Hid.out ?_) | fail)
                      unfold Hid
                      generalize wr.alloc (.cells #[I 3, I xi, .bool xy] 46) = w1 at KE HX1 HOA ⊢
                      refine KE.out.mono ?_
                      rintro e w2 ⟨rfl, K2, hp2, hs2⟩
                      obtain ⟨r1, r2, r3, r4⟩ := HOA.out.row hs2
                      have hcx := (HX1.out.chg hs2.chg HNO.out).cell
                      have KG := hide (gone_any al (.slice ca al.length cc) xi w2 r3 (by have := HAL.out; omega))
                      have HR2 := hide (And.intro hp2 (And.intro r1 r2))
                      clear hp2 hs2 r1 r2 r3 r4 KE HX1
                      go_wp2_with (first | (go_at_call 22; refine Hid.out ?_) | fail)
                      unfold Hid
                      refine KG.out.mono ?_
                      rintro e w3 ⟨v3, rfl, hs3, hg3, hf3⟩
                      obtain ⟨a3, c3, e3⟩ := hs3.form
                      subst e3
                      have HR : Hid (Fz W w3 b (L + (i + 1)) mo (.slice a3 (outL al xi).length c3) (outL al xi) (m.endM xi xy) K2) := ⟨HR2.out.1.G hg3, HR2.out.2.1.trans hg3, HR2.out.2.2, HIV.out, by have h1 : (m.endM xi xy).sp ≤ m.sp + 1 := HSL.out.1; have h2 := HOA.out.sp; omega, by have h1 : (m.endM xi xy).ck ≤ m.ck + 1 := HSL.out.2; have h2 := HOA.out.ck; omega, HFA.out, HMO.out, hs3, fun k e => Nat.le_trans HR2.out.2.1.size (hf3 k e), fun k e q => Nat.not_le.2 (HR2.out.1.lt k q) (hf3 k e)⟩
                      clear hs3 hg3 hf3 KG HOA hcx
                      go_wp2_with fail
                      rw [HW.out]
                      go_roundw
                      case rel => exact ⟨i + 1, a3, c3, outL al xi, _, K2, rfl, rfl, HIL.out, HR.out⟩
                      case measure => simp only [RowKit.intOf]; have := HIL.out; omega
                    · have HEA : Hid (m.endA xi = 152) := by show _ = _; unfold GM.endA; rw [if_neg hin]
                      rw [HEA.out] at KE
                      have HEM : Hid (m.endM xi xy = m) := by show _ = _; unfold GM.endM; rw [if_neg hin]
                      rw [HEM.out] at KE
                      clear hin
                      go_wp2_with (first | (go_at_call 15; refine Hid.out ?_) | fail)
                      unfold Hid
                      generalize wr.alloc (.cells #[I 3, I xi, .bool xy] 46) = w1 at KE HX1 HOA ⊢
                      refine KE.out.mono ?_
                      rintro e w2 ⟨rfl, K2, hp2, hs2⟩
                      obtain ⟨r1, r2, r3, r4⟩ := HOA.out.row hs2
                      have HR : Hid (Fz W w2 b (L + (i + 1)) mo (.slice ca al.length cc) al m K2) := ⟨hp2, r1, r2, HOA.out.iv, by have h2 := HOA.out.sp; omega, by have h2 := HOA.out.ck; omega, HOA.out.fa, HOA.out.mo, r3, HOA.out.fr, r4⟩
                      clear hp2 hs2 r1 r2 r3 r4 KE HX1 HOA
                      go_wp2_with fail
                      rw [HW.out]
                      go_roundw
                      case rel => exact ⟨i + 1, ca, cc, al, m, K2, rfl, rfl, HIL.out, HR.out⟩
                      case measure => simp only [RowKit.intOf]; have := HIL.out; omega
                  · have k6 : (xk == 6) = false := beq_eq_false_iff_ne.2 hk6
                    have k3 : (xk == 3) = false := beq_eq_false_iff_ne.2 hk3
                    have KD := hide (do_any b m K1 xk xi xy (wr.alloc (.cells #[I xk, I xi, .bool xy] 46)) HOA.out.p HOA.out.iv HB.out.1 HB.out.2)
                    have HFA := hide (fa_step HOA.out.fa HOA.out.iv xk xi xy hk3 hk6)
                    have HSL := hide (step_le m xk xi xy)
                    have HIV := hide (iv_step HOA.out.iv xk xi xy)
                    have HMO := hide ((step_mo m xk xi xy).trans HOA.out.mo)
                    have HDL : Hid ((m.doL xk).length ≤ 64) := by
                      show _ ≤ _
                      have h1 := fa_len HFA.out HIV.out
                      rw [List.length_append, List.length_map] at h1
                      omega
                    clear hk6 hk3
                    go_wp2_with (first | (go_at_call 21; refine Hid.out ?_) | fail)
                    unfold Hid
                    generalize wr.alloc (.cells #[I xk, I xi, .bool xy] 46) = w1 at KD HX1 HOA ⊢
                    refine KD.out.mono ?_
                    rintro e w2 ⟨v2, rfl, hv2, hf2, K2, hp2, hs2, hn2⟩
                    obtain ⟨r1, r2, r3, r4⟩ := HOA.out.row hs2
                    obtain ⟨a2, c2, e2⟩ := hv2.form
                    generalize m.doL xk = dl at hv2 e2 HFA HDL
                    subst e2
                    have H2 := hide (And.intro hp2 (And.intro r1 (And.intro r3 (And.intro r4 hv2))))
                    have HR2 := hide r2
                    have HFR := hide HOA.out.fr
                    have HSC : Hid ((m.stepM xk xi xy).sp ≤ ((L + (i + 1) : Nat) : Int) + 1 ∧ (m.stepM xk xi xy).ck ≤ ((L + (i + 1) : Nat) : Int)) := by have h1 := HSL.out; have h2 := HOA.out.sp; have h3 := HOA.out.ck; exact ⟨by omega, by omega⟩
                    generalize m.stepM xk xi xy = m2 at HFA HIV HMO H2 HSC
                    clear hv2 hf2 hp2 hs2 hn2 r1 r2 r3 r4 KD HOA HX1 HSL
                    go_wp2_with fail
                    go_loopw [22, 14] (fun jv av wz => ∃ (j : Nat) (ca : Option Addr) (cc : Nat), jv = I j ∧ av = .slice ca (al.length + j) cc ∧ j ≤ dl.length ∧ PG wz b 0 m2 K2 ∧ G W wz ∧ SwU wz (.slice ca (al.length + j) cc) (al ++ (dl.take j).map fun i => (i, 0)) ∧ (∀ k, (Value.slice ca (al.length + j) cc).ownBlock = some k → ¬ K2 k) ∧ SwI wz (.slice a2 dl.length c2) dl ∧ Fresh W (.slice ca (al.length + j) cc)) (fun jv _ _ => dl.length - (RowKit.intOf jv).toNat)
                    case atStart => exact ⟨0, ca, cc, rfl, rfl, Nat.zero_le _, H2.out.1, H2.out.2.1, by simpa using H2.out.2.2.1, H2.out.2.2.2.1, H2.out.2.2.2.2, HFR.out⟩
                    case round =>
                      obtain ⟨j, ca, cc, rfl, rfl, hjl, hp, hg, hs, hno, hv, hfr⟩ := hrel
                      by_cases hj : j < dl.length
                      · obtain ⟨y, hy⟩ : ∃ y, dl[j]? = some y := ⟨_, List.getElem?_eq_getElem hj⟩
                        have HV0 := hide hv
                        obtain ⟨g2, q2, e3⟩ := hv.slice (by omega)
                        injection e3 with e4 _ e5
                        subst e4 e5
                        have y1 : wr.cell? ⟨g2, j, none⟩ = some (I y) := by have := hv.at hy 0 (by decide); simpa using this
                        have j1 : (j : Int) < dl.length := Int.ofNat_lt.2 hj
                        have HW2 : Hid (wrap64 ((j : Int) + 1) = (j : Int) + 1) := by show _ = _; have := HDL.out; unfold wrap64; omega
                        have hln : (al ++ (dl.take j).map fun i => (i, (0 : Int))).length = al.length + j := by rw [List.length_append, List.length_map, List.length_take]; omega
                        obtain ⟨v7, w7, hrun, hs7, hch, hob⟩ := app_turn hs (by rw [hln]; have h1 := HAL.out; have h2 := HDL.out; omega) y
                        obtain ⟨a7, c7, e7⟩ := hs7.form
                        have hl7 : (al ++ (dl.take j).map (fun i => (i, (0 : Int))) ++ [(y, 0)]).length = al.length + (j + 1) := by rw [List.length_append, hln]; rfl
                        rw [hl7] at e7
                        subst e7
                        have hA := (G.refl wr).alloc (.cells #[I y, I 0] 50)
                        have hA2 := hg.trans hA
                        have hls : al ++ (dl.take j).map (fun i => (i, (0 : Int))) ++ [(y, 0)] = al ++ (dl.take (j + 1)).map fun i => (i, 0) := by rw [List.take_add_one, hy]; simp
                        rw [hls] at hs7
                        have hv7 : SwI w7 (.slice (some ⟨g2, 0, none⟩) dl.length c2) dl := (hv.G hA).chg hch (fun k hk e => by
                          obtain ⟨xs, hx⟩ := own_blk (hs.G hA) e
                          exact (hv.G hA).ne hx (by decide) hk)
                        have HR : Hid (PG w7 b 0 m2 K2 ∧ G W w7 ∧ SwU w7 (.slice a7 (al.length + (j + 1)) c7) (al ++ (dl.take (j + 1)).map fun i => (i, 0)) ∧ (∀ k, (Value.slice a7 (al.length + (j + 1)) c7).ownBlock = some k → ¬ K2 k) ∧ SwI w7 (.slice (some ⟨g2, 0, none⟩) dl.length c2) dl ∧ Fresh W (.slice a7 (al.length + (j + 1)) c7)) := ⟨(hp.G hA).off hch (fun k hk e => hno k e hk), ⟨hch.os.trans hA2.os, hch.tape.trans hA2.tape, hch.output.trans hA2.output, Nat.le_trans hA2.size hch.size, fun k hk => (hch.block k (Nat.lt_of_lt_of_le hk hA2.size) (fun e => Nat.not_le.2 hk (hfr k e))).trans (hA2.block k hk)⟩, hs7, fun k e q => (hob k e).elim (fun r => hno k r q) (fun r => Nat.not_le.2 (hp.lt k q) (Nat.le_trans hA.size r)), hv7, fun k e => (hob k e).elim (hfr k) (fun q => Nat.le_trans hA2.size q)⟩
                        have HRUN := hide hrun
                        have HJ := hide hj
                        clear hjl hj hy hs hg hfr hp hno hv hrun hs7 hch hob hl7 hA hA2 hls hln hv7 HV0
                        go_wp2_with (first | (at_builtin; refine wpList_append_run rfl _ _ 51 rfl (.slice ca (al.length + j) cc) (.slice (some ⟨wr.heap.size, 0, none⟩) 1 1) rfl rfl HRUN.out ?_) | fail)
                        rw [HW2.out]
                        go_roundw
                        case rel => exact ⟨j + 1, a7, c7, rfl, rfl, HJ.out, HR.out⟩
                        case measure => simp only [RowKit.intOf]; have := HJ.out; omega
                      · have j1 : ¬ ((j : Int) < dl.length) := by omega
                        have e1 : dl.take j = dl := List.take_of_length_le (by omega)
                        have hln : al.length + j = (al ++ dl.map fun i => (i, (0 : Int))).length := by rw [List.length_append, List.length_map]; omega
                        rw [e1] at hs
                        rw [hln] at hs hno hfr
                        have HR : Hid (Fz W wr b (L + (i + 1)) mo (.slice ca (al ++ dl.map fun i => (i, (0 : Int))).length cc) (al ++ dl.map fun i => (i, (0 : Int))) m2 K2) := ⟨hp, hg, HR2.out, HIV.out, HSC.out.1, HSC.out.2, HFA.out, HMO.out, hs, hfr, hno⟩
                        have HLN := hide hln
                        generalize (al ++ dl.map fun i => (i, (0 : Int))) = al2 at HR HLN
                        clear hjl hj hs hg hfr hp hno hv e1 hln
                        go_wp2_with fail
                        rw [HW.out, HLN.out]
                        go_roundw
                        case rel => exact ⟨i + 1, ca, cc, al2, m2, K2, rfl, rfl, HIL.out, HR.out⟩
                        case measure => simp only [RowKit.intOf]; have := HIL.out; omega
              · have i1 : ¬ ((i : Int) < L') := by omega
                have HG := hide hfz.g
                clear hik hil hfz
                go_wp2_with fail
                go_ret
                exact ⟨rfl, HG.out⟩
  · have KN := hide (new_no mo un W hf)
    have KF := hide (fits_no mo un W hf)
    clear hf hS hL hS' hL'
    go_enter Try.func7, Try.ntmps7
    go_wp2_with (first | (go_at_call 19; with_reducible refine KF.out.mono ?_; rintro e w9 ⟨rfl, e9⟩; rw [e9]; clear e9 w9) | (go_at_call 9; with_reducible refine KN.out.mono ?_; rintro e w9 ⟨rfl, e9⟩; rw [e9]; clear e9 w9) | fail)
    go_ret
    exact ⟨rfl, G.refl _⟩
end Go.Proofs.Ytmclbnhbioficaa
