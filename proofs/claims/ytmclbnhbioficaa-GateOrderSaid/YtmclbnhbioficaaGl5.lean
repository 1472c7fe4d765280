/- GateOrder. -/
import Derived.Test.YtmclbnhbioficaaGl4
namespace Go.Proofs.Ytmclbnhbioficaa
open Go.RowKit
theorem fld1 (w : World) (a c x y z : Value) : (Instr.field 33 (.agg #[a, c, x, y, z]) 1).run Try.prog w = .ok c w := by kernel_rfl
set_option maxRecDepth 100000 in
set_option maxHeartbeats 1000000 in
theorem gateOrder_law (mo un : Int) (v : Value) (L : Nat) (X : Nat → Int × Int × Bool) (W : World) (hS : Scr W v L X) (hL : L ≤ 9000000000000) :
    Calls Try.prog 8 #[I mo, I un, v] W fun e W' => e = .returned (.bool true) ∧ G W W' := by
  by_cases hf : Fit mo un
  · obtain ⟨a, cap, rfl, hS⟩ := hS
    have KF := hide (fits_yes mo un W hf)
    have KB := hide (begun_any mo un W hf)
    have HF := hide hf
    have HS := hide hS
    have HL := hide hL
    clear hf hS hL
    go_enter Try.func8, Try.ntmps8
    go_wp2_with (first | (go_at_call 19; with_reducible refine KF.out.mono ?_; rintro e w9 ⟨rfl, e9⟩; rw [e9]; clear e9 w9) | (go_at_call 20; refine Hid.out ?_) | fail)
    unfold Hid
    refine KB.out.mono ?_
    rintro e w1 ⟨b, K, rfl, hp, hg1, hk1⟩
    have HOD : Hid (Od W w1 b 0 (.slice none 0 0) [] 0 (beg mo un) K) := ⟨hp, hg1, hk1, iv_beg HF.out, by simp [beg], by simp [beg], by simp [beg, GM.qids], Nat.le_refl _, Nat.le_refl _, Sw.nil _ _ _, fun k e => by simp [Value.ownBlock] at e, fun k e => by simp [Value.ownBlock] at e⟩
    clear hp hg1 hk1 KB KF
    go_wp2_with fail
    go_loopw [12, 11, 10] (fun iv ev cv wr => ∃ (i ent : Nat) (ca : Option Addr) (cc : Nat) (came : List Int) (m : GM) (K : Nat → Prop), iv = I i ∧ ev = I (ent : Int) ∧ cv = .slice ca came.length cc ∧ i ≤ L ∧ Od W wr b i (.slice ca came.length cc) came ent m K) (fun iv _ _ _ => L - (RowKit.intOf iv).toNat)
    case atStart => exact ⟨0, 0, none, 0, [], _, K, rfl, rfl, rfl, Nat.zero_le _, HOD.out⟩
    case round =>
      obtain ⟨i, ent, ca, cc, came, m, K1, rfl, rfl, rfl, hik, hod⟩ := hrel
      have HO := hide hod
      have HCL : Hid (came.length ≤ 9000000000000) := by show _ ≤ _; have h1 := hod.ln; have h2 := HL.out; omega
      by_cases hil : i < L
      · rcases HS.out with h0 | ⟨sb, off, rfl, hops⟩
        · omega
        obtain ⟨x1, x2, x3⟩ := hops.G hod.g i hil
        generalize X i = xx at x1 x2 x3
        obtain ⟨xk, xi, xy⟩ := xx
        dsimp only at x1 x2 x3
        have i1 : (i : Int) < L := Int.ofNat_lt.2 hil
        have HW : Hid (wrap64 ((i : Int) + 1) = (i : Int) + 1) := by show _ = _; have := HL.out; unfold wrap64; omega
        have HIL := hide hil
        have hA := (G.refl wr).alloc (.cells #[I xk, I xi, .bool xy] 46)
        have hX := Blk.new wr [I xk, I xi, .bool xy] 46
        have HX1 := hide hX
        have HOA : Hid (Od W (wr.alloc (.cells #[I xk, I xi, .bool xy] 46)) b i (.slice ca came.length cc) came ent m K1) := ⟨hod.p.G hA, hod.g.trans hA, hod.k, hod.iv, hod.sp, hod.ck, hod.q, hod.le, hod.ln, hod.c.G hA, hod.fr, hod.no⟩
        have HNO : Hid (¬ K1 wr.heap.size) := fun q => Nat.lt_irrefl _ (hod.p.lt _ q)
        have HB : Hid (m.sp < 4611686018427387904 ∧ m.ck < 4611686018427387904) := by have h1 := hod.sp; have h2 := hod.ck; have h3 := hod.ln; have h4 := HL.out; exact ⟨by omega, by omega⟩
        clear hik hil hod hops hA hX HO
        by_cases hk1 : xk = 1
        · subst hk1
          have KU := hide (submit_any b m K1 (wr.alloc (.cells #[I 1, I xi, .bool xy] 46)) xi HOA.out.p HOA.out.iv HB.out.1)
          rcases sub_cases m xi with ⟨hsa, hsm⟩ | ⟨c, hsa, hc0, hsm⟩
          · rw [hsa, hsm] at KU
            have HIV := hide (iv_subM HOA.out.iv xi)
            rw [hsm] at HIV
            clear hsa hsm
            go_wp2_with (first | (go_at_call 13; refine Hid.out ?_) | fail)
            unfold Hid
            generalize wr.alloc (.cells #[I 1, I xi, .bool xy] 46) = w1 at KU HX1 HOA ⊢
            refine KU.out.mono ?_
            rintro e w2 ⟨rfl, K2, hp2, hs2⟩
            obtain ⟨r1, r2, r3, r4⟩ := HOA.out.row hp2 hs2
            have hx2 := (HX1.out.chg hs2.chg HNO.out)
            have hcx := hx2.cell
            have hA := (G.refl w2).alloc (.cells #[I xi] 3)
            obtain ⟨i0, hi0, hz0, hz1, hz2⟩ := info_I
            obtain ⟨v', w', hrun, hs', hap⟩ := app_one (P := Try.prog) (ts := 31) i0 _ 8 Try.underlying31 hi0 hz0 hz1 hz2 rfl (by decide) (r3.G hA) ⟨w2.heap.size, 0, none⟩ 1 xi (fun j u hj => by
              have h1 := (Blk.new w2 [I xi] 3).cell j
              rw [Addr.add_mid, Nat.zero_add]
              rw [hj] at h1
              exact h1) (Nat.le_trans (show came.length + 1 ≤ 9000000000001 by have := HCL.out; omega) (of_decide_eq_true (by kernel_rfl))) (by have := HCL.out; omega)
            obtain ⟨hch, hob⟩ := Chg.app hap
            obtain ⟨va, vc, ev'⟩ := hs'.form
            subst ev'
            have hA2 := r1.trans hA
            have HR : Hid (Od W w' b (i + 1) (.slice va (came ++ [xi]).length vc) (came ++ [xi]) ent (m.sub xi) K2) := by
              refine ⟨(hp2.G hA).off hch (fun k hk e => r4 k e hk), ⟨hch.os.trans hA2.os, hch.tape.trans hA2.tape, hch.output.trans hA2.output, Nat.le_trans hA2.size hch.size, fun k hk => (hch.block k (Nat.lt_of_lt_of_le hk hA2.size) (fun e => Nat.not_le.2 hk (HOA.out.fr k e))).trans (hA2.block k hk)⟩, r2, HIV.out, ?_, ?_, ?_, ?_, ?_, hs', fun k e => (hob k e).elim (HOA.out.fr k) (fun q => Nat.le_trans hA2.size q), fun k e q => (hob k e).elim (fun r => r4 k r q) (fun r => Nat.not_le.2 (hp2.lt k q) (Nat.le_trans hA.size r))⟩
              · have := HOA.out.sp; simp [GM.sub]; omega
              · have := HOA.out.ck; simp [GM.sub]; omega
              · have := HOA.out.q
                rw [List.drop_append_of_le_length HOA.out.le, ← this]
                simp [GM.sub, GM.qids]
              · have := HOA.out.le; simp; omega
              · have := HOA.out.ln; simp; omega
            have HRUN := hide hrun
            have HSP := hide HOA.out.sp
            have hlen : (came ++ [xi]).length = came.length + 1 := by simp
            rw [hlen] at HR HRUN
            have n1 : wrap64 ((came.length : Int) + 1 + 1) = (came.length : Int) + 1 + 1 := by have := HCL.out; unfold wrap64; omega
            have n2 : m.sp + 1 = (came.length : Int) + 1 + 1 := by have := HSP.out; omega
            have HN2 := hide n2
            rw [HN2.out]
            clear hp2 hs2 r1 r2 r3 r4 hx2 hA hA2 hch hob hap hs' hrun KU HOA hi0 hz0 hz1 hz2 hlen n2 HIV HX1
            go_wp2_with (first | (at_builtin; refine wpList_append_run rfl _ _ 31 rfl (.slice ca came.length cc) (.slice (some ⟨w2.heap.size, 0, none⟩) 1 1) rfl rfl HRUN.out ?_) | fail)
            rw [HW.out]
            go_roundw
            case rel => exact ⟨i + 1, ent, va, vc, came ++ [xi], m.sub xi, K2, rfl, rfl, by simp, HIL.out, by have := HR.out; simpa using this⟩
            case measure => simp only [RowKit.intOf]; have := HIL.out; omega
          · rw [hsa, hsm] at KU
            have hcb : (c == 0) = false := beq_eq_false_iff_ne.2 hc0
            clear hsa hsm hc0
            go_wp2_with (first | (go_at_call 13; refine Hid.out ?_) | fail)
            unfold Hid
            generalize wr.alloc (.cells #[I 1, I xi, .bool xy] 46) = w1 at KU HX1 HOA ⊢
            refine KU.out.mono ?_
            rintro e w2 ⟨rfl, K2, hp2, hs2⟩
            obtain ⟨r1, r2, r3, r4⟩ := HOA.out.row hp2 hs2
            have HR : Hid (Od W w2 b (i + 1) (.slice ca came.length cc) came ent m K2) := ⟨hp2, r1, r2, HOA.out.iv, HOA.out.sp, by have := HOA.out.ck; omega, HOA.out.q, HOA.out.le, by have := HOA.out.ln; omega, r3, HOA.out.fr, r4⟩
            clear hp2 hs2 r1 r2 r3 r4 KU HOA HX1
            go_wp2_with fail
            rw [HW.out]
            go_roundw
            case rel => exact ⟨i + 1, ent, ca, cc, came, m, K2, rfl, rfl, rfl, HIL.out, HR.out⟩
            case measure => simp only [RowKit.intOf]; have := HIL.out; omega
        · have k1 : (xk == 1) = false := beq_eq_false_iff_ne.2 hk1
          have KD := hide (do_any b m K1 xk xi xy (wr.alloc (.cells #[I xk, I xi, .bool xy] 46)) HOA.out.p HOA.out.iv HB.out.1 HB.out.2)
          have HSQ := hide (step_q m xk xi xy hk1)
          have HIV := hide (iv_step HOA.out.iv xk xi xy)
          have HSL := hide (step_le m xk xi xy)
          clear hk1
          go_wp2_with (first | (go_at_call 21; refine Hid.out ?_) | fail)
          unfold Hid
          generalize wr.alloc (.cells #[I xk, I xi, .bool xy] 46) = w1 at KD HX1 HOA ⊢
          refine KD.out.mono ?_
          rintro e w2 ⟨v2, rfl, hv2, hf2, K2, hp2, hs2, hn2⟩
          obtain ⟨r1, r2, r3, r4⟩ := HOA.out.row hp2 hs2
          obtain ⟨a2, c2, e2⟩ := hv2.form
          have hq1 : came.drop ent = m.doL xk ++ (m.stepM xk xi xy).qids := by rw [← HOA.out.q]; exact HSQ.out.1
          have hle : ent + (m.doL xk).length ≤ came.length := by
            have := congrArg List.length hq1
            rw [List.length_drop, List.length_append] at this
            have := HOA.out.le
            omega
          have hq2 : (m.stepM xk xi xy).qids = came.drop (ent + (m.doL xk).length) := by
            rw [← List.drop_drop, hq1, List.drop_left]
          have hget : ∀ (j : Nat) (x : Int), (m.doL xk)[j]? = some x → came[ent + j]? = some x := fun j x hx => by
            rw [← List.getElem?_drop, hq1, List.getElem?_append_left (List.getElem?_eq_some_iff.1 hx).1]
            exact hx
          have HR : Hid (∀ w', G w2 w' → Od W w' b (i + 1) (.slice ca came.length cc) came (ent + (m.doL xk).length) (m.stepM xk xi xy) K2) := fun w' hg => ⟨hp2.G hg, r1.trans hg, r2, HIV.out, by rw [HSQ.out.2]; exact HOA.out.sp, by have h1 := HSL.out.2; have h2 := HOA.out.ck; omega, hq2, hle, by have := HOA.out.ln; omega, r3.G hg, HOA.out.fr, r4⟩
          have HV2 := hide hv2
          have HCM := hide r3
          have HGET := hide hget
          have HLE := hide hle
          have HE2 := hide e2
          generalize m.doL xk = dl at HV2 HR HGET HLE HE2 hq1
          generalize m.stepM xk xi xy = m2 at HR hq1 HIV
          clear hv2 hf2 hp2 hs2 hn2 r1 r2 r3 r4 e2 hq1 hle hq2 hget KD HOA HX1 HSQ HSL HIV
          rw [HE2.out]
          go_wp2_with fail
          go_loopw [17, 11] (fun jv ev wz => ∃ j : Nat, jv = I j ∧ ev = I ((ent + j : Nat) : Int) ∧ j ≤ dl.length ∧ G w2 wz) (fun jv _ _ => dl.length - (RowKit.intOf jv).toNat)
          case atStart => exact ⟨0, rfl, rfl, Nat.zero_le _, G.refl _⟩
          case round =>
            obtain ⟨j, rfl, rfl, hjl, hgz⟩ := hrel
            have HGZ := hide hgz
            by_cases hj : j < dl.length
            · obtain ⟨y, hy⟩ : ∃ y, dl[j]? = some y := ⟨_, List.getElem?_eq_getElem hj⟩
              have hcy := HGET.out j y hy
              have hvz := HV2.out.G hgz
              rw [HE2.out] at hvz
              obtain ⟨g2, q2, e3⟩ := hvz.slice (by omega)
              injection e3 with e4 _ e5
              subst e4 e5
              have hcz := HCM.out.G hgz
              have hcl := (List.getElem?_eq_some_iff.1 hcy).1
              obtain ⟨g1, q1, e6⟩ := hcz.slice (by omega)
              injection e6 with e7 _ e8
              subst e7 e8
              have y1 : wr.cell? ⟨g2, j, none⟩ = some (I y) := by have := hvz.at hy 0 (by decide); simpa using this
              have y2 : wr.cell? ⟨g1, ent + j, none⟩ = some (I y) := by have := hcz.at hcy 0 (by decide); simpa using this
              have j1 : (j : Int) < dl.length := Int.ofNat_lt.2 hj
              have j2 : ((ent + j : Nat) : Int) < came.length := Int.ofNat_lt.2 hcl
              have j3 : decide ((came.length : Int) ≤ ((ent + j : Nat) : Int)) = false := decide_eq_false (by omega)
              have j3' : decide (came.length ≤ ent + j) = false := decide_eq_false (by omega)
              have HW1 : Hid (wrap64 (((ent + j : Nat) : Int) + 1) = (((ent + (j + 1) : Nat)) : Int)) := by show _ = _; have := HCL.out; unfold wrap64; omega
              have HW2 : Hid (wrap64 ((j : Int) + 1) = (j : Int) + 1) := by show _ = _; have := HCL.out; have := HLE.out; unfold wrap64; omega
              have HJ := hide hj
              clear hjl hj hy hcy hvz hcz hcl hgz
              generalize ent + j = ej at y2 j2 j3 j3' HW1 ⊢
              go_wp2_with fail
              go_quiet (fail)
              go_wp2_with fail
              rw [HW1.out, HW2.out]
              go_roundw
              case rel => exact ⟨j + 1, rfl, rfl, HJ.out, HGZ.out.drewN _⟩
              case measure => simp only [RowKit.intOf]; have := HJ.out; omega
            · have j1 : ¬ ((j : Int) < dl.length) := by omega
              have e1 : j = dl.length := by omega
              have HE1 := hide e1
              clear hjl hj hgz e1
              go_wp2_with fail
              rw [HW.out]
              go_roundw
              case rel => exact ⟨i + 1, ent + j, ca, cc, came, m2, K2, rfl, rfl, rfl, HIL.out, by rw [HE1.out]; exact HR.out _ HGZ.out⟩
              case measure => simp only [RowKit.intOf]; have := HIL.out; omega
      · have i1 : ¬ ((i : Int) < L) := by omega
        have KS := hide (stat_any b m K1 wr.drew (HO.out.p.G (G.refl _).drew) HO.out.iv)
        have KM : Hid (∀ (w' : World) (u z : Value), SwI w' u m.qids → RowI w' z (came.drop ent) → Calls Try.prog 23 #[u, z] w' fun e W' => e = .returned (.bool true) ∧ G w' W') := fun w' u z hu hz => same_gen (came.drop ent) u z w' (by rw [← HO.out.q]; exact RowI.of hu) hz (by rw [List.length_drop]; have := HCL.out; omega)
        have HCM : Hid (∀ (w' : World) (K' : Nat → Prop), Ste K1 wr.drew K' w' → SwI w' (.slice ca came.length cc) came ∧ G W w') := fun w' K' hs => ⟨(HO.out.c.drew).chg hs.chg HO.out.no, (hs.toG (HO.out.g.trans (G.refl _).drew) HO.out.k).1⟩
        have HLE := hide HO.out.le
        rcases HO.out.c with ⟨ec, e0⟩ | ⟨gc, cp, rest, ec, hbc, hrc, hcc, -⟩
        · subst e0
          injection ec with q1 q2 q3
          subst q1 q3
          have he0 : ent = 0 := by have := HLE.out; simp at this; exact this
          subst he0
          clear hik hil hod q2
          go_wp2_with fail
          refine wp_region_noPanic ?_
          refine wp_region_held_drew (S := (fun _ => True)) (by kernel_rfl) (trivial) (fun hHeld => ?_)
          refine wpAnyH_take (i := 0) (v := ?_) rfl (by kernel_rfl) (by kernel_rfl) (by kernel_rfl) (fun _ _ _ h => h) (Or.inl ⟨by rfl, ?_⟩) hHeld ?_
          rotate_left 1
          · (intro w hSw; (try dsimp only at hSw); go_simp; try with_reducible rfl)
          try simp only [Act.put, List.getElem_toArray, List.getElem_cons_zero, List.setIfInBounds_toArray, List.set_cons_zero, List.set_cons_succ]
          refine wpAnyH_take (i := 3) (v := ?_) rfl (by kernel_rfl) (by kernel_rfl) (by kernel_rfl) (fun _ _ _ h => h) (Or.inl ⟨by rfl, ?_⟩) hHeld ?_
          rotate_left 1
          · (intro w hSw; (try dsimp only at hSw); go_simp; try with_reducible rfl)
          try simp only [Act.put, List.getElem_toArray, List.getElem_cons_zero, List.getElem_cons_succ, List.setIfInBounds_toArray, List.set_cons_zero, List.set_cons_succ]
          refine wpAnyH_take (i := 4) (v := ?_) rfl (by kernel_rfl) (by kernel_rfl) (by kernel_rfl) (fun _ _ _ h => h) (Or.inl ⟨by rfl, ?_⟩) hHeld ?_
          rotate_left 1
          · (intro w hSw; (try dsimp only at hSw); go_simp; try with_reducible rfl)
          try simp only [Act.put, List.getElem_toArray, List.getElem_cons_zero, List.getElem_cons_succ, List.setIfInBounds_toArray, List.set_cons_zero, List.set_cons_succ]
          refine wpAnyH_take (i := 5) (v := ?_) rfl (by kernel_rfl) (by kernel_rfl) (by kernel_rfl) (fun _ _ _ h => h) (Or.inl ⟨by rfl, ?_⟩) hHeld ?_
          rotate_left 1
          · (intro w hSw; (try dsimp only at hSw); go_simp; try with_reducible rfl)
          try simp only [Act.put, List.getElem_toArray, List.getElem_cons_zero, List.getElem_cons_succ, List.setIfInBounds_toArray, List.set_cons_zero, List.set_cons_succ]
          refine wpAnyH_ready (rs := [1]) (by kernel_rfl) (by simp) (AllReadyH.cons rfl (fun K hK => ?_) AllReadyH.nil)
          clear hHeld
          go_simp
          refine KS.out.mono ?_
          rintro e w4 ⟨v4, v6, rfl, hv4, hv6, hf4, hf6, hap, K4, hp4, hs4, hn4⟩
          have hcm := HCM.out w4 K4 hs4
          have KM4 := hide (KM.out w4 v6 (.slice none 0 0) hv6 (⟨none, 0, rfl, .inl rfl⟩))
          have HG4 := hide hcm.2
          clear hv4 hv6 hf4 hf6 hap hp4 hs4 hn4 hcm
          go_wp2_with fail
          refine hK.out _ _ (trivial) (fun hHeld => ?_)
          clear hK K
          try simp only [Act.put, List.getElem_toArray, List.getElem_cons_zero, List.getElem_cons_succ, List.setIfInBounds_toArray, List.set_cons_zero, List.set_cons_succ]
          refine wpAnyH_take (i := 2) (v := ?_) rfl (by kernel_rfl) (by kernel_rfl) (by kernel_rfl) (fun _ _ _ h => h) (Or.inl ⟨by rfl, ?_⟩) hHeld ?_
          rotate_left 1
          · (intro w hSw; have fd := fld1 w v4 v6 (I m.lg) (I m.un) (I m.mo); go_simp; try with_reducible rfl)
          try simp only [Act.put, List.getElem_toArray, List.getElem_cons_zero, List.getElem_cons_succ, List.setIfInBounds_toArray, List.set_cons_zero, List.set_cons_succ]
          refine wpAnyH_ready (rs := [6]) (by kernel_rfl) (by simp) (AllReadyH.cons rfl (fun K hK => ?_) AllReadyH.nil)
          clear hHeld
          go_simp
          refine KM4.out.mono ?_
          rintro e w5 ⟨rfl, hg5⟩
          have HG5 := hide (HG4.out.trans hg5)
          clear hg5
          go_wp2_with fail
          refine hK.out _ _ (trivial) (fun hHeld => ?_)
          clear hK K
          try simp only [Act.put, List.getElem_toArray, List.getElem_cons_zero, List.getElem_cons_succ, List.setIfInBounds_toArray, List.set_cons_zero, List.set_cons_succ]
          refine wpAnyH_take (i := 7) (v := ?_) rfl (by kernel_rfl) (by kernel_rfl) (by kernel_rfl) (fun _ _ _ h => h) (Or.inl ⟨by rfl, ?_⟩) hHeld ?_
          rotate_left 1
          · (intro w hSw; (try dsimp only at hSw); go_simp; try with_reducible rfl)
          try simp only [Act.put, List.getElem_toArray, List.getElem_cons_zero, List.getElem_cons_succ, List.setIfInBounds_toArray, List.set_cons_zero, List.set_cons_succ]
          refine wpAnyH_done (by kernel_rfl) ?_ _
          refine NoPanic.normal ?_
          go_wp2_with fail
          go_ret
          exact ⟨rfl, HG5.out⟩
        · injection ec with q1 q2 q3
          subst q1 q3
          have e1 : ¬ ((came.length : Int) < (ent : Int)) := by have := HLE.out; omega
          have e2 : ¬ ((cc : Int) < (came.length : Int)) := by omega
          have HCC := hide hcc
          clear hik hil hod q2 hbc hrc hcc rest
          by_cases hec : cc = ent
          · have HEC := hide hec
            have e3 : came.length - ent = 0 := by have := HCC.out; have := HLE.out; omega
            have e4 : came.drop ent = [] := List.drop_of_length_le (by omega)
            have HE4 := hide e4
            subst hec
            clear e4
            go_wp2_with fail
            refine wp_region_noPanic ?_
            refine wp_region_held_drew (S := (fun _ => True)) (by kernel_rfl) (trivial) (fun hHeld => ?_)
            refine wpAnyH_take (i := 0) (v := ?_) rfl (by kernel_rfl) (by kernel_rfl) (by kernel_rfl) (fun _ _ _ h => h) (Or.inl ⟨by rfl, ?_⟩) hHeld ?_
            rotate_left 1
            · (intro w hSw; (try dsimp only at hSw); go_simp; try with_reducible rfl)
            try simp only [Act.put, List.getElem_toArray, List.getElem_cons_zero, List.setIfInBounds_toArray, List.set_cons_zero, List.set_cons_succ]
            refine wpAnyH_take (i := 3) (v := ?_) rfl (by kernel_rfl) (by kernel_rfl) (by kernel_rfl) (fun _ _ _ h => h) (Or.inl ⟨by rfl, ?_⟩) hHeld ?_
            rotate_left 1
            · (intro w hSw; (try dsimp only at hSw); go_simp; try with_reducible rfl)
            try simp only [Act.put, List.getElem_toArray, List.getElem_cons_zero, List.getElem_cons_succ, List.setIfInBounds_toArray, List.set_cons_zero, List.set_cons_succ]
            refine wpAnyH_take (i := 4) (v := ?_) rfl (by kernel_rfl) (by kernel_rfl) (by kernel_rfl) (fun _ _ _ h => h) (Or.inl ⟨by rfl, ?_⟩) hHeld ?_
            rotate_left 1
            · (intro w hSw; (try dsimp only at hSw); go_simp; try with_reducible rfl)
            try simp only [Act.put, List.getElem_toArray, List.getElem_cons_zero, List.getElem_cons_succ, List.setIfInBounds_toArray, List.set_cons_zero, List.set_cons_succ]
            refine wpAnyH_take (i := 5) (v := ?_) rfl (by kernel_rfl) (by kernel_rfl) (by kernel_rfl) (fun _ _ _ h => h) (Or.inl ⟨by rfl, ?_⟩) hHeld ?_
            rotate_left 1
            · (intro w hSw; (try dsimp only at hSw); go_simp; try with_reducible rfl)
            try simp only [Act.put, List.getElem_toArray, List.getElem_cons_zero, List.getElem_cons_succ, List.setIfInBounds_toArray, List.set_cons_zero, List.set_cons_succ]
            refine wpAnyH_ready (rs := [1]) (by kernel_rfl) (by simp) (AllReadyH.cons rfl (fun K hK => ?_) AllReadyH.nil)
            clear hHeld
            go_simp
            refine KS.out.mono ?_
            rintro e w4 ⟨v4, v6, rfl, hv4, hv6, hf4, hf6, hap, K4, hp4, hs4, hn4⟩
            have hcm := HCM.out w4 K4 hs4
            have KM4 := hide (KM.out w4 v6 (.slice (some ⟨gc, 0, none⟩) 0 0) hv6 (⟨some ⟨gc, 0, none⟩, 0, by rw [HE4.out]; rfl, .inl HE4.out⟩))
            have HG4 := hide hcm.2
            clear hv4 hv6 hf4 hf6 hap hp4 hs4 hn4 hcm
            go_wp2_with fail
            refine hK.out _ _ (trivial) (fun hHeld => ?_)
            clear hK K
            try simp only [Act.put, List.getElem_toArray, List.getElem_cons_zero, List.getElem_cons_succ, List.setIfInBounds_toArray, List.set_cons_zero, List.set_cons_succ]
            refine wpAnyH_take (i := 2) (v := ?_) rfl (by kernel_rfl) (by kernel_rfl) (by kernel_rfl) (fun _ _ _ h => h) (Or.inl ⟨by rfl, ?_⟩) hHeld ?_
            rotate_left 1
            · (intro w hSw; have fd := fld1 w v4 v6 (I m.lg) (I m.un) (I m.mo); go_simp; try with_reducible rfl)
            try simp only [Act.put, List.getElem_toArray, List.getElem_cons_zero, List.getElem_cons_succ, List.setIfInBounds_toArray, List.set_cons_zero, List.set_cons_succ]
            refine wpAnyH_ready (rs := [6]) (by kernel_rfl) (by simp) (AllReadyH.cons rfl (fun K hK => ?_) AllReadyH.nil)
            clear hHeld
            go_simp
            refine KM4.out.mono ?_
            rintro e w5 ⟨rfl, hg5⟩
            have HG5 := hide (HG4.out.trans hg5)
            clear hg5
            go_wp2_with fail
            refine hK.out _ _ (trivial) (fun hHeld => ?_)
            clear hK K
            try simp only [Act.put, List.getElem_toArray, List.getElem_cons_zero, List.getElem_cons_succ, List.setIfInBounds_toArray, List.set_cons_zero, List.set_cons_succ]
            refine wpAnyH_take (i := 7) (v := ?_) rfl (by kernel_rfl) (by kernel_rfl) (by kernel_rfl) (fun _ _ _ h => h) (Or.inl ⟨by rfl, ?_⟩) hHeld ?_
            rotate_left 1
            · (intro w hSw; (try dsimp only at hSw); go_simp; try with_reducible rfl)
            try simp only [Act.put, List.getElem_toArray, List.getElem_cons_zero, List.getElem_cons_succ, List.setIfInBounds_toArray, List.set_cons_zero, List.set_cons_succ]
            refine wpAnyH_done (by kernel_rfl) ?_ _
            refine NoPanic.normal ?_
            go_wp2_with fail
            go_ret
            exact ⟨rfl, HG5.out⟩
          · have HRW : Hid (∀ w' : World, SwI w' (.slice (some ⟨gc, 0, none⟩) came.length cc) came → RowI w' (.slice (some ⟨gc, ent, none⟩) (came.length - ent) (cc - ent)) (came.drop ent)) := fun w' h => ⟨_, cc - ent, by rw [List.length_drop], .inr ⟨gc, ent, rfl, fun i x hx => by
              rw [List.getElem?_drop] at hx
              have := h.at hx 0 (by decide)
              simpa using this⟩⟩
            go_wp2_with fail
            refine wp_region_noPanic ?_
            refine wp_region_held_drew (S := (fun _ => True)) (by kernel_rfl) (trivial) (fun hHeld => ?_)
            refine wpAnyH_take (i := 0) (v := ?_) rfl (by kernel_rfl) (by kernel_rfl) (by kernel_rfl) (fun _ _ _ h => h) (Or.inl ⟨by rfl, ?_⟩) hHeld ?_
            rotate_left 1
            · (intro w hSw; (try dsimp only at hSw); go_simp; try with_reducible rfl)
            try simp only [Act.put, List.getElem_toArray, List.getElem_cons_zero, List.setIfInBounds_toArray, List.set_cons_zero, List.set_cons_succ]
            refine wpAnyH_take (i := 3) (v := ?_) rfl (by kernel_rfl) (by kernel_rfl) (by kernel_rfl) (fun _ _ _ h => h) (Or.inl ⟨by rfl, ?_⟩) hHeld ?_
            rotate_left 1
            · (intro w hSw; (try dsimp only at hSw); go_simp; try with_reducible rfl)
            try simp only [Act.put, List.getElem_toArray, List.getElem_cons_zero, List.getElem_cons_succ, List.setIfInBounds_toArray, List.set_cons_zero, List.set_cons_succ]
            refine wpAnyH_take (i := 4) (v := ?_) rfl (by kernel_rfl) (by kernel_rfl) (by kernel_rfl) (fun _ _ _ h => h) (Or.inl ⟨by rfl, ?_⟩) hHeld ?_
            rotate_left 1
            · (intro w hSw; (try dsimp only at hSw); go_simp; try with_reducible rfl)
            try simp only [Act.put, List.getElem_toArray, List.getElem_cons_zero, List.getElem_cons_succ, List.setIfInBounds_toArray, List.set_cons_zero, List.set_cons_succ]
            refine wpAnyH_take (i := 5) (v := ?_) rfl (by kernel_rfl) (by kernel_rfl) (by kernel_rfl) (fun _ _ _ h => h) (Or.inl ⟨by rfl, ?_⟩) hHeld ?_
            rotate_left 1
            · (intro w hSw; (try dsimp only at hSw); go_simp; try with_reducible rfl)
            try simp only [Act.put, List.getElem_toArray, List.getElem_cons_zero, List.getElem_cons_succ, List.setIfInBounds_toArray, List.set_cons_zero, List.set_cons_succ]
            refine wpAnyH_ready (rs := [1]) (by kernel_rfl) (by simp) (AllReadyH.cons rfl (fun K hK => ?_) AllReadyH.nil)
            clear hHeld
            go_simp
            refine KS.out.mono ?_
            rintro e w4 ⟨v4, v6, rfl, hv4, hv6, hf4, hf6, hap, K4, hp4, hs4, hn4⟩
            have hcm := HCM.out w4 K4 hs4
            have KM4 := hide (KM.out w4 v6 (.slice (some ⟨gc, ent, none⟩) (came.length - ent) (cc - ent)) hv6 (HRW.out _ hcm.1))
            have HG4 := hide hcm.2
            clear hv4 hv6 hf4 hf6 hap hp4 hs4 hn4 hcm
            go_wp2_with fail
            refine hK.out _ _ (trivial) (fun hHeld => ?_)
            clear hK K
            try simp only [Act.put, List.getElem_toArray, List.getElem_cons_zero, List.getElem_cons_succ, List.setIfInBounds_toArray, List.set_cons_zero, List.set_cons_succ]
            refine wpAnyH_take (i := 2) (v := ?_) rfl (by kernel_rfl) (by kernel_rfl) (by kernel_rfl) (fun _ _ _ h => h) (Or.inl ⟨by rfl, ?_⟩) hHeld ?_
            rotate_left 1
            · (intro w hSw; have fd := fld1 w v4 v6 (I m.lg) (I m.un) (I m.mo); go_simp; try with_reducible rfl)
            try simp only [Act.put, List.getElem_toArray, List.getElem_cons_zero, List.getElem_cons_succ, List.setIfInBounds_toArray, List.set_cons_zero, List.set_cons_succ]
            refine wpAnyH_ready (rs := [6]) (by kernel_rfl) (by simp) (AllReadyH.cons rfl (fun K hK => ?_) AllReadyH.nil)
            clear hHeld
            go_simp
            refine KM4.out.mono ?_
            rintro e w5 ⟨rfl, hg5⟩
            have HG5 := hide (HG4.out.trans hg5)
            clear hg5
            go_wp2_with fail
            refine hK.out _ _ (trivial) (fun hHeld => ?_)
            clear hK K
            try simp only [Act.put, List.getElem_toArray, List.getElem_cons_zero, List.getElem_cons_succ, List.setIfInBounds_toArray, List.set_cons_zero, List.set_cons_succ]
            refine wpAnyH_take (i := 7) (v := ?_) rfl (by kernel_rfl) (by kernel_rfl) (by kernel_rfl) (fun _ _ _ h => h) (Or.inl ⟨by rfl, ?_⟩) hHeld ?_
            rotate_left 1
            · (intro w hSw; (try dsimp only at hSw); go_simp; try with_reducible rfl)
            try simp only [Act.put, List.getElem_toArray, List.getElem_cons_zero, List.getElem_cons_succ, List.setIfInBounds_toArray, List.set_cons_zero, List.set_cons_succ]
            refine wpAnyH_done (by kernel_rfl) ?_ _
            refine NoPanic.normal ?_
            go_wp2_with fail
            go_ret
            exact ⟨rfl, HG5.out⟩
  · have KN := hide (new_no mo un W hf)
    have KF := hide (fits_no mo un W hf)
    clear hf hS hL
    go_enter Try.func8, Try.ntmps8
    go_wp2_with (first | (go_at_call 19; with_reducible refine KF.out.mono ?_; rintro e w9 ⟨rfl, e9⟩; rw [e9]; clear e9 w9) | (go_at_call 9; with_reducible refine KN.out.mono ?_; rintro e w9 ⟨rfl, e9⟩; rw [e9]; clear e9 w9) | fail)
    go_ret
    exact ⟨rfl, G.refl _⟩
end Go.Proofs.Ytmclbnhbioficaa
