/- Locks: LocksOldest. -/
import Derived.Test.YtkbgifhhnnfgoaaGreatDoorLk76
namespace Go.Proofs.YtkbgifhhnnfgoaaGreatDoor
open Go.RowKit

theorem Ld.gext {W0 w w' : World} {b t lo : Nat} {s s' : Gs} {m : Ms} {live : List (Int × Int)} {res : List Rs} {va vr : Value} {L : List Int} {LR : List Rs} (h : Ld W0 w b t lo s m live res va vr L LR) (E : Ext w w' s s') : Go.Proofs.YtkbgifhhnnfgoaaGreatDoor.G W0 w' :=
  ⟨E.chg.os.trans h.gw.os, E.chg.tape.trans h.gw.tape, E.chg.output.trans h.gw.output, Nat.le_trans h.gw.size E.chg.size, fun k hk => (E.chg.block k (Nat.lt_of_lt_of_le hk h.gw.size) (fun e => by
    cases e2 : s.own k with
    | none => exact e e2
    | some tg => have := h.ob k tg e2; omega)).trans (h.gw.block k hk)⟩
theorem ms_two {k N : Nat} (h : k < N) : 2 * N + 2 - (RowKit.intOf (I ((k : Int) + 1))).toNat < 2 * N + 2 - (RowKit.intOf (I (k : Int))).toNat := by
  simp only [RowKit.intOf]
  omega
set_option maxRecDepth 100000 in
set_option maxHeartbeats 2000000 in
theorem oldest_law (v : Value) (N : Nat) (X : Nat → Lo) (r : Rs) (mode : Int) (W : World) (hS : ScL W v N X) (hX : ∀ i, i < N → R64 (X i).x ∧ (X i).r.ok) (hr : r.ok) (hN : N + 2 < 2000000000000) (hT : Tb W) :
    Calls Tryz.prog 3 #[v, .agg #[I r.lv, .string r.lb, I r.id], I mode] W fun e W' => e = .returned (.bool true) ∧ G W W' := by
  obtain ⟨a, cap, rfl, hS⟩ := hS
  obtain ⟨L, hLe⟩ : ∃ L, L = (List.range N).map fun i => (X i).x := ⟨_, rfl⟩
  obtain ⟨LR, hLRe⟩ : ∃ LR, LR = r :: ((List.range N).map fun i => (X i).r) := ⟨_, rfl⟩
  have HL : Hid (L.length < 2000000000000) := by rw [Hid, hLe]; simp; omega
  have HLR : Hid (LR.length < 2000000000000) := by rw [Hid, hLRe]; simp; omega
  have HXX : Hid (∀ i, i < N → R64 (X i).x ∧ (X i).r.ok ∧ (X i).x ∈ L ∧ (X i).r ∈ LR) := fun i hi => ⟨(hX i hi).1, (hX i hi).2, by rw [hLe]; exact List.mem_map.2 ⟨i, List.mem_range.2 hi, rfl⟩, by rw [hLRe]; exact List.mem_cons_of_mem _ (List.mem_map.2 ⟨i, List.mem_range.2 hi, rfl⟩)⟩
  have HRL : Hid (r ∈ LR ∧ r.ok) := ⟨by rw [hLRe]; exact List.mem_cons_self .., hr⟩
  have HS := hide hS; have HN := hide hN; have HTB := hide hT
  clear hLe hLRe hX hr hS hN hT
  go_enter Tryz.func3, Tryz.ntmps3
  go_wp2_with (first | (go_at_call 9; refine Hid.out ?_) | fail)
  unfold Hid
  obtain ⟨w1, hw1⟩ : ∃ w1, w1 = W.alloc (.cells #[I r.lv, .string r.lb, I r.id] 24) := ⟨_, rfl⟩
  rw [← hw1]
  have HW1 : Hid (Blk w1 W.heap.size 24 [I r.lv, .string r.lb, I r.id] ∧ G W w1) := by rw [hw1]; exact ⟨Blk.new W [I r.lv, .string r.lb, I r.id] 24, (G.refl W).alloc _⟩
  clear hw1
  generalize W.heap.size = rb at HW1 ⊢
  refine (new_any w1).mono ?_
  rintro e w2 ⟨t, s, rfl, hT, hl, hp, hg2, ht, ho⟩
  go_wp2_with fail
  obtain ⟨w3, hw3⟩ : ∃ w3, w3 = w2.alloc (.cells #[ptr t, .slice none 0 0, .slice none 0 0] 31) := ⟨_, rfl⟩
  rw [← hw3]
  have h3 := ld_new L LR hT hl hp hg2 ho (HTB.out.G HW1.out.2) hw3
  clear hw3 hT hl hp hg2 ho ht
  generalize w2.heap.size = b at h3 ⊢
  generalize w3.heap.size = lo at h3
  have H3 := hide h3
  clear h3
  go_loopw [8] (fun iv wr => ∃ i : Nat, i ≤ N ∧ iv = I (i : Int) ∧ ∃ s m live res va vr, live.length ≤ i ∧ res.length ≤ i ∧ Ld w1 wr b t lo s m live res va vr L LR ∧ Bk m live) (fun iv _ => N - (RowKit.intOf iv).toNat)
  case atStart => exact ⟨0, Nat.zero_le _, rfl, s, m0, [], [], _, _, Nat.le_refl _, Nat.le_refl _, H3.out, bk_m0⟩
  case round =>
    clear H3
    obtain ⟨i, hi, rfl, s, m, live, res, va, vr, hll, hrl, hLd, hbk⟩ := hrel
    have hnN := HN.out
    by_cases hlt : i < N
    · rcases HS.out with h0 | ⟨sb, off, rfl, hops⟩
      · omega
      obtain ⟨x1, x2, x3, x4, x5, x6, x7, x8⟩ := (hops.G (HW1.out.2.trans hLd.gw)).at hlt
      have hxx := HXX.out i hlt
      generalize X i = oo at x1 x2 x3 x4 x5 x6 x7 x8 hxx
      obtain ⟨okd, owho, ox, ost, orr, omd⟩ := oo
      dsimp only at x1 x2 x3 x4 x5 x6 x7 x8 hxx
      have i1 : (i : Int) < (N : Int) := by omega
      have hwn : wrap64 ((i : Int) + 1) = (i : Int) + 1 := by unfold wrap64; omega
      have HWN := hide hwn
      have KS := hide (steps_all hLd hbk okd owho ox ost orr omd hxx.1 hxx.2.2.1 hxx.2.2.2 hxx.2.1 HL.out HLR.out (by omega) (by omega))
      have HLT := hide hlt
      have HLE : Hid (live.length ≤ i ∧ res.length ≤ i) := ⟨hll, hrl⟩
      clear hi hll hrl hLd hbk hnN hlt hops hxx hwn
      go_wp2_with (first | (go_at_call 10; refine Hid.out ?_) | fail)
      unfold Hid
      refine KS.out.mono ?_
      rintro e w4 ⟨rfl, s', m', live', res', va', vr', a1, a2, a3, a4⟩
      have H4 : Hid (live'.length ≤ i + 1 ∧ res'.length ≤ i + 1 ∧ Ld w1 w4 b t lo s' m' live' res' va' vr' L LR ∧ Bk m' live') := ⟨by have := HLE.out.1; omega, by have := HLE.out.2; omega, a3, a4⟩
      clear a1 a2 a3 a4 KS x1 x2 x3 x4 x5 x6 x7 x8
      go_wp2
      exact ⟨⟨i + 1, HLT.out, by rw [HWN.out]; exact rl1 i, s', m', live', res', va', vr', H4.out.1, H4.out.2.1, H4.out.2.2.1, H4.out.2.2.2⟩, by rw [HWN.out]; exact ms_end HLT.out⟩
    · have hne : i = N := by omega
      subst hne
      have i1 : ¬ ((i : Int) < (i : Int)) := by omega
      have HX : Hid (Ld w1 wr b t lo s m live res va vr L LR ∧ Bk m live) := ⟨hLd, hbk⟩
      have HLN := hide hll
      have HRB : Hid (Blk w1 rb 24 [I r.lv, .string r.lb, I r.id]) := HW1.out.1
      have KO : Hid (Calls Tryz.prog 11 #[ptr b] wr fun e w' => e = .returned (I (oldL 0 live)) ∧ w' = wr) := oldest_any b _ va vr lo live wr hLd.sg.blk hLd.sg.lf
      have q2 := (HRB.out.G hLd.gw).cell
      clear hi hll hrl hLd hbk hnN hlt
      by_cases hf : oldL 0 live = 0
      · rw [hf] at KO
        clear hf
        go_wp2_with (first | (go_at_call 11; with_reducible refine KO.out.mono ?_; rintro e w' ⟨rfl, hw'⟩; have hw2 := hw'.symm; subst hw2; clear hw') | (go_at_call 13; refine Hid.out ?_) | fail)
        unfold Hid
        refine (free_any b _ va vr lo live wr HX.out.1.sg.blk HX.out.1.sg.lf).mono ?_
        rintro e wf ⟨⟨nf, rfl, n1, n2, n3⟩, hwf⟩
        have hwf2 := hwf.symm
        subst hwf2
        have KB : Hid (Calls Tryz.prog 14 #[ptr t, I nf, I nf] wr fun e w' => e = .returned (I 0) ∧ G w1 w') := by
          have hr : R64 nf := by have := HX.out.1.sg.lf.2; unfold R64; omega
          have h1 := HX.out.1.gt
          refine (begin_any t s nf nf wr h1.tt hr n1 n1 (fun y p hy => (h1.iv.lv y p.m (h1.ab.at hy)).xr) L (fun y p hy => (h1.iv.lv y p.m (h1.ab.at hy)).xl) (by have := HL.out; have hmx : (4100000000000 : Nat) ≤ maxLen := of_decide_eq_true (by kernel_rfl); omega)).mono ?_
          rintro e w' (⟨⟨y, q, hq, he⟩, -⟩ | ⟨-, rfl, s', p, -, -, -, -, hE⟩)
          · have h2 := n3 (y, q.m.stamp) ((HX.out.2.mem y q.m.stamp).2 ⟨q.m, h1.ab.at hq, rfl⟩)
            rcases he with he | he
            · exact absurd he h2.1
            · exact absurd he h2.2
          · exact ⟨rfl, HX.out.1.gext hE⟩
        have q1 := HX.out.1.sg.blk.cell
        clear n1 n2 n3 hwf
        go_wp2_with (first | (go_at_call 14; with_reducible refine KB.out.mono ?_; rintro e w9 ⟨rfl, hg9⟩) | fail)
        go_ret
        exact ⟨rfl, HW1.out.2.trans hg9⟩
      · have d1 : (oldL 0 live == 0) = false := by simp [hf]
        have d2 : decide (oldL 0 live = 0) = false := by simp [hf]
        have KG : Hid (Calls Tryz.prog 12 #[.agg #[I r.lv, .string r.lb, I r.id]] wr fun e w' => (e = .returned (.bool false) ∨ (e = .returned (.bool true) ∧ ResP r)) ∧ G wr w') := good_any r wr
        go_wp2_with (first | (go_at_call 11; with_reducible refine KO.out.mono ?_; rintro e w' ⟨rfl, hw'⟩; have hw2 := hw'.symm; subst hw2; clear hw') | (go_at_call 12; refine Hid.out ?_) | fail)
        unfold Hid
        refine KG.out.mono ?_
        rintro e w6 ⟨hgo, hg6⟩
        replace HX : Hid (Ld w1 w6 b t lo s m live res va vr L LR ∧ Bk m live) := ⟨HX.out.1.G hg6, HX.out.2⟩
        clear hg6 KG KO q2
        rcases hgo with rfl | ⟨rfl, hres⟩
        · clear hf d1 d2
          go_wp2_with (first | (go_at_call 13; refine Hid.out ?_) | fail)
          unfold Hid
          refine (free_any b _ va vr lo live w6 HX.out.1.sg.blk HX.out.1.sg.lf).mono ?_
          rintro e wf ⟨⟨nf, rfl, n1, n2, n3⟩, hwf⟩
          have hwf2 := hwf.symm
          subst hwf2
          have KB : Hid (Calls Tryz.prog 14 #[ptr t, I nf, I nf] w6 fun e w' => e = .returned (I 0) ∧ G w1 w') := by
            have hr : R64 nf := by have := HX.out.1.sg.lf.2; unfold R64; omega
            have h1 := HX.out.1.gt
            refine (begin_any t s nf nf w6 h1.tt hr n1 n1 (fun y p hy => (h1.iv.lv y p.m (h1.ab.at hy)).xr) L (fun y p hy => (h1.iv.lv y p.m (h1.ab.at hy)).xl) (by have := HL.out; have hmx : (4100000000000 : Nat) ≤ maxLen := of_decide_eq_true (by kernel_rfl); omega)).mono ?_
            rintro e w' (⟨⟨y, q, hq, he⟩, -⟩ | ⟨-, rfl, s', p, -, -, -, -, hE⟩)
            · have h2 := n3 (y, q.m.stamp) ((HX.out.2.mem y q.m.stamp).2 ⟨q.m, h1.ab.at hq, rfl⟩)
              rcases he with he | he
              · exact absurd he h2.1
              · exact absurd he h2.2
            · exact ⟨rfl, HX.out.1.gext hE⟩
          have q1 := HX.out.1.sg.blk.cell
          clear n1 n2 n3 hwf
          go_wp2_with (first | (go_at_call 14; with_reducible refine KB.out.mono ?_; rintro e w9 ⟨rfl, hg9⟩) | fail)
          go_ret
          exact ⟨rfl, HW1.out.2.trans hg9⟩
        · have HRG : Hid (GoodR r LR) := ⟨HRL.out.1, HRL.out.2, hres⟩
          clear hres
          by_cases hm : 1 ≤ mode ∧ mode ≤ 5
          · have m1 : ¬ mode < 1 := by omega
            have m2 : ¬ 5 < mode := by omega
            have HMO := hide (modeB_pos hm.1 hm.2)
            clear hm
            have hf0 : ¬ oldL 0 live = 0 := hf
            obtain ⟨pf, hpf, hsf, hall⟩ := first_is HX.out.2 HX.out.1.gt.iv hf0
            have HPF : Hid (∃ p, m.lv (idL (oldL 0 live) live) = some p ∧ p.stamp = oldL 0 live ∧ ∀ y q, m.lv y = some q → oldL 0 live ≤ q.stamp) := ⟨pf, hpf, hsf, hall⟩
            clear hf0 hpf hsf hall pf hf
            generalize hfe : oldL 0 live = first at HPF d1 d2 ⊢
            have HFE := hide hfe
            clear hfe
            go_wp2_with fail
            go_loopw [12, 13] (fun dv iv wi => ∃ n : Nat, n ≤ live.length ∧ dv = I (idL first (live.take n)) ∧ iv = I (n : Int) ∧ wi = w6) (fun _ iv _ => live.length - (RowKit.intOf iv).toNat)
            case atStart => exact ⟨0, Nat.zero_le _, rfl, rfl, rfl⟩
            case round =>
              obtain ⟨n, hn, rfl, rfl, hwi⟩ := hrel
              subst hwi
              have q1 := HX.out.1.sg.blk.cell
              have hLL := HX.out.1.sg.lf.2
              by_cases hlt : n < live.length
              · obtain ⟨⟨c1, c2⟩, hc1⟩ : ∃ a, live[n]? = some a := ⟨_, List.getElem?_eq_getElem hlt⟩
                obtain ⟨aa, ac, hva⟩ := HX.out.1.sg.lf.form
                subst hva
                obtain ⟨ga, hga, k1, k2⟩ := HX.out.1.sg.lf.at hc1
                subst hga
                have hnI : (n : Int) < (live.length : Int) := by omega
                have hwn : wrap64 ((n : Int) + 1) = (n : Int) + 1 := by unfold wrap64; omega
                have HWN := hide hwn
                have hsn := idL_snoc (f := first) hc1
                unfold idS at hsn
                have HLT := hide hlt
                by_cases he : c2 = first
                · have HSN : Hid (idL first (live.take (n + 1)) = c1) := by rw [Hid, hsn, if_pos he]
                  rw [he] at k2
                  clear hsn hc1 hlt hn hwn he hLL
                  go_wp2
                  exact ⟨⟨n + 1, HLT.out, by rw [HSN.out], by rw [HWN.out]; exact rl1 n, by first | rfl | trivial⟩, by rw [HWN.out]; exact ms_end HLT.out⟩
                · have HSN : Hid (idL first (live.take (n + 1)) = idL first (live.take n)) := by rw [Hid, hsn, if_neg he]
                  have d3 : (c2 == first) = false := by simp [he]
                  have d4 : decide (c2 = first) = false := by simp [he]
                  clear hsn hc1 hlt hn hwn hLL
                  go_wp2
                  exact ⟨⟨n + 1, HLT.out, by rw [HSN.out], by rw [HWN.out]; exact rl1 n, by first | rfl | trivial⟩, by rw [HWN.out]; exact ms_end HLT.out⟩
              · have hne : n = live.length := by omega
                subst hne
                have hnI : ¬ ((live.length : Int) < (live.length : Int)) := by omega
                rw [List.take_length]
                obtain ⟨aa, ac, hva⟩ := HX.out.1.sg.lf.form
                rw [hva] at q1
                clear hva
                generalize hie : idL first live = id at HPF ⊢
                obtain ⟨p, hp, hps, hpa⟩ := HPF.out
                have KD := hide (wounded_t HX.out.1.gt hp)
                have KW : Hid (Calls Tryz.prog 16 #[ptr t, I id] wr fun e w' => e = .returned (.tuple #[.agg #[I p.at_.lv, .string p.at_.lb, I p.at_.id], I p.goal, I 0]) ∧ G wr w') := waiting_t HX.out.1.gt hp
                have HP := hide hp
                have HPS : Hid (p.stamp = first ∧ ∀ y q, m.lv y = some q → first ≤ q.stamp) := ⟨hps, hpa⟩
                clear hn hlt hie hLL hp hps hpa HPF
                cases hh : p.hurt with
                | true =>
                  rw [hh] at KD
                  clear hh
                  go_wp2_with (first | (go_at_call 15; with_reducible refine KD.out.mono ?_; rintro e w' ⟨rfl, hw'⟩; have hw2 := hw'.symm; subst hw2; clear hw') | (go_at_call 16; refine Hid.out ?_) | fail)
                  unfold Hid
                  refine KW.out.mono ?_
                  rintro e w7a ⟨rfl, hg7a⟩
                  have H7 := hide ((HX.out.1.gw.trans hg7a).alloc (.cells #[I p.at_.lv, .string p.at_.lb, I p.at_.id] 24))
                  clear hg7a KD KW
                  go_wp2
                  go_ret
                  exact ⟨rfl, HW1.out.2.trans H7.out⟩
                | false =>
                  rw [hh] at KD
                  have HOV : Hid (Ov m id first) := ⟨p, HP.out, HPS.out.1, hh, HPS.out.2⟩
                  clear hh
                  by_cases hg : p.goal = 0
                  · rw [hg] at KW
                    have HGO := hide hg
                    clear hg
                    go_wp2_with (first | (go_at_call 15; with_reducible refine KD.out.mono ?_; rintro e w' ⟨rfl, hw'⟩; have hw2 := hw'.symm; subst hw2; clear hw') | (go_at_call 16; refine Hid.out ?_) | fail)
                    unfold Hid
                    refine KW.out.mono ?_
                    rintro e w7a ⟨rfl, hg7a⟩
                    have H7 := hide (hg7a.alloc (.cells #[I p.at_.lv, .string p.at_.lb, I p.at_.id] 24))
                    clear hg7a KD KW
                    go_upto_region 25 with fail
                    generalize w7a.alloc (.cells #[I p.at_.lv, .string p.at_.lb, I p.at_.id] 24) = w7 at H7 ⊢
                    have HD : Hid (Ld w1 w7 b t lo s m live res va vr L LR ∧ Bk m live) := ⟨HX.out.1.G H7.out, HX.out.2⟩
                    clear H7 HX
                    have KA : Hid (Calls Tryz.prog 17 #[ptr t, I id, .agg #[I r.lv, .string r.lb, I r.id], I mode] w7.drew fun e w' => ∃ (k : Int) (u : Value) (l : List Int) (c : Int) (s' : Gs) (m' : Ms), e = .returned (.tuple #[I k, u, I c]) ∧ w'.ownsRow w7.drew.heap.size 3 1 u l.length (l.map fun z => I z) ∧ GT w' t s' m' L LR ∧ Ext w7.drew w' s s' ∧ AskK m id p r mode k l c m') := Ask_t (HD.out.1.gt.G (G.refl w7).drew) HP.out HRG.out HMO.out HL.out HLR.out
                    refine wp_region_noPanic ?_
                    refine wp_region_held_drew (S := (fun U => Blk U b 31 [ptr t, va, vr] ∧ Blk U rb 24 [I r.lv, .string r.lb, I r.id])) (by kernel_rfl) (⟨HD.out.1.sg.blk.drew, (HRB.out.G HD.out.1.gw).drew⟩) (fun hHeld => ?_)
                    refine wpAnyH_take (i := 0) (v := ?_) rfl (by kernel_rfl) (by kernel_rfl) (by kernel_rfl) (fun _ _ _ h => h) (Or.inl ⟨by rfl, ?_⟩) hHeld ?_
                    rotate_left 1
                    · (intro w hSw; have q1 := hSw.1.cell; have q2 := hSw.2.cell; go_simp; try with_reducible rfl)
                    try simp only [Act.put, List.getElem_toArray, List.getElem_cons_zero, List.setIfInBounds_toArray, List.set_cons_zero, List.set_cons_succ]
                    refine wpAnyH_take (i := 1) (v := ?_) rfl (by kernel_rfl) (by kernel_rfl) (by kernel_rfl) (fun _ _ _ h => h) (Or.inl ⟨by rfl, ?_⟩) hHeld ?_
                    rotate_left 1
                    · (intro w hSw; have q1 := hSw.1.cell; have q2 := hSw.2.cell; go_simp; try with_reducible rfl)
                    try simp only [Act.put, List.getElem_toArray, List.getElem_cons_zero, List.getElem_cons_succ, List.setIfInBounds_toArray, List.set_cons_zero, List.set_cons_succ]
                    refine wpAnyH_take (i := 2) (v := ?_) rfl (by kernel_rfl) (by kernel_rfl) (by kernel_rfl) (fun _ _ _ h => h) (Or.inl ⟨by rfl, ?_⟩) hHeld ?_
                    rotate_left 1
                    · (intro w hSw; have q1 := hSw.1.cell; have q2 := hSw.2.cell; go_simp; try with_reducible rfl)
                    try simp only [Act.put, List.getElem_toArray, List.getElem_cons_zero, List.getElem_cons_succ, List.setIfInBounds_toArray, List.set_cons_zero, List.set_cons_succ]
                    refine wpAnyH_take (i := 3) (v := ?_) rfl (by kernel_rfl) (by kernel_rfl) (by kernel_rfl) (fun _ _ _ h => h) (Or.inl ⟨by rfl, ?_⟩) hHeld ?_
                    rotate_left 1
                    · (intro w hSw; have q1 := hSw.1.cell; have q2 := hSw.2.cell; go_simp; try with_reducible rfl)
                    try simp only [Act.put, List.getElem_toArray, List.getElem_cons_zero, List.getElem_cons_succ, List.setIfInBounds_toArray, List.set_cons_zero, List.set_cons_succ]
                    refine wpAnyH_take (i := 4) (v := ?_) rfl (by kernel_rfl) (by kernel_rfl) (by kernel_rfl) (fun _ _ _ h => h) (Or.inl ⟨by rfl, ?_⟩) hHeld ?_
                    rotate_left 1
                    · (intro w hSw; have q1 := hSw.1.cell; have q2 := hSw.2.cell; go_simp; try with_reducible rfl)
                    try simp only [Act.put, List.getElem_toArray, List.getElem_cons_zero, List.getElem_cons_succ, List.setIfInBounds_toArray, List.set_cons_zero, List.set_cons_succ]
                    refine wpAnyH_take (i := 5) (v := ?_) rfl (by kernel_rfl) (by kernel_rfl) (by kernel_rfl) (fun _ _ _ h => h) (Or.inl ⟨by rfl, ?_⟩) hHeld ?_
                    rotate_left 1
                    · (intro w hSw; have q1 := hSw.1.cell; have q2 := hSw.2.cell; go_simp; try with_reducible rfl)
                    try simp only [Act.put, List.getElem_toArray, List.getElem_cons_zero, List.getElem_cons_succ, List.setIfInBounds_toArray, List.set_cons_zero, List.set_cons_succ]
                    refine wpAnyH_take (i := 6) (v := ?_) rfl (by kernel_rfl) (by kernel_rfl) (by kernel_rfl) (fun _ _ _ h => h) (Or.inl ⟨by rfl, ?_⟩) hHeld ?_
                    rotate_left 1
                    · (intro w hSw; have q1 := hSw.1.cell; have q2 := hSw.2.cell; go_simp; try with_reducible rfl)
                    try simp only [Act.put, List.getElem_toArray, List.getElem_cons_zero, List.getElem_cons_succ, List.setIfInBounds_toArray, List.set_cons_zero, List.set_cons_succ]
                    refine wpAnyH_ready (rs := [7]) (by kernel_rfl) (by simp) (AllReadyH.cons rfl (fun K hK => ?_) AllReadyH.nil)
                    clear hHeld
                    go_simp
                    with_reducible refine KA.out.mono ?_
                    rintro e w5 ⟨k, u, l, c, s', m', rfl, hrow5, hT5, hE5, hK5⟩
                    obtain ⟨ua, uc, rfl⟩ := row_form hrow5
                    have h7 := HD.out.1.G (G.refl w7).drew
                    have h5 := h7.ext hE5 hT5
                    have H5 : Hid (Ld w1 w5 b t lo s' m' live res va vr L LR ∧ AskK m id p r mode k l c m' ∧ Blk w5 rb 24 [I r.lv, .string r.lb, I r.id]) := ⟨h5, hK5, HRB.out.G h5.gw⟩
                    clear hrow5 hT5 hE5 hK5 h7 h5 KA
                    refine hK.out _ _ (⟨H5.out.1.sg.blk, H5.out.2.2⟩) (fun hHeld => ?_)
                    clear hK K
                    try simp only [Act.put, List.getElem_toArray, List.getElem_cons_zero, List.getElem_cons_succ, List.setIfInBounds_toArray, List.set_cons_zero, List.set_cons_succ]
                    refine wpAnyH_take (i := 8) (v := ?_) rfl (by kernel_rfl) (by kernel_rfl) (by kernel_rfl) (fun _ _ _ h => h) (Or.inl ⟨by rfl, ?_⟩) hHeld ?_
                    rotate_left 1
                    · (intro w hSw; (try dsimp only at hSw); go_simp; try with_reducible rfl)
                    try simp only [Act.put, List.getElem_toArray, List.getElem_cons_zero, List.getElem_cons_succ, List.setIfInBounds_toArray, List.set_cons_zero, List.set_cons_succ]
                    refine wpAnyH_take (i := 9) (v := ?_) rfl (by kernel_rfl) (by kernel_rfl) (by kernel_rfl) (fun _ _ _ h => h) (Or.inl ⟨by rfl, ?_⟩) hHeld ?_
                    rotate_left 1
                    · (intro w hSw; (try dsimp only at hSw); go_simp; try with_reducible rfl)
                    try simp only [Act.put, List.getElem_toArray, List.getElem_cons_zero, List.getElem_cons_succ, List.setIfInBounds_toArray, List.set_cons_zero, List.set_cons_succ]
                    refine wpAnyH_take (i := 10) (v := ?_) rfl (by kernel_rfl) (by kernel_rfl) (by kernel_rfl) (fun _ _ _ h => h) (Or.inl ⟨by rfl, ?_⟩) hHeld ?_
                    rotate_left 1
                    · (intro w hSw; (try dsimp only at hSw); go_simp; try with_reducible rfl)
                    try simp only [Act.put, List.getElem_toArray, List.getElem_cons_zero, List.getElem_cons_succ, List.setIfInBounds_toArray, List.set_cons_zero, List.set_cons_succ]
                    refine wpAnyH_take (i := 11) (v := ?_) rfl (by kernel_rfl) (by kernel_rfl) (by kernel_rfl) (fun _ _ _ h => h) (Or.inl ⟨by rfl, ?_⟩) hHeld ?_
                    rotate_left 1
                    · (intro w hSw; (try dsimp only at hSw); go_simp; try with_reducible rfl)
                    try simp only [Act.put, List.getElem_toArray, List.getElem_cons_zero, List.getElem_cons_succ, List.setIfInBounds_toArray, List.set_cons_zero, List.set_cons_succ]
                    refine wpAnyH_take (i := 12) (v := ?_) rfl (by kernel_rfl) (by kernel_rfl) (by kernel_rfl) (fun _ _ _ h => h) (Or.inl ⟨by rfl, ?_⟩) hHeld ?_
                    rotate_left 1
                    · (intro w hSw; (try dsimp only at hSw); go_simp; try with_reducible rfl)
                    try simp only [Act.put, List.getElem_toArray, List.getElem_cons_zero, List.getElem_cons_succ, List.setIfInBounds_toArray, List.set_cons_zero, List.set_cons_succ]
                    refine wpAnyH_take (i := 13) (v := ?_) rfl (by kernel_rfl) (by kernel_rfl) (by kernel_rfl) (fun _ _ _ h => h) (Or.inl ⟨by rfl, ?_⟩) hHeld ?_
                    rotate_left 1
                    · (intro w hSw; (try dsimp only at hSw); go_simp; try with_reducible rfl)
                    try simp only [Act.put, List.getElem_toArray, List.getElem_cons_zero, List.getElem_cons_succ, List.setIfInBounds_toArray, List.set_cons_zero, List.set_cons_succ]
                    refine wpAnyH_take (i := 14) (v := ?_) rfl (by kernel_rfl) (by kernel_rfl) (by kernel_rfl) (fun _ _ _ h => h) (Or.inl ⟨by rfl, ?_⟩) hHeld ?_
                    rotate_left 1
                    · (intro w hSw; (try dsimp only at hSw); go_simp; try with_reducible rfl)
                    try simp only [Act.put, List.getElem_toArray, List.getElem_cons_zero, List.getElem_cons_succ, List.setIfInBounds_toArray, List.set_cons_zero, List.set_cons_succ]
                    refine wpAnyH_done (by kernel_rfl) ?_ _
                    refine NoPanic.normal ?_
                    clear hHeld
                    obtain ⟨p', hp', hc0, -, hkk⟩ := H5.out.2.1.after HD.out.1.gt.iv HP.out HMO.out HGO.out
                    subst hc0
                    have HZ : Hid (Ld w1 w5 b t lo s' m' live res va vr L LR ∧ Bk m' live ∧ Ov m' id first ∧ (hurtL m' live).length + 0 ≤ i) := ⟨H5.out.1, H5.out.2.1.bk HP.out HD.out.2, H5.out.2.1.ov HP.out HOV.out, by have h1 := hurtL_len m' live; have h2 := HLN.out; omega⟩
                    have hk12 : k = 1 ∨ k = 2 := hkk.elim (fun h => .inl h.1) (fun h => .inr h.1)
                    clear hp' hkk HD H5 HOV HPS HP
                    rcases hk12 with rfl | rfl
                    · go_wp2_with fail
                      go_loopw [22] (fun kv wr => ∃ (k : Nat) (s : Gs) (m : Ms) (live : List (Int × Int)) (va : Value), kv = I (k : Int) ∧ (hurtL m live).length + k ≤ i ∧ Ld w1 wr b t lo s m live res va vr L LR ∧ Bk m live ∧ Ov m id first) (fun kv _ => 2 * i + 2 - (RowKit.intOf kv).toNat)
                      case atStart => exact ⟨0, s', m', live, va, rfl, HZ.out.2.2.2, HZ.out.1, HZ.out.2.1, HZ.out.2.2.1⟩
                      case round =>
                        clear HZ
                        obtain ⟨k, s, m, live, va, rfl, hkl, hLd, hbk, hov⟩ := hrel
                        have hnN := HN.out
                        have hw2a : wrap64 (2 * (i : Int)) = 2 * (i : Int) := by unfold wrap64; omega
                        have hw2 : wrap64 (2 * (i : Int) + 2) = 2 * (i : Int) + 2 := by unfold wrap64; omega
                        have hkI : (k : Int) < 2 * (i : Int) + 2 := by omega
                        have hwk : wrap64 ((k : Int) + 1) = (k : Int) + 1 := by unfold wrap64; omega
                        have HWK := hide hwk
                        have HY : Hid (Ld w1 wr b t lo s m live res va vr L LR ∧ Bk m live ∧ Ov m id first ∧ (hurtL m live).length + k ≤ i) := ⟨hLd, hbk, hov, hkl⟩
                        have KH := hide (hurt_any b t s m L LR va vr lo live wr hLd.gt hLd.sg.blk hLd.sg.lf hbk)
                        clear hkl hLd hbk hov hnN hwk
                        go_wp2_with (first | (go_at_call 18; refine Hid.out ?_) | fail)
                        unfold Hid
                        refine KH.out.mono ?_
                        rintro e w8 ⟨hv, rfl, hrow, hg8⟩
                        generalize hhe : hurtL m live = hs at hrow
                        have HHE := hide hhe
                        obtain ⟨ha, hc, rfl⟩ := row_form hrow
                        have HG8 := hide hg8
                        have HROW := hide hrow
                        have HRF : Hid (∀ k, (Value.slice ha hs.length hc).ownBlock = some k → s.own k = none) := fun k hk => HY.out.1.gt.tt.fresh (World.ownsRow.lt hrow k hk).1
                        clear hhe hrow hg8 KH hw2a hw2 hkI
                        cases hs with
                        | nil =>
                          have hno : ∀ y q, m.lv y = some q → q.hurt = false := fun y q hq => by
                            cases e : q.hurt with
                            | false => rfl
                            | true =>
                              have := (hurtL_mem HY.out.2.1).2 ⟨q, hq, e⟩
                              rw [HHE.out] at this; cases this
                          obtain ⟨p9, hp9, hs9, -, ho9⟩ := HY.out.2.2.1
                          have hg9 := oldest_done HY.out.1.gt.iv hp9 (fun y q hq => by rw [hs9]; exact ho9 y q hq) hno
                          have KW : Hid (Calls Tryz.prog 16 #[ptr t, I id] w8 fun e w' => e = .returned (.tuple #[.agg #[I p9.at_.lv, .string p9.at_.lb, I p9.at_.id], I 0, I 0]) ∧ G w8 w') := by
                            have := waiting_t (HY.out.1.gt.G HG8.out) hp9
                            rw [hg9] at this
                            exact this
                          have q1 := (HY.out.1.G HG8.out).sg.blk.cell
                          have hgw : G W w8 := HW1.out.2.trans (HY.out.1.G HG8.out).gw
                          have HGW := hide hgw
                          clear hno hp9 hs9 ho9 hg9 hgw
                          go_wp2_with (first | (go_at_call 16; with_reducible refine KW.out.mono ?_; rintro e w9 ⟨rfl, hg9⟩) | fail)
                          go_ret
                          exact ⟨rfl, HGW.out.trans hg9⟩
                        | cons y hs1 =>
                          obtain ⟨hs, hhs⟩ : ∃ hs, hs = y :: hs1 := ⟨_, rfl⟩
                          rw [← hhs] at HHE HROW HRF ⊢
                          have HY0 : Hid (hs[0]? = some y) := by rw [Hid, hhs]; rfl
                          have hl0 : ¬ ((hs.length : Int) = 0) := by rw [hhs]; simp; omega
                          have d0 : ((hs.length : Int) == 0) = false := by simp only [beq_eq_false_iff_ne]; exact hl0
                          have hl1 : (0 : Int) < (hs.length : Int) := by omega
                          have hl2 : 0 < hs.length := by omega
                          obtain ⟨py, hpy, hyh⟩ := (hurtL_mem HY.out.2.1).1 (show y ∈ hurtL m live by rw [HHE.out]; exact List.mem_of_getElem? HY0.out)
                          obtain ⟨ga, hga, kc⟩ := int_at HROW.out HY0.out
                          subst hga
                          have HYC : Hid (w8.drew.cell? ⟨ga, 0, none⟩ = some (I y)) := kc
                          have HPY : Hid (m.lv y = some py ∧ py.hurt = true) := ⟨hpy, hyh⟩
                          have KE := hide (End_t ((HY.out.1.gt.G HG8.out).G (G.refl w8).drew) hpy HL.out HLR.out)
                          clear hhs hpy hyh kc
                          go_wp2_with fail
                          go_upto_region 33 with fail
                          refine wp_region_noPanic ?_
                          refine wp_region_held_drew (S := (fun U => Blk U b 31 [ptr t, va, vr] ∧ U.cell? ⟨ga, 0, none⟩ = some (I y))) (by kernel_rfl) (⟨(HY.out.1.G HG8.out).sg.blk.drew, HYC.out⟩) (fun hHeld => ?_)
                          refine wpAnyH_take (i := 0) (v := ?_) rfl (by kernel_rfl) (by kernel_rfl) (by kernel_rfl) (fun _ _ _ h => h) (Or.inl ⟨by rfl, ?_⟩) hHeld ?_
                          rotate_left 1
                          · (intro w hSw; have q1 := hSw.1.cell; have q2 := hSw.2; go_simp; try with_reducible rfl)
                          try simp only [Act.put, List.getElem_toArray, List.getElem_cons_zero, List.setIfInBounds_toArray, List.set_cons_zero, List.set_cons_succ]
                          refine wpAnyH_take (i := 1) (v := ?_) rfl (by kernel_rfl) (by kernel_rfl) (by kernel_rfl) (fun _ _ _ h => h) (Or.inl ⟨by rfl, ?_⟩) hHeld ?_
                          rotate_left 1
                          · (intro w hSw; have q1 := hSw.1.cell; have q2 := hSw.2; go_simp; try with_reducible rfl)
                          try simp only [Act.put, List.getElem_toArray, List.getElem_cons_zero, List.getElem_cons_succ, List.setIfInBounds_toArray, List.set_cons_zero, List.set_cons_succ]
                          refine wpAnyH_take (i := 2) (v := ?_) rfl (by kernel_rfl) (by kernel_rfl) (by kernel_rfl) (fun _ _ _ h => h) (Or.inl ⟨by rfl, ?_⟩) hHeld ?_
                          rotate_left 1
                          · (intro w hSw; have q1 := hSw.1.cell; have q2 := hSw.2; go_simp; try with_reducible rfl)
                          try simp only [Act.put, List.getElem_toArray, List.getElem_cons_zero, List.getElem_cons_succ, List.setIfInBounds_toArray, List.set_cons_zero, List.set_cons_succ]
                          refine wpAnyH_take (i := 3) (v := ?_) rfl (by kernel_rfl) (by kernel_rfl) (by kernel_rfl) (fun _ _ _ h => h) (Or.inl ⟨by rfl, ?_⟩) hHeld ?_
                          rotate_left 1
                          · (intro w hSw; have q1 := hSw.1.cell; have q2 := hSw.2; go_simp; try with_reducible rfl)
                          try simp only [Act.put, List.getElem_toArray, List.getElem_cons_zero, List.getElem_cons_succ, List.setIfInBounds_toArray, List.set_cons_zero, List.set_cons_succ]
                          refine wpAnyH_take (i := 4) (v := ?_) rfl (by kernel_rfl) (by kernel_rfl) (by kernel_rfl) (fun _ _ _ h => h) (Or.inl ⟨by rfl, ?_⟩) hHeld ?_
                          rotate_left 1
                          · (intro w hSw; have q1 := hSw.1.cell; have q2 := hSw.2; go_simp; try with_reducible rfl)
                          try simp only [Act.put, List.getElem_toArray, List.getElem_cons_zero, List.getElem_cons_succ, List.setIfInBounds_toArray, List.set_cons_zero, List.set_cons_succ]
                          refine wpAnyH_take (i := 5) (v := ?_) rfl (by kernel_rfl) (by kernel_rfl) (by kernel_rfl) (fun _ _ _ h => h) (Or.inl ⟨by rfl, ?_⟩) hHeld ?_
                          rotate_left 1
                          · (intro w hSw; have q1 := hSw.1.cell; have q2 := hSw.2; go_simp; try with_reducible rfl)
                          try simp only [Act.put, List.getElem_toArray, List.getElem_cons_zero, List.getElem_cons_succ, List.setIfInBounds_toArray, List.set_cons_zero, List.set_cons_succ]
                          refine wpAnyH_take (i := 6) (v := ?_) rfl (by kernel_rfl) (by kernel_rfl) (by kernel_rfl) (fun _ _ _ h => h) (Or.inl ⟨by rfl, ?_⟩) hHeld ?_
                          rotate_left 1
                          · (intro w hSw; have q1 := hSw.1.cell; have q2 := hSw.2; go_simp; try with_reducible rfl)
                          try simp only [Act.put, List.getElem_toArray, List.getElem_cons_zero, List.getElem_cons_succ, List.setIfInBounds_toArray, List.set_cons_zero, List.set_cons_succ]
                          refine wpAnyH_ready (rs := [7]) (by kernel_rfl) (by simp) (AllReadyH.cons rfl (fun K hK => ?_) AllReadyH.nil)
                          clear hHeld
                          go_simp
                          with_reducible refine KE.out.mono ?_
                          rintro e w5 ⟨u, out, s', m', rfl, hrow5, hT5, hE5, hK5⟩
                          obtain ⟨ua, uc, rfl⟩ := row_form hrow5
                          have h8 := (HY.out.1.G HG8.out).G (G.refl w8).drew
                          have hrw := own_ext (own_G HROW.out (G.refl w8).drew) hE5 (fun k hk => HRF.out k hk)
                          have H5 : Hid (Ld w1 w5 b t lo s' m' live res va vr L LR ∧ EndK m y py out m' ∧ w5.ownsRow wr.heap.size 3 1 (.slice (some ⟨ga, 0, none⟩) hs.length hc) hs.length (hs.map fun z => I z) ∧ w5.cell? ⟨ga, 0, none⟩ = some (I y)) := by
                            refine ⟨h8.ext hE5 hT5, hK5, hrw, ?_⟩
                            obtain ⟨gb, hgb, k⟩ := int_at hrw HY0.out
                            have e : ga = gb := by simpa using hgb
                            rw [e]; exact k
                          clear hrow5 hT5 hE5 hK5 h8 hrw KE
                          refine hK.out _ _ (⟨H5.out.1.sg.blk, H5.out.2.2.2⟩) (fun hHeld => ?_)
                          clear hK K
                          try simp only [Act.put, List.getElem_toArray, List.getElem_cons_zero, List.getElem_cons_succ, List.setIfInBounds_toArray, List.set_cons_zero, List.set_cons_succ]
                          refine wpAnyH_take (i := 8) (v := ?_) rfl (by kernel_rfl) (by kernel_rfl) (by kernel_rfl) (fun _ _ _ h => h) (Or.inl ⟨by rfl, ?_⟩) hHeld ?_
                          rotate_left 1
                          · (intro w hSw; (try dsimp only at hSw); go_simp; try with_reducible rfl)
                          try simp only [Act.put, List.getElem_toArray, List.getElem_cons_zero, List.getElem_cons_succ, List.setIfInBounds_toArray, List.set_cons_zero, List.set_cons_succ]
                          refine wpAnyH_take (i := 9) (v := ?_) rfl (by kernel_rfl) (by kernel_rfl) (by kernel_rfl) (fun _ _ _ h => h) (Or.inl ⟨by rfl, ?_⟩) hHeld ?_
                          rotate_left 1
                          · (intro w hSw; (try dsimp only at hSw); go_simp; try with_reducible rfl)
                          try simp only [Act.put, List.getElem_toArray, List.getElem_cons_zero, List.getElem_cons_succ, List.setIfInBounds_toArray, List.set_cons_zero, List.set_cons_succ]
                          refine wpAnyH_take (i := 10) (v := ?_) rfl (by kernel_rfl) (by kernel_rfl) (by kernel_rfl) (fun _ _ _ h => h) (Or.inl ⟨by rfl, ?_⟩) hHeld ?_
                          rotate_left 1
                          · (intro w hSw; (try dsimp only at hSw); go_simp; try with_reducible rfl)
                          try simp only [Act.put, List.getElem_toArray, List.getElem_cons_zero, List.getElem_cons_succ, List.setIfInBounds_toArray, List.set_cons_zero, List.set_cons_succ]
                          refine wpAnyH_take (i := 11) (v := ?_) rfl (by kernel_rfl) (by kernel_rfl) (by kernel_rfl) (fun _ _ _ h => h) (Or.inl ⟨by rfl, ?_⟩) hHeld ?_
                          rotate_left 1
                          · (intro w hSw; (try dsimp only at hSw); go_simp; try with_reducible rfl)
                          try simp only [Act.put, List.getElem_toArray, List.getElem_cons_zero, List.getElem_cons_succ, List.setIfInBounds_toArray, List.set_cons_zero, List.set_cons_succ]
                          refine wpAnyH_take (i := 12) (v := ?_) rfl (by kernel_rfl) (by kernel_rfl) (by kernel_rfl) (fun _ _ _ h => h) (Or.inl ⟨by rfl, ?_⟩) hHeld ?_
                          rotate_left 1
                          · (intro w hSw; (try dsimp only at hSw); go_simp; try with_reducible rfl)
                          try simp only [Act.put, List.getElem_toArray, List.getElem_cons_zero, List.getElem_cons_succ, List.setIfInBounds_toArray, List.set_cons_zero, List.set_cons_succ]
                          refine wpAnyH_take (i := 13) (v := ?_) rfl (by kernel_rfl) (by kernel_rfl) (by kernel_rfl) (fun _ _ _ h => h) (Or.inl ⟨by rfl, ?_⟩) hHeld ?_
                          rotate_left 1
                          · (intro w hSw; (try dsimp only at hSw); go_simp; try with_reducible rfl)
                          try simp only [Act.put, List.getElem_toArray, List.getElem_cons_zero, List.getElem_cons_succ, List.setIfInBounds_toArray, List.set_cons_zero, List.set_cons_succ]
                          refine wpAnyH_take (i := 14) (v := ?_) rfl (by kernel_rfl) (by kernel_rfl) (by kernel_rfl) (fun _ _ _ h => h) (Or.inl ⟨by rfl, ?_⟩) hHeld ?_
                          rotate_left 1
                          · (intro w hSw; (try dsimp only at hSw); go_simp; try with_reducible rfl)
                          try simp only [Act.put, List.getElem_toArray, List.getElem_cons_zero, List.getElem_cons_succ, List.setIfInBounds_toArray, List.set_cons_zero, List.set_cons_succ]
                          refine wpAnyH_done (by kernel_rfl) ?_ _
                          refine NoPanic.normal ?_
                          clear hHeld
                          have KG := hide (H5.out.1.gone y)
                          have k5 := H5.out.2.2.2
                          go_wp2_with (first | (go_at_call 20; refine Hid.out ?_) | fail)
                          unfold Hid
                          refine KG.out.mono ?_
                          rintro e w6 ⟨rfl, va', h6, -⟩
                          have H6 : Hid ((hurtL m' (noX y live)).length + (k + 1) ≤ i ∧ Ld w1 w6 b t lo s' m' (noX y live) res va' vr L LR ∧ Bk m' (noX y live) ∧ Ov m' id first) := by
                            have hf := H5.out.2.1.fewer HY.out.2.1 HPY.out.1 HPY.out.2
                            have hk2 := HY.out.2.2.2
                            exact ⟨by omega, h6, H5.out.2.1.bk HY.out.2.1, H5.out.2.1.ov HPY.out.1 HPY.out.2 HY.out.2.2.1⟩
                          clear h6 KG k5
                          go_wp2
                          exact ⟨⟨k + 1, s', m', noX y live, va', by rw [HWK.out]; exact rl1 k, H6.out.1, H6.out.2.1, H6.out.2.2.1, H6.out.2.2.2⟩, by rw [HWK.out]; exact ms_two (by have := H6.out.1; omega)⟩
                    · go_wp2_with fail
                      go_loopw [22] (fun kv wr => ∃ (k : Nat) (s : Gs) (m : Ms) (live : List (Int × Int)) (va : Value), kv = I (k : Int) ∧ (hurtL m live).length + k ≤ i ∧ Ld w1 wr b t lo s m live res va vr L LR ∧ Bk m live ∧ Ov m id first) (fun kv _ => 2 * i + 2 - (RowKit.intOf kv).toNat)
                      case atStart => exact ⟨0, s', m', live, va, rfl, HZ.out.2.2.2, HZ.out.1, HZ.out.2.1, HZ.out.2.2.1⟩
                      case round =>
                        clear HZ
                        obtain ⟨k, s, m, live, va, rfl, hkl, hLd, hbk, hov⟩ := hrel
                        have hnN := HN.out
                        have hw2a : wrap64 (2 * (i : Int)) = 2 * (i : Int) := by unfold wrap64; omega
                        have hw2 : wrap64 (2 * (i : Int) + 2) = 2 * (i : Int) + 2 := by unfold wrap64; omega
                        have hkI : (k : Int) < 2 * (i : Int) + 2 := by omega
                        have hwk : wrap64 ((k : Int) + 1) = (k : Int) + 1 := by unfold wrap64; omega
                        have HWK := hide hwk
                        have HY : Hid (Ld w1 wr b t lo s m live res va vr L LR ∧ Bk m live ∧ Ov m id first ∧ (hurtL m live).length + k ≤ i) := ⟨hLd, hbk, hov, hkl⟩
                        have KH := hide (hurt_any b t s m L LR va vr lo live wr hLd.gt hLd.sg.blk hLd.sg.lf hbk)
                        clear hkl hLd hbk hov hnN hwk
                        go_wp2_with (first | (go_at_call 18; refine Hid.out ?_) | fail)
                        unfold Hid
                        refine KH.out.mono ?_
                        rintro e w8 ⟨hv, rfl, hrow, hg8⟩
                        generalize hhe : hurtL m live = hs at hrow
                        have HHE := hide hhe
                        obtain ⟨ha, hc, rfl⟩ := row_form hrow
                        have HG8 := hide hg8
                        have HROW := hide hrow
                        have HRF : Hid (∀ k, (Value.slice ha hs.length hc).ownBlock = some k → s.own k = none) := fun k hk => HY.out.1.gt.tt.fresh (World.ownsRow.lt hrow k hk).1
                        clear hhe hrow hg8 KH hw2a hw2 hkI
                        cases hs with
                        | nil =>
                          have hno : ∀ y q, m.lv y = some q → q.hurt = false := fun y q hq => by
                            cases e : q.hurt with
                            | false => rfl
                            | true =>
                              have := (hurtL_mem HY.out.2.1).2 ⟨q, hq, e⟩
                              rw [HHE.out] at this; cases this
                          obtain ⟨p9, hp9, hs9, -, ho9⟩ := HY.out.2.2.1
                          have hg9 := oldest_done HY.out.1.gt.iv hp9 (fun y q hq => by rw [hs9]; exact ho9 y q hq) hno
                          have KW : Hid (Calls Tryz.prog 16 #[ptr t, I id] w8 fun e w' => e = .returned (.tuple #[.agg #[I p9.at_.lv, .string p9.at_.lb, I p9.at_.id], I 0, I 0]) ∧ G w8 w') := by
                            have := waiting_t (HY.out.1.gt.G HG8.out) hp9
                            rw [hg9] at this
                            exact this
                          have q1 := (HY.out.1.G HG8.out).sg.blk.cell
                          have hgw : G W w8 := HW1.out.2.trans (HY.out.1.G HG8.out).gw
                          have HGW := hide hgw
                          clear hno hp9 hs9 ho9 hg9 hgw
                          go_wp2_with (first | (go_at_call 16; with_reducible refine KW.out.mono ?_; rintro e w9 ⟨rfl, hg9⟩) | fail)
                          go_ret
                          exact ⟨rfl, HGW.out.trans hg9⟩
                        | cons y hs1 =>
                          obtain ⟨hs, hhs⟩ : ∃ hs, hs = y :: hs1 := ⟨_, rfl⟩
                          rw [← hhs] at HHE HROW HRF ⊢
                          have HY0 : Hid (hs[0]? = some y) := by rw [Hid, hhs]; rfl
                          have hl0 : ¬ ((hs.length : Int) = 0) := by rw [hhs]; simp; omega
                          have d0 : ((hs.length : Int) == 0) = false := by simp only [beq_eq_false_iff_ne]; exact hl0
                          have hl1 : (0 : Int) < (hs.length : Int) := by omega
                          have hl2 : 0 < hs.length := by omega
                          obtain ⟨py, hpy, hyh⟩ := (hurtL_mem HY.out.2.1).1 (show y ∈ hurtL m live by rw [HHE.out]; exact List.mem_of_getElem? HY0.out)
                          obtain ⟨ga, hga, kc⟩ := int_at HROW.out HY0.out
                          subst hga
                          have HYC : Hid (w8.drew.cell? ⟨ga, 0, none⟩ = some (I y)) := kc
                          have HPY : Hid (m.lv y = some py ∧ py.hurt = true) := ⟨hpy, hyh⟩
                          have KE := hide (End_t ((HY.out.1.gt.G HG8.out).G (G.refl w8).drew) hpy HL.out HLR.out)
                          clear hhs hpy hyh kc
                          go_wp2_with fail
                          go_upto_region 33 with fail
                          refine wp_region_noPanic ?_
                          refine wp_region_held_drew (S := (fun U => Blk U b 31 [ptr t, va, vr] ∧ U.cell? ⟨ga, 0, none⟩ = some (I y))) (by kernel_rfl) (⟨(HY.out.1.G HG8.out).sg.blk.drew, HYC.out⟩) (fun hHeld => ?_)
                          refine wpAnyH_take (i := 0) (v := ?_) rfl (by kernel_rfl) (by kernel_rfl) (by kernel_rfl) (fun _ _ _ h => h) (Or.inl ⟨by rfl, ?_⟩) hHeld ?_
                          rotate_left 1
                          · (intro w hSw; have q1 := hSw.1.cell; have q2 := hSw.2; go_simp; try with_reducible rfl)
                          try simp only [Act.put, List.getElem_toArray, List.getElem_cons_zero, List.setIfInBounds_toArray, List.set_cons_zero, List.set_cons_succ]
                          refine wpAnyH_take (i := 1) (v := ?_) rfl (by kernel_rfl) (by kernel_rfl) (by kernel_rfl) (fun _ _ _ h => h) (Or.inl ⟨by rfl, ?_⟩) hHeld ?_
                          rotate_left 1
                          · (intro w hSw; have q1 := hSw.1.cell; have q2 := hSw.2; go_simp; try with_reducible rfl)
                          try simp only [Act.put, List.getElem_toArray, List.getElem_cons_zero, List.getElem_cons_succ, List.setIfInBounds_toArray, List.set_cons_zero, List.set_cons_succ]
                          refine wpAnyH_take (i := 2) (v := ?_) rfl (by kernel_rfl) (by kernel_rfl) (by kernel_rfl) (fun _ _ _ h => h) (Or.inl ⟨by rfl, ?_⟩) hHeld ?_
                          rotate_left 1
                          · (intro w hSw; have q1 := hSw.1.cell; have q2 := hSw.2; go_simp; try with_reducible rfl)
                          try simp only [Act.put, List.getElem_toArray, List.getElem_cons_zero, List.getElem_cons_succ, List.setIfInBounds_toArray, List.set_cons_zero, List.set_cons_succ]
                          refine wpAnyH_take (i := 3) (v := ?_) rfl (by kernel_rfl) (by kernel_rfl) (by kernel_rfl) (fun _ _ _ h => h) (Or.inl ⟨by rfl, ?_⟩) hHeld ?_
                          rotate_left 1
                          · (intro w hSw; have q1 := hSw.1.cell; have q2 := hSw.2; go_simp; try with_reducible rfl)
                          try simp only [Act.put, List.getElem_toArray, List.getElem_cons_zero, List.getElem_cons_succ, List.setIfInBounds_toArray, List.set_cons_zero, List.set_cons_succ]
                          refine wpAnyH_take (i := 4) (v := ?_) rfl (by kernel_rfl) (by kernel_rfl) (by kernel_rfl) (fun _ _ _ h => h) (Or.inl ⟨by rfl, ?_⟩) hHeld ?_
                          rotate_left 1
                          · (intro w hSw; have q1 := hSw.1.cell; have q2 := hSw.2; go_simp; try with_reducible rfl)
                          try simp only [Act.put, List.getElem_toArray, List.getElem_cons_zero, List.getElem_cons_succ, List.setIfInBounds_toArray, List.set_cons_zero, List.set_cons_succ]
                          refine wpAnyH_take (i := 5) (v := ?_) rfl (by kernel_rfl) (by kernel_rfl) (by kernel_rfl) (fun _ _ _ h => h) (Or.inl ⟨by rfl, ?_⟩) hHeld ?_
                          rotate_left 1
                          · (intro w hSw; have q1 := hSw.1.cell; have q2 := hSw.2; go_simp; try with_reducible rfl)
                          try simp only [Act.put, List.getElem_toArray, List.getElem_cons_zero, List.getElem_cons_succ, List.setIfInBounds_toArray, List.set_cons_zero, List.set_cons_succ]
                          refine wpAnyH_take (i := 6) (v := ?_) rfl (by kernel_rfl) (by kernel_rfl) (by kernel_rfl) (fun _ _ _ h => h) (Or.inl ⟨by rfl, ?_⟩) hHeld ?_
                          rotate_left 1
                          · (intro w hSw; have q1 := hSw.1.cell; have q2 := hSw.2; go_simp; try with_reducible rfl)
                          try simp only [Act.put, List.getElem_toArray, List.getElem_cons_zero, List.getElem_cons_succ, List.setIfInBounds_toArray, List.set_cons_zero, List.set_cons_succ]
                          refine wpAnyH_ready (rs := [7]) (by kernel_rfl) (by simp) (AllReadyH.cons rfl (fun K hK => ?_) AllReadyH.nil)
                          clear hHeld
                          go_simp
                          with_reducible refine KE.out.mono ?_
                          rintro e w5 ⟨u, out, s', m', rfl, hrow5, hT5, hE5, hK5⟩
                          obtain ⟨ua, uc, rfl⟩ := row_form hrow5
                          have h8 := (HY.out.1.G HG8.out).G (G.refl w8).drew
                          have hrw := own_ext (own_G HROW.out (G.refl w8).drew) hE5 (fun k hk => HRF.out k hk)
                          have H5 : Hid (Ld w1 w5 b t lo s' m' live res va vr L LR ∧ EndK m y py out m' ∧ w5.ownsRow wr.heap.size 3 1 (.slice (some ⟨ga, 0, none⟩) hs.length hc) hs.length (hs.map fun z => I z) ∧ w5.cell? ⟨ga, 0, none⟩ = some (I y)) := by
                            refine ⟨h8.ext hE5 hT5, hK5, hrw, ?_⟩
                            obtain ⟨gb, hgb, k⟩ := int_at hrw HY0.out
                            have e : ga = gb := by simpa using hgb
                            rw [e]; exact k
                          clear hrow5 hT5 hE5 hK5 h8 hrw KE
                          refine hK.out _ _ (⟨H5.out.1.sg.blk, H5.out.2.2.2⟩) (fun hHeld => ?_)
                          clear hK K
                          try simp only [Act.put, List.getElem_toArray, List.getElem_cons_zero, List.getElem_cons_succ, List.setIfInBounds_toArray, List.set_cons_zero, List.set_cons_succ]
                          refine wpAnyH_take (i := 8) (v := ?_) rfl (by kernel_rfl) (by kernel_rfl) (by kernel_rfl) (fun _ _ _ h => h) (Or.inl ⟨by rfl, ?_⟩) hHeld ?_
                          rotate_left 1
                          · (intro w hSw; (try dsimp only at hSw); go_simp; try with_reducible rfl)
                          try simp only [Act.put, List.getElem_toArray, List.getElem_cons_zero, List.getElem_cons_succ, List.setIfInBounds_toArray, List.set_cons_zero, List.set_cons_succ]
                          refine wpAnyH_take (i := 9) (v := ?_) rfl (by kernel_rfl) (by kernel_rfl) (by kernel_rfl) (fun _ _ _ h => h) (Or.inl ⟨by rfl, ?_⟩) hHeld ?_
                          rotate_left 1
                          · (intro w hSw; (try dsimp only at hSw); go_simp; try with_reducible rfl)
                          try simp only [Act.put, List.getElem_toArray, List.getElem_cons_zero, List.getElem_cons_succ, List.setIfInBounds_toArray, List.set_cons_zero, List.set_cons_succ]
                          refine wpAnyH_take (i := 10) (v := ?_) rfl (by kernel_rfl) (by kernel_rfl) (by kernel_rfl) (fun _ _ _ h => h) (Or.inl ⟨by rfl, ?_⟩) hHeld ?_
                          rotate_left 1
                          · (intro w hSw; (try dsimp only at hSw); go_simp; try with_reducible rfl)
                          try simp only [Act.put, List.getElem_toArray, List.getElem_cons_zero, List.getElem_cons_succ, List.setIfInBounds_toArray, List.set_cons_zero, List.set_cons_succ]
                          refine wpAnyH_take (i := 11) (v := ?_) rfl (by kernel_rfl) (by kernel_rfl) (by kernel_rfl) (fun _ _ _ h => h) (Or.inl ⟨by rfl, ?_⟩) hHeld ?_
                          rotate_left 1
                          · (intro w hSw; (try dsimp only at hSw); go_simp; try with_reducible rfl)
                          try simp only [Act.put, List.getElem_toArray, List.getElem_cons_zero, List.getElem_cons_succ, List.setIfInBounds_toArray, List.set_cons_zero, List.set_cons_succ]
                          refine wpAnyH_take (i := 12) (v := ?_) rfl (by kernel_rfl) (by kernel_rfl) (by kernel_rfl) (fun _ _ _ h => h) (Or.inl ⟨by rfl, ?_⟩) hHeld ?_
                          rotate_left 1
                          · (intro w hSw; (try dsimp only at hSw); go_simp; try with_reducible rfl)
                          try simp only [Act.put, List.getElem_toArray, List.getElem_cons_zero, List.getElem_cons_succ, List.setIfInBounds_toArray, List.set_cons_zero, List.set_cons_succ]
                          refine wpAnyH_take (i := 13) (v := ?_) rfl (by kernel_rfl) (by kernel_rfl) (by kernel_rfl) (fun _ _ _ h => h) (Or.inl ⟨by rfl, ?_⟩) hHeld ?_
                          rotate_left 1
                          · (intro w hSw; (try dsimp only at hSw); go_simp; try with_reducible rfl)
                          try simp only [Act.put, List.getElem_toArray, List.getElem_cons_zero, List.getElem_cons_succ, List.setIfInBounds_toArray, List.set_cons_zero, List.set_cons_succ]
                          refine wpAnyH_take (i := 14) (v := ?_) rfl (by kernel_rfl) (by kernel_rfl) (by kernel_rfl) (fun _ _ _ h => h) (Or.inl ⟨by rfl, ?_⟩) hHeld ?_
                          rotate_left 1
                          · (intro w hSw; (try dsimp only at hSw); go_simp; try with_reducible rfl)
                          try simp only [Act.put, List.getElem_toArray, List.getElem_cons_zero, List.getElem_cons_succ, List.setIfInBounds_toArray, List.set_cons_zero, List.set_cons_succ]
                          refine wpAnyH_done (by kernel_rfl) ?_ _
                          refine NoPanic.normal ?_
                          clear hHeld
                          have KG := hide (H5.out.1.gone y)
                          have k5 := H5.out.2.2.2
                          go_wp2_with (first | (go_at_call 20; refine Hid.out ?_) | fail)
                          unfold Hid
                          refine KG.out.mono ?_
                          rintro e w6 ⟨rfl, va', h6, -⟩
                          have H6 : Hid ((hurtL m' (noX y live)).length + (k + 1) ≤ i ∧ Ld w1 w6 b t lo s' m' (noX y live) res va' vr L LR ∧ Bk m' (noX y live) ∧ Ov m' id first) := by
                            have hf := H5.out.2.1.fewer HY.out.2.1 HPY.out.1 HPY.out.2
                            have hk2 := HY.out.2.2.2
                            exact ⟨by omega, h6, H5.out.2.1.bk HY.out.2.1, H5.out.2.1.ov HPY.out.1 HPY.out.2 HY.out.2.2.1⟩
                          clear h6 KG k5
                          go_wp2
                          exact ⟨⟨k + 1, s', m', noX y live, va', by rw [HWK.out]; exact rl1 k, H6.out.1, H6.out.2.1, H6.out.2.2.1, H6.out.2.2.2⟩, by rw [HWK.out]; exact ms_two (by have := H6.out.1; omega)⟩
                  · have g1 : (p.goal == 0) = false := by simp [hg]
                    have g2 : (p.goal != 0) = true := by simp [hg]
                    go_wp2_with (first | (go_at_call 15; with_reducible refine KD.out.mono ?_; rintro e w' ⟨rfl, hw'⟩; have hw2 := hw'.symm; subst hw2; clear hw') | (go_at_call 16; refine Hid.out ?_) | fail)
                    unfold Hid
                    refine KW.out.mono ?_
                    rintro e w7a ⟨rfl, hg7a⟩
                    have H7 := hide (hg7a.alloc (.cells #[I p.at_.lv, .string p.at_.lb, I p.at_.id] 24))
                    clear hg7a KD KW
                    go_wp2_with fail
                    generalize w7a.alloc (.cells #[I p.at_.lv, .string p.at_.lb, I p.at_.id] 24) = w7 at H7 ⊢
                    have HZ : Hid (Ld w1 w7 b t lo s m live res va vr L LR ∧ Bk m live ∧ Ov m id first ∧ (hurtL m live).length + 0 ≤ i) := ⟨HX.out.1.G H7.out, HX.out.2, HOV.out, by have h1 := hurtL_len m live; have h2 := HLN.out; omega⟩
                    clear H7 HX HOV HPS HP g1 g2 hg
                    go_loopw [22] (fun kv wr => ∃ (k : Nat) (s : Gs) (m : Ms) (live : List (Int × Int)) (va : Value), kv = I (k : Int) ∧ (hurtL m live).length + k ≤ i ∧ Ld w1 wr b t lo s m live res va vr L LR ∧ Bk m live ∧ Ov m id first) (fun kv _ => 2 * i + 2 - (RowKit.intOf kv).toNat)
                    case atStart => exact ⟨0, s, m, live, va, rfl, HZ.out.2.2.2, HZ.out.1, HZ.out.2.1, HZ.out.2.2.1⟩
                    case round =>
                      clear HZ
                      obtain ⟨k, s, m, live, va, rfl, hkl, hLd, hbk, hov⟩ := hrel
                      have hnN := HN.out
                      have hw2a : wrap64 (2 * (i : Int)) = 2 * (i : Int) := by unfold wrap64; omega
                      have hw2 : wrap64 (2 * (i : Int) + 2) = 2 * (i : Int) + 2 := by unfold wrap64; omega
                      have hkI : (k : Int) < 2 * (i : Int) + 2 := by omega
                      have hwk : wrap64 ((k : Int) + 1) = (k : Int) + 1 := by unfold wrap64; omega
                      have HWK := hide hwk
                      have HY : Hid (Ld w1 wr b t lo s m live res va vr L LR ∧ Bk m live ∧ Ov m id first ∧ (hurtL m live).length + k ≤ i) := ⟨hLd, hbk, hov, hkl⟩
                      have KH := hide (hurt_any b t s m L LR va vr lo live wr hLd.gt hLd.sg.blk hLd.sg.lf hbk)
                      clear hkl hLd hbk hov hnN hwk
                      go_wp2_with (first | (go_at_call 18; refine Hid.out ?_) | fail)
                      unfold Hid
                      refine KH.out.mono ?_
                      rintro e w8 ⟨hv, rfl, hrow, hg8⟩
                      generalize hhe : hurtL m live = hs at hrow
                      have HHE := hide hhe
                      obtain ⟨ha, hc, rfl⟩ := row_form hrow
                      have HG8 := hide hg8
                      have HROW := hide hrow
                      have HRF : Hid (∀ k, (Value.slice ha hs.length hc).ownBlock = some k → s.own k = none) := fun k hk => HY.out.1.gt.tt.fresh (World.ownsRow.lt hrow k hk).1
                      clear hhe hrow hg8 KH hw2a hw2 hkI
                      cases hs with
                      | nil =>
                        have hno : ∀ y q, m.lv y = some q → q.hurt = false := fun y q hq => by
                          cases e : q.hurt with
                          | false => rfl
                          | true =>
                            have := (hurtL_mem HY.out.2.1).2 ⟨q, hq, e⟩
                            rw [HHE.out] at this; cases this
                        obtain ⟨p9, hp9, hs9, -, ho9⟩ := HY.out.2.2.1
                        have hg9 := oldest_done HY.out.1.gt.iv hp9 (fun y q hq => by rw [hs9]; exact ho9 y q hq) hno
                        have KW : Hid (Calls Tryz.prog 16 #[ptr t, I id] w8 fun e w' => e = .returned (.tuple #[.agg #[I p9.at_.lv, .string p9.at_.lb, I p9.at_.id], I 0, I 0]) ∧ G w8 w') := by
                          have := waiting_t (HY.out.1.gt.G HG8.out) hp9
                          rw [hg9] at this
                          exact this
                        have q1 := (HY.out.1.G HG8.out).sg.blk.cell
                        have hgw : G W w8 := HW1.out.2.trans (HY.out.1.G HG8.out).gw
                        have HGW := hide hgw
                        clear hno hp9 hs9 ho9 hg9 hgw
                        go_wp2_with (first | (go_at_call 16; with_reducible refine KW.out.mono ?_; rintro e w9 ⟨rfl, hg9⟩) | fail)
                        go_ret
                        exact ⟨rfl, HGW.out.trans hg9⟩
                      | cons y hs1 =>
                        obtain ⟨hs, hhs⟩ : ∃ hs, hs = y :: hs1 := ⟨_, rfl⟩
                        rw [← hhs] at HHE HROW HRF ⊢
                        have HY0 : Hid (hs[0]? = some y) := by rw [Hid, hhs]; rfl
                        have hl0 : ¬ ((hs.length : Int) = 0) := by rw [hhs]; simp; omega
                        have d0 : ((hs.length : Int) == 0) = false := by simp only [beq_eq_false_iff_ne]; exact hl0
                        have hl1 : (0 : Int) < (hs.length : Int) := by omega
                        have hl2 : 0 < hs.length := by omega
                        obtain ⟨py, hpy, hyh⟩ := (hurtL_mem HY.out.2.1).1 (show y ∈ hurtL m live by rw [HHE.out]; exact List.mem_of_getElem? HY0.out)
                        obtain ⟨ga, hga, kc⟩ := int_at HROW.out HY0.out
                        subst hga
                        have HYC : Hid (w8.drew.cell? ⟨ga, 0, none⟩ = some (I y)) := kc
                        have HPY : Hid (m.lv y = some py ∧ py.hurt = true) := ⟨hpy, hyh⟩
                        have KE := hide (End_t ((HY.out.1.gt.G HG8.out).G (G.refl w8).drew) hpy HL.out HLR.out)
                        clear hhs hpy hyh kc
                        go_wp2_with fail
                        go_upto_region 33 with fail
                        refine wp_region_noPanic ?_
                        refine wp_region_held_drew (S := (fun U => Blk U b 31 [ptr t, va, vr] ∧ U.cell? ⟨ga, 0, none⟩ = some (I y))) (by kernel_rfl) (⟨(HY.out.1.G HG8.out).sg.blk.drew, HYC.out⟩) (fun hHeld => ?_)
                        refine wpAnyH_take (i := 0) (v := ?_) rfl (by kernel_rfl) (by kernel_rfl) (by kernel_rfl) (fun _ _ _ h => h) (Or.inl ⟨by rfl, ?_⟩) hHeld ?_
                        rotate_left 1
                        · (intro w hSw; have q1 := hSw.1.cell; have q2 := hSw.2; go_simp; try with_reducible rfl)
                        try simp only [Act.put, List.getElem_toArray, List.getElem_cons_zero, List.setIfInBounds_toArray, List.set_cons_zero, List.set_cons_succ]
                        refine wpAnyH_take (i := 1) (v := ?_) rfl (by kernel_rfl) (by kernel_rfl) (by kernel_rfl) (fun _ _ _ h => h) (Or.inl ⟨by rfl, ?_⟩) hHeld ?_
                        rotate_left 1
                        · (intro w hSw; have q1 := hSw.1.cell; have q2 := hSw.2; go_simp; try with_reducible rfl)
                        try simp only [Act.put, List.getElem_toArray, List.getElem_cons_zero, List.getElem_cons_succ, List.setIfInBounds_toArray, List.set_cons_zero, List.set_cons_succ]
                        refine wpAnyH_take (i := 2) (v := ?_) rfl (by kernel_rfl) (by kernel_rfl) (by kernel_rfl) (fun _ _ _ h => h) (Or.inl ⟨by rfl, ?_⟩) hHeld ?_
                        rotate_left 1
                        · (intro w hSw; have q1 := hSw.1.cell; have q2 := hSw.2; go_simp; try with_reducible rfl)
                        try simp only [Act.put, List.getElem_toArray, List.getElem_cons_zero, List.getElem_cons_succ, List.setIfInBounds_toArray, List.set_cons_zero, List.set_cons_succ]
                        refine wpAnyH_take (i := 3) (v := ?_) rfl (by kernel_rfl) (by kernel_rfl) (by kernel_rfl) (fun _ _ _ h => h) (Or.inl ⟨by rfl, ?_⟩) hHeld ?_
                        rotate_left 1
                        · (intro w hSw; have q1 := hSw.1.cell; have q2 := hSw.2; go_simp; try with_reducible rfl)
                        try simp only [Act.put, List.getElem_toArray, List.getElem_cons_zero, List.getElem_cons_succ, List.setIfInBounds_toArray, List.set_cons_zero, List.set_cons_succ]
                        refine wpAnyH_take (i := 4) (v := ?_) rfl (by kernel_rfl) (by kernel_rfl) (by kernel_rfl) (fun _ _ _ h => h) (Or.inl ⟨by rfl, ?_⟩) hHeld ?_
                        rotate_left 1
                        · (intro w hSw; have q1 := hSw.1.cell; have q2 := hSw.2; go_simp; try with_reducible rfl)
                        try simp only [Act.put, List.getElem_toArray, List.getElem_cons_zero, List.getElem_cons_succ, List.setIfInBounds_toArray, List.set_cons_zero, List.set_cons_succ]
                        refine wpAnyH_take (i := 5) (v := ?_) rfl (by kernel_rfl) (by kernel_rfl) (by kernel_rfl) (fun _ _ _ h => h) (Or.inl ⟨by rfl, ?_⟩) hHeld ?_
                        rotate_left 1
                        · (intro w hSw; have q1 := hSw.1.cell; have q2 := hSw.2; go_simp; try with_reducible rfl)
                        try simp only [Act.put, List.getElem_toArray, List.getElem_cons_zero, List.getElem_cons_succ, List.setIfInBounds_toArray, List.set_cons_zero, List.set_cons_succ]
                        refine wpAnyH_take (i := 6) (v := ?_) rfl (by kernel_rfl) (by kernel_rfl) (by kernel_rfl) (fun _ _ _ h => h) (Or.inl ⟨by rfl, ?_⟩) hHeld ?_
                        rotate_left 1
                        · (intro w hSw; have q1 := hSw.1.cell; have q2 := hSw.2; go_simp; try with_reducible rfl)
                        try simp only [Act.put, List.getElem_toArray, List.getElem_cons_zero, List.getElem_cons_succ, List.setIfInBounds_toArray, List.set_cons_zero, List.set_cons_succ]
                        refine wpAnyH_ready (rs := [7]) (by kernel_rfl) (by simp) (AllReadyH.cons rfl (fun K hK => ?_) AllReadyH.nil)
                        clear hHeld
                        go_simp
                        with_reducible refine KE.out.mono ?_
                        rintro e w5 ⟨u, out, s', m', rfl, hrow5, hT5, hE5, hK5⟩
                        obtain ⟨ua, uc, rfl⟩ := row_form hrow5
                        have h8 := (HY.out.1.G HG8.out).G (G.refl w8).drew
                        have hrw := own_ext (own_G HROW.out (G.refl w8).drew) hE5 (fun k hk => HRF.out k hk)
                        have H5 : Hid (Ld w1 w5 b t lo s' m' live res va vr L LR ∧ EndK m y py out m' ∧ w5.ownsRow wr.heap.size 3 1 (.slice (some ⟨ga, 0, none⟩) hs.length hc) hs.length (hs.map fun z => I z) ∧ w5.cell? ⟨ga, 0, none⟩ = some (I y)) := by
                          refine ⟨h8.ext hE5 hT5, hK5, hrw, ?_⟩
                          obtain ⟨gb, hgb, k⟩ := int_at hrw HY0.out
                          have e : ga = gb := by simpa using hgb
                          rw [e]; exact k
                        clear hrow5 hT5 hE5 hK5 h8 hrw KE
                        refine hK.out _ _ (⟨H5.out.1.sg.blk, H5.out.2.2.2⟩) (fun hHeld => ?_)
                        clear hK K
                        try simp only [Act.put, List.getElem_toArray, List.getElem_cons_zero, List.getElem_cons_succ, List.setIfInBounds_toArray, List.set_cons_zero, List.set_cons_succ]
                        refine wpAnyH_take (i := 8) (v := ?_) rfl (by kernel_rfl) (by kernel_rfl) (by kernel_rfl) (fun _ _ _ h => h) (Or.inl ⟨by rfl, ?_⟩) hHeld ?_
                        rotate_left 1
                        · (intro w hSw; (try dsimp only at hSw); go_simp; try with_reducible rfl)
                        try simp only [Act.put, List.getElem_toArray, List.getElem_cons_zero, List.getElem_cons_succ, List.setIfInBounds_toArray, List.set_cons_zero, List.set_cons_succ]
                        refine wpAnyH_take (i := 9) (v := ?_) rfl (by kernel_rfl) (by kernel_rfl) (by kernel_rfl) (fun _ _ _ h => h) (Or.inl ⟨by rfl, ?_⟩) hHeld ?_
                        rotate_left 1
                        · (intro w hSw; (try dsimp only at hSw); go_simp; try with_reducible rfl)
                        try simp only [Act.put, List.getElem_toArray, List.getElem_cons_zero, List.getElem_cons_succ, List.setIfInBounds_toArray, List.set_cons_zero, List.set_cons_succ]
                        refine wpAnyH_take (i := 10) (v := ?_) rfl (by kernel_rfl) (by kernel_rfl) (by kernel_rfl) (fun _ _ _ h => h) (Or.inl ⟨by rfl, ?_⟩) hHeld ?_
                        rotate_left 1
                        · (intro w hSw; (try dsimp only at hSw); go_simp; try with_reducible rfl)
                        try simp only [Act.put, List.getElem_toArray, List.getElem_cons_zero, List.getElem_cons_succ, List.setIfInBounds_toArray, List.set_cons_zero, List.set_cons_succ]
                        refine wpAnyH_take (i := 11) (v := ?_) rfl (by kernel_rfl) (by kernel_rfl) (by kernel_rfl) (fun _ _ _ h => h) (Or.inl ⟨by rfl, ?_⟩) hHeld ?_
                        rotate_left 1
                        · (intro w hSw; (try dsimp only at hSw); go_simp; try with_reducible rfl)
                        try simp only [Act.put, List.getElem_toArray, List.getElem_cons_zero, List.getElem_cons_succ, List.setIfInBounds_toArray, List.set_cons_zero, List.set_cons_succ]
                        refine wpAnyH_take (i := 12) (v := ?_) rfl (by kernel_rfl) (by kernel_rfl) (by kernel_rfl) (fun _ _ _ h => h) (Or.inl ⟨by rfl, ?_⟩) hHeld ?_
                        rotate_left 1
                        · (intro w hSw; (try dsimp only at hSw); go_simp; try with_reducible rfl)
                        try simp only [Act.put, List.getElem_toArray, List.getElem_cons_zero, List.getElem_cons_succ, List.setIfInBounds_toArray, List.set_cons_zero, List.set_cons_succ]
                        refine wpAnyH_take (i := 13) (v := ?_) rfl (by kernel_rfl) (by kernel_rfl) (by kernel_rfl) (fun _ _ _ h => h) (Or.inl ⟨by rfl, ?_⟩) hHeld ?_
                        rotate_left 1
                        · (intro w hSw; (try dsimp only at hSw); go_simp; try with_reducible rfl)
                        try simp only [Act.put, List.getElem_toArray, List.getElem_cons_zero, List.getElem_cons_succ, List.setIfInBounds_toArray, List.set_cons_zero, List.set_cons_succ]
                        refine wpAnyH_take (i := 14) (v := ?_) rfl (by kernel_rfl) (by kernel_rfl) (by kernel_rfl) (fun _ _ _ h => h) (Or.inl ⟨by rfl, ?_⟩) hHeld ?_
                        rotate_left 1
                        · (intro w hSw; (try dsimp only at hSw); go_simp; try with_reducible rfl)
                        try simp only [Act.put, List.getElem_toArray, List.getElem_cons_zero, List.getElem_cons_succ, List.setIfInBounds_toArray, List.set_cons_zero, List.set_cons_succ]
                        refine wpAnyH_done (by kernel_rfl) ?_ _
                        refine NoPanic.normal ?_
                        clear hHeld
                        have KG := hide (H5.out.1.gone y)
                        have k5 := H5.out.2.2.2
                        go_wp2_with (first | (go_at_call 20; refine Hid.out ?_) | fail)
                        unfold Hid
                        refine KG.out.mono ?_
                        rintro e w6 ⟨rfl, va', h6, -⟩
                        have H6 : Hid ((hurtL m' (noX y live)).length + (k + 1) ≤ i ∧ Ld w1 w6 b t lo s' m' (noX y live) res va' vr L LR ∧ Bk m' (noX y live) ∧ Ov m' id first) := by
                          have hf := H5.out.2.1.fewer HY.out.2.1 HPY.out.1 HPY.out.2
                          have hk2 := HY.out.2.2.2
                          exact ⟨by omega, h6, H5.out.2.1.bk HY.out.2.1, H5.out.2.1.ov HPY.out.1 HPY.out.2 HY.out.2.2.1⟩
                        clear h6 KG k5
                        go_wp2
                        exact ⟨⟨k + 1, s', m', noX y live, va', by rw [HWK.out]; exact rl1 k, H6.out.1, H6.out.2.1, H6.out.2.2.1, H6.out.2.2.2⟩, by rw [HWK.out]; exact ms_two (by have := H6.out.1; omega)⟩
          · by_cases m1 : mode < 1
            · clear hm hf d1 d2
              go_wp2_with (first | (go_at_call 13; refine Hid.out ?_) | fail)
              unfold Hid
              refine (free_any b _ va vr lo live w6 HX.out.1.sg.blk HX.out.1.sg.lf).mono ?_
              rintro e wf ⟨⟨nf, rfl, n1, n2, n3⟩, hwf⟩
              have hwf2 := hwf.symm
              subst hwf2
              have KB : Hid (Calls Tryz.prog 14 #[ptr t, I nf, I nf] w6 fun e w' => e = .returned (I 0) ∧ G w1 w') := by
                have hr : R64 nf := by have := HX.out.1.sg.lf.2; unfold R64; omega
                have h1 := HX.out.1.gt
                refine (begin_any t s nf nf w6 h1.tt hr n1 n1 (fun y p hy => (h1.iv.lv y p.m (h1.ab.at hy)).xr) L (fun y p hy => (h1.iv.lv y p.m (h1.ab.at hy)).xl) (by have := HL.out; have hmx : (4100000000000 : Nat) ≤ maxLen := of_decide_eq_true (by kernel_rfl); omega)).mono ?_
                rintro e w' (⟨⟨y, q, hq, he⟩, -⟩ | ⟨-, rfl, s', p, -, -, -, -, hE⟩)
                · have h2 := n3 (y, q.m.stamp) ((HX.out.2.mem y q.m.stamp).2 ⟨q.m, h1.ab.at hq, rfl⟩)
                  rcases he with he | he
                  · exact absurd he h2.1
                  · exact absurd he h2.2
                · exact ⟨rfl, HX.out.1.gext hE⟩
              have q1 := HX.out.1.sg.blk.cell
              clear n1 n2 n3 hwf
              go_wp2_with (first | (go_at_call 14; with_reducible refine KB.out.mono ?_; rintro e w9 ⟨rfl, hg9⟩) | fail)
              go_ret
              exact ⟨rfl, HW1.out.2.trans hg9⟩
            · have m2 : 5 < mode := by omega
              clear hm hf d1 d2
              go_wp2_with (first | (go_at_call 13; refine Hid.out ?_) | fail)
              unfold Hid
              refine (free_any b _ va vr lo live w6 HX.out.1.sg.blk HX.out.1.sg.lf).mono ?_
              rintro e wf ⟨⟨nf, rfl, n1, n2, n3⟩, hwf⟩
              have hwf2 := hwf.symm
              subst hwf2
              have KB : Hid (Calls Tryz.prog 14 #[ptr t, I nf, I nf] w6 fun e w' => e = .returned (I 0) ∧ G w1 w') := by
                have hr : R64 nf := by have := HX.out.1.sg.lf.2; unfold R64; omega
                have h1 := HX.out.1.gt
                refine (begin_any t s nf nf w6 h1.tt hr n1 n1 (fun y p hy => (h1.iv.lv y p.m (h1.ab.at hy)).xr) L (fun y p hy => (h1.iv.lv y p.m (h1.ab.at hy)).xl) (by have := HL.out; have hmx : (4100000000000 : Nat) ≤ maxLen := of_decide_eq_true (by kernel_rfl); omega)).mono ?_
                rintro e w' (⟨⟨y, q, hq, he⟩, -⟩ | ⟨-, rfl, s', p, -, -, -, -, hE⟩)
                · have h2 := n3 (y, q.m.stamp) ((HX.out.2.mem y q.m.stamp).2 ⟨q.m, h1.ab.at hq, rfl⟩)
                  rcases he with he | he
                  · exact absurd he h2.1
                  · exact absurd he h2.2
                · exact ⟨rfl, HX.out.1.gext hE⟩
              have q1 := HX.out.1.sg.blk.cell
              clear n1 n2 n3 hwf
              go_wp2_with (first | (go_at_call 14; with_reducible refine KB.out.mono ?_; rintro e w9 ⟨rfl, hg9⟩) | fail)
              go_ret
              exact ⟨rfl, HW1.out.2.trans hg9⟩
end Go.Proofs.YtkbgifhhnnfgoaaGreatDoor
