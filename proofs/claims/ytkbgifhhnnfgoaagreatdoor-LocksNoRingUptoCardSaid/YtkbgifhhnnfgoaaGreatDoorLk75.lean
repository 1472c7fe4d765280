/- Locks: the book's Begin. -/
import Derived.Test.YtkbgifhhnnfgoaaGreatDoorLk74
namespace Go.Proofs.YtkbgifhhnnfgoaaGreatDoor
open Go.RowKit

theorem frB_snoc {x st : Int} {live : List (Int × Int)} {j : Nat} {a : Int × Int} (h : live[j]? = some a) : frB x st (live.take (j + 1)) = (frB x st (live.take j) && (a.1 != x && a.2 != st)) := by
  unfold frB
  rw [tak2_snoc h]
  cases decide (1 ≤ x ∧ 1 ≤ st) <;> cases tak2 x st (live.take j) <;> simp [bne]
/-- The answer of a Begin. -/
theorem begin_all {w : World} {t : Nat} {s : Gs} {m : Ms} {L : List Int} {LR : List Rs} {live : List (Int × Int)} (h : GT w t s m L LR) (hbk : Bk m live) {x st : Int} (hx : R64 x) (hxl : x ∈ L) (hL : L.length < 2000000000000) :
    Calls Tryz.prog 14 #[ptr t, I x, I st] w fun e w' => ∃ (c : Int) (s' : Gs) (m' : Ms), e = .returned (I c) ∧ GT w' t s' m' L LR ∧ Ext w w' s s' ∧ ((frB x st live = false ∧ c ≠ 0 ∧ m' = m) ∨ (frB x st live = true ∧ c = 0 ∧ m' = mNew m x st ∧ Bk m' (live ++ [(x, st)]))) := by
  by_cases h1 : 1 ≤ x ∧ 1 ≤ st
  · refine (begin_t h hx h1.1 hxl h1.2 hL).mono ?_
    rintro e w' (⟨ht, rfl, g⟩ | ⟨ht, rfl, s', hT, hE⟩)
    · refine ⟨80, s, m, rfl, h.G g, G.ext s g, .inl ⟨?_, by decide, rfl⟩⟩
      unfold frB
      rw [(tak2_iff hbk).2 ht]; simp
    · refine ⟨0, s', _, rfl, hT, hE, .inr ⟨?_, rfl, rfl, new_bk ht hbk⟩⟩
      unfold frB
      have : tak2 x st live = false := by
        cases e : tak2 x st live with
        | false => rfl
        | true => exact absurd ((tak2_iff hbk).1 e) ht
      rw [this]; simp [h1]
  · refine (begin_bad t x st w h1).mono ?_
    rintro e w' ⟨rfl, rfl⟩
    refine ⟨1, s, m, rfl, h, Ext.refl _ _, .inl ⟨?_, by decide, rfl⟩⟩
    unfold frB
    simp [h1]
theorem Ld.grow {W0 w w' : World} {b t lo : Nat} {s : Gs} {m : Ms} {live live' : List (Int × Int)} {res : List Rs} {va va' vr : Value} {L : List Int} {LR : List Rs} (h : Ld W0 w b t lo s m live res va vr L LR) (hc : Chg (fun k => va.ownBlock = some k) w w') (hl : Lf w' lo va' live') (hv : ∀ k, va'.ownBlock = some k → va.ownBlock = some k ∨ w.heap.size ≤ k) : Ld W0 (w'.setCell ⟨b, 1, none⟩ va') b t lo s m live' res va' vr L LR := by
  have h0 := h.sg
  have hb1 : Blk w' b 31 [ptr t, va, vr] := h0.blk.chg hc (fun e => by have h1 := (World.ownsRow.lt h0.lf.1 b e).1; have h2 := h0.bl; omega)
  have c2 : Chg (fun k => k = b) w' (w'.setCell ⟨b, 1, none⟩ va') := chgk w' b 1 va'
  have hcc : Chg (fun k => k = b ∨ va.ownBlock = some k) w (w'.setCell ⟨b, 1, none⟩ va') := (hc.mono (fun k e => .inr e)).trans (c2.mono (fun k e => .inl e))
  have hd : ∀ k, (k = b ∨ va.ownBlock = some k) → s.own k = none ∧ k ≠ 1 ∧ k ≠ 0 := fun k e => by
    rcases e with e | e
    · rw [e]; exact ⟨h0.ob, h0.b2.1, h0.b2.2⟩
    · have h1 := (World.ownsRow.lt h0.lf.1 k e).1
      have h2 := h0.l2
      exact ⟨h0.oa k e, by omega, by omega⟩
  refine ⟨⟨hb1.set 1 va', ⟨own_chg hl.1 c2 (fun k hk e => ?_), hl.2⟩, own_chg h0.rs hcc (fun k hk e => ?_), h0.rl, h0.bl, Nat.le_trans h0.lw hcc.size, h0.ob, fun k hk => ?_, h0.or, h0.b2, h0.l2⟩, h.gt.chg hcc hd, h.rg, h.gw.of_chg hcc (fun k e => ?_), h.ob, h.wb⟩
  · have h1 := (World.ownsRow.lt hl.1 k hk).1
    have h2 := h0.bl
    omega
  · rcases e with e | e
    · have h1 := (World.ownsRow.lt h0.rs k hk).1
      have h2 := h0.bl
      omega
    · exact own_apart h0.lf.1 h0.rs (by decide) k e hk
  · rcases hv k hk with e | e
    · exact h0.oa k e
    · exact h.gt.tt.fresh e
  · rcases e with e | e
    · rw [e]; exact h.wb
    · have h1 := (World.ownsRow.lt h0.lf.1 k e).1
      have h2 := h0.bl
      have h3 := h.wb
      omega
theorem app_life5 (w7 : World) (lo : Nat) (u : Value) (qs : List (Int × Int)) (x y : Int) (hu : w7.ownsRow lo 41 2 u qs.length (qc qs)) (hl : qs.length < 4100000000000) (hlo : lo ≤ w7.heap.size) :
    ∃ v' w9, (Builtin.append_ #[28, 28] 28 #[u, .slice (some ⟨w7.heap.size, 0, none⟩) 1 1]).run Tryz.prog (w7.alloc (.cells #[I x, I y] 41)) = .ok v' w9 ∧ w9.ownsRow lo 41 2 v' (qs ++ [(x, y)]).length (qc (qs ++ [(x, y)])) ∧ (w7.alloc (.cells #[I x, I y] 41)).grownBy w9 u.ownBlock ∧ (v'.ownBlock = u.ownBlock ∨ v'.ownBlock = some (w7.alloc (.cells #[I x, I y] 41)).heap.size) := by
  obtain ⟨i0, hi, hz0, hz1, hz2⟩ := info_parts (show (Tryz.prog.info? 41).map (fun i => (i.zero, i.size, i.bytes)) = some (some (.agg #[.int .i64 0, .int .i64 0]), 2, 16) from by kernel_rfl)
  have hmx : (4100000000001 : Nat) ≤ maxLen := of_decide_eq_true (by kernel_rfl)
  have gA : G w7 (w7.alloc (.cells #[I x, I y] 41)) := (G.refl w7).alloc _
  have hb := (Blk.new w7 [I x, I y] 41)
  have hu2 : (w7.alloc (.cells #[I x, I y] 41)).ownsRow lo 41 2 u qs.length (qc qs) := own_G hu gA
  obtain ⟨v', w9, q1, q2, q3, -, q5⟩ := run_append_own_at (P := Tryz.prog) (w := w7.alloc (.cells #[I x, I y] 41)) lo 28 28 41 i0 _ 2 16 Tryz.underlying28 hi hz0 hz1 hz2 rfl (by decide) u _ _ hu2 ⟨w7.heap.size, 0, none⟩ 1 1 [I x, I y] (by simp) (fun j u hj => by
    have := hb.cell j
    rw [hj] at this
    rw [Addr.add_mid, Nat.zero_add]; exact this) (fun u hu => by simp at hu; rcases hu with rfl | rfl <;> rfl) (by omega) (by omega) (Nat.le_trans hlo gA.size)
  refine ⟨v', w9, q1, ?_, q3, q5⟩
  rw [qc_snoc, List.length_append]
  exact q2
set_option maxRecDepth 100000 in
set_option maxHeartbeats 2000000 in
theorem steps_begin {W0 w : World} {b t lo : Nat} {s : Gs} {m : Ms} {live : List (Int × Int)} {res : List Rs} {va vr : Value} {L : List Int} {LR : List Rs} (h : Ld W0 w b t lo s m live res va vr L LR) (hbk : Bk m live) (who x st : Int) (r : Rs) (mode : Int) (hx : R64 x) (hxl : x ∈ L) (hL : L.length < 2000000000000) (hll : live.length + 1 < 2000000000000) :
    Calls Tryz.prog 10 #[ptr b, .agg #[I 1, I who, I x, I st, I r.lv, .string r.lb, I r.id, I mode]] w (StepQ W0 b t lo live.length res.length L LR) := by
  obtain ⟨aa, ac, rfl⟩ := h.sg.lf.form
  have H1 : Hid (Ld W0 (w.alloc (.cells #[I 1, I who, I x, I st, I r.lv, .string r.lb, I r.id, I mode] 34)) b t lo s m live res (.slice aa live.length ac) vr L LR ∧ Blk (w.alloc (.cells #[I 1, I who, I x, I st, I r.lv, .string r.lb, I r.id, I mode] 34)) w.heap.size 34 [I 1, I who, I x, I st, I r.lv, .string r.lb, I r.id, I mode] ∧ s.own w.heap.size = none ∧ w.heap.size ≠ b ∧ (∀ k, (Value.slice aa live.length ac).ownBlock = some k → k ≠ w.heap.size)) :=
    ⟨h.G ((G.refl w).alloc _), Blk.new w [I 1, I who, I x, I st, I r.lv, .string r.lb, I r.id, I mode] 34, h.gt.tt.fresh (Nat.le_refl _), by have := h.sg.blk.lt; omega, fun k hk e => by have := (World.ownsRow.lt h.sg.lf.1 k hk).2; omega⟩
  have HBK := hide hbk; have HX0 := hide hx; have HXL := hide hxl; have HL := hide hL; have HLL := hide hll
  have q2 := H1.out.2.1.cell
  clear h hbk hx hxl hL hll
  have hfr : frB x st (live.take 0) = (decide (1 ≤ x) && decide (1 ≤ st)) := by simp [frB, tak2]
  have HFR := hide hfr
  clear hfr
  go_enter Tryz.func10, Tryz.ntmps10
  go_upto_region 3 with fail
  go_cut [5] from 12 to 19 (fun v W => v = .bool (frB x st (live.take 0)) ∧ W = w.alloc (.cells #[I 1, I who, I x, I st, I r.lv, .string r.lb, I r.id, I mode] 34))
  case first =>
    by_cases hx1 : 1 ≤ x
    · by_cases hs1 : 1 ≤ st
      · go_wp2_with fail
        go_meet
        case rel => exact ⟨by rw [HFR.out]; simp [hx1, hs1], rfl⟩
      · go_wp2_with fail
        go_meet
        case rel => exact ⟨by rw [HFR.out]; simp [hx1, hs1], rfl⟩
    · go_wp2_with fail
      go_meet
      case rel => exact ⟨by rw [HFR.out, decide_eq_false (show ¬ 1 ≤ x by omega)]; rfl, rfl⟩
  case rest =>
    obtain ⟨rfl, rfl⟩ := hcut
    clear q2 HFR
    obtain ⟨w1, hw1⟩ : ∃ w1, w1 = w.alloc (.cells #[I 1, I who, I x, I st, I r.lv, .string r.lb, I r.id, I mode] 34) := ⟨_, rfl⟩
    rw [← hw1] at H1 ⊢
    clear hw1
    generalize w.heap.size = ob at H1 ⊢
    go_wp2_with fail
    go_loopw [5, 6] (fun fv iv wr => ∃ n : Nat, n ≤ live.length ∧ fv = .bool (frB x st (live.take n)) ∧ iv = I (n : Int) ∧ G w1 wr) (fun _ iv _ => live.length - (RowKit.intOf iv).toNat)
    case atStart => exact ⟨0, Nat.zero_le _, rfl, rfl, G.refl _⟩
    case round =>
      obtain ⟨n, hn, rfl, rfl, hgw⟩ := hrel
      have hLd := H1.out.1.G hgw
      have q1 := hLd.sg.blk.cell
      have q2 := (H1.out.2.1.G hgw).cell
      by_cases hlt : n < live.length
      · obtain ⟨⟨c1, c2⟩, hc1⟩ : ∃ a, live[n]? = some a := ⟨_, List.getElem?_eq_getElem hlt⟩
        obtain ⟨ga, hga, k1, k2⟩ := hLd.sg.lf.at hc1
        subst hga
        have hnI : (n : Int) < (live.length : Int) := by omega
        have hwn : wrap64 ((n : Int) + 1) = (n : Int) + 1 := by have := hLd.sg.lf.2; unfold wrap64; omega
        have HWN := hide hwn
        have HSN := hide (frB_snoc (x := x) (st := st) hc1)
        have HGW := hide hgw; have HLT := hide hlt
        clear hLd hgw hc1 hlt hn hwn
        cases hf : frB x st (live.take n) with
        | false =>
          have HSF : Hid (frB x st (live.take (n + 1)) = false) := by rw [Hid, HSN.out, hf]; rfl
          clear hf HSN
          go_wp2
          go_quiet (fail)
          generalize hV : World.drewN wr _ = V
          have HGV : Hid (G w1 V) := by rw [← hV]; exact HGW.out.drewN _
          clear hV q1 q2 k1 k2
          go_wp2
          exact ⟨⟨n + 1, HLT.out, by rw [HSF.out], by rw [HWN.out]; exact rl1 n, HGV.out⟩, by rw [HWN.out]; exact ms_end HLT.out⟩
        | true =>
          by_cases e1 : c1 = x
          · have HSF : Hid (frB x st (live.take (n + 1)) = false) := by rw [Hid, HSN.out, hf]; simp [e1]
            rw [e1] at k1
            clear hf HSN e1
            go_wp2
            go_quiet (fail)
            generalize hV : World.drewN wr _ = V
            have HGV : Hid (G w1 V) := by rw [← hV]; exact HGW.out.drewN _
            clear hV q1 q2 k1 k2
            go_wp2
            exact ⟨⟨n + 1, HLT.out, by rw [HSF.out], by rw [HWN.out]; exact rl1 n, HGV.out⟩, by rw [HWN.out]; exact ms_end HLT.out⟩
          · have d1 : (c1 != x) = true := by simp [e1]
            have d2 : (c1 == x) = false := by simp [e1]
            have d3 : decide (c1 = x) = false := by simp [e1]
            by_cases e2 : c2 = st
            · have HSF : Hid (frB x st (live.take (n + 1)) = false) := by rw [Hid, HSN.out, hf]; simp [e2]
              rw [e2] at k2
              clear hf HSN e2
              go_wp2
              go_quiet (fail)
              generalize hV : World.drewN wr _ = V
              have HGV : Hid (G w1 V) := by rw [← hV]; exact HGW.out.drewN _
              clear hV q1 q2 k1 k2
              go_wp2
              exact ⟨⟨n + 1, HLT.out, by rw [HSF.out], by rw [HWN.out]; exact rl1 n, HGV.out⟩, by rw [HWN.out]; exact ms_end HLT.out⟩
            · have d4 : (c2 != st) = true := by simp [e2]
              have d5 : (c2 == st) = false := by simp [e2]
              have d6 : decide (c2 = st) = false := by simp [e2]
              have HSF : Hid (frB x st (live.take (n + 1)) = true) := by rw [Hid, HSN.out, hf]; simp [e1, e2]
              clear hf HSN
              go_wp2
              go_quiet (fail)
              generalize hV : World.drewN wr _ = V
              have HGV : Hid (G w1 V) := by rw [← hV]; exact HGW.out.drewN _
              clear hV q1 q2 k1 k2
              go_wp2
              exact ⟨⟨n + 1, HLT.out, by rw [HSF.out], by rw [HWN.out]; exact rl1 n, HGV.out⟩, by rw [HWN.out]; exact ms_end HLT.out⟩
      · have hne : n = live.length := by omega
        subst hne
        have hnI : ¬ ((live.length : Int) < (live.length : Int)) := by omega
        rw [List.take_length]
        have HX : Hid (Ld W0 wr b t lo s m live res (.slice aa live.length ac) vr L LR ∧ Blk wr ob 34 [I 1, I who, I x, I st, I r.lv, .string r.lb, I r.id, I mode]) := ⟨hLd, H1.out.2.1.G hgw⟩
        have KB := hide (begin_all (st := st) (HX.out.1.gt.G (G.refl wr).drew) HBK.out HX0.out HXL.out HL.out)
        clear hLd hn hlt hgw
        go_wp2_with fail
        go_upto_region 8 with fail
        clear q1 q2
        refine wp_region_noPanic ?_
        refine wp_region_held_drew (S := (fun U => Blk U b 31 [ptr t, .slice aa live.length ac, vr] ∧ Blk U ob 34 [I 1, I who, I x, I st, I r.lv, .string r.lb, I r.id, I mode])) (by kernel_rfl) (⟨HX.out.1.sg.blk.drew, HX.out.2.drew⟩) (fun hHeld => ?_)
        refine wpAnyH_take (i := 0) (v := ?_) rfl (by kernel_rfl) (by kernel_rfl) (by kernel_rfl) (fun _ _ _ h => h) (Or.inl ⟨by rfl, ?_⟩) hHeld ?_
        rotate_left 1
        · (intro w hSw; have q1 := hSw.1.cell; have q2 := hSw.2.cell; go_simp; try with_reducible rfl)
        try simp only [Act.put, List.getElem_toArray, List.getElem_cons_zero, List.setIfInBounds_toArray, List.set_cons_zero, List.set_cons_succ]
        refine wpAnyH_take (i := 1) (v := ?_) rfl (by kernel_rfl) (by kernel_rfl) (by kernel_rfl) (fun _ _ _ h => h) (Or.inl ⟨by rfl, ?_⟩) hHeld ?_
        rotate_left 1
        · (intro w hSw; have q1 := hSw.1.cell; have q2 := hSw.2.cell; go_simp; try with_reducible rfl)
        try simp only [Act.put, List.getElem_toArray, List.getElem_cons_zero, List.getElem_cons_succ, List.setIfInBounds_toArray, List.set_cons_zero, List.set_cons_succ]
        refine wpAnyH_take (i := 2) (v := ?_) rfl (by kernel_rfl) (by kernel_rfl) (by kernel_rfl) (fun _ _ _ h => h) (Or.inl ⟨by rfl, ?_⟩) hHeld ?_
        rotate_left 1
        · (intro w hSw; have q1 := hSw.1.cell; have q2 := hSw.2.cell; go_simp; try with_reducible rfl)
        try simp only [Act.put, List.getElem_toArray, List.getElem_cons_zero, List.getElem_cons_succ, List.setIfInBounds_toArray, List.set_cons_zero, List.set_cons_succ]
        refine wpAnyH_take (i := 3) (v := ?_) rfl (by kernel_rfl) (by kernel_rfl) (by kernel_rfl) (fun _ _ _ h => h) (Or.inl ⟨by rfl, ?_⟩) hHeld ?_
        rotate_left 1
        · (intro w hSw; have q1 := hSw.1.cell; have q2 := hSw.2.cell; go_simp; try with_reducible rfl)
        try simp only [Act.put, List.getElem_toArray, List.getElem_cons_zero, List.getElem_cons_succ, List.setIfInBounds_toArray, List.set_cons_zero, List.set_cons_succ]
        refine wpAnyH_take (i := 4) (v := ?_) rfl (by kernel_rfl) (by kernel_rfl) (by kernel_rfl) (fun _ _ _ h => h) (Or.inl ⟨by rfl, ?_⟩) hHeld ?_
        rotate_left 1
        · (intro w hSw; have q1 := hSw.1.cell; have q2 := hSw.2.cell; go_simp; try with_reducible rfl)
        try simp only [Act.put, List.getElem_toArray, List.getElem_cons_zero, List.getElem_cons_succ, List.setIfInBounds_toArray, List.set_cons_zero, List.set_cons_succ]
        refine wpAnyH_take (i := 5) (v := ?_) rfl (by kernel_rfl) (by kernel_rfl) (by kernel_rfl) (fun _ _ _ h => h) (Or.inl ⟨by rfl, ?_⟩) hHeld ?_
        rotate_left 1
        · (intro w hSw; have q1 := hSw.1.cell; have q2 := hSw.2.cell; go_simp; try with_reducible rfl)
        try simp only [Act.put, List.getElem_toArray, List.getElem_cons_zero, List.getElem_cons_succ, List.setIfInBounds_toArray, List.set_cons_zero, List.set_cons_succ]
        refine wpAnyH_take (i := 6) (v := ?_) rfl (by kernel_rfl) (by kernel_rfl) (by kernel_rfl) (fun _ _ _ h => h) (Or.inl ⟨by rfl, ?_⟩) hHeld ?_
        rotate_left 1
        · (intro w hSw; have q1 := hSw.1.cell; have q2 := hSw.2.cell; go_simp; try with_reducible rfl)
        try simp only [Act.put, List.getElem_toArray, List.getElem_cons_zero, List.getElem_cons_succ, List.setIfInBounds_toArray, List.set_cons_zero, List.set_cons_succ]
        refine wpAnyH_take (i := 7) (v := ?_) rfl (by kernel_rfl) (by kernel_rfl) (by kernel_rfl) (fun _ _ _ h => h) (Or.inl ⟨by rfl, ?_⟩) hHeld ?_
        rotate_left 1
        · (intro w hSw; have q1 := hSw.1.cell; have q2 := hSw.2.cell; go_simp; try with_reducible rfl)
        try simp only [Act.put, List.getElem_toArray, List.getElem_cons_zero, List.getElem_cons_succ, List.setIfInBounds_toArray, List.set_cons_zero, List.set_cons_succ]
        refine wpAnyH_ready (rs := [8]) (by kernel_rfl) (by simp) (AllReadyH.cons rfl (fun K hK => ?_) AllReadyH.nil)
        clear hHeld
        go_simp
        with_reducible refine KB.out.mono ?_
        rintro e w4 ⟨c, s', m', rfl, hT4, hE4, hK4⟩
        have H4 : Hid (Ld W0 w4 b t lo s' m' live res (.slice aa live.length ac) vr L LR ∧ Blk w4 ob 34 [I 1, I who, I x, I st, I r.lv, .string r.lb, I r.id, I mode] ∧ ((frB x st live = false ∧ c ≠ 0 ∧ m' = m) ∨ (frB x st live = true ∧ c = 0 ∧ m' = mNew m x st ∧ Bk m' (live ++ [(x, st)])))) := ⟨(HX.out.1.G (G.refl wr).drew).ext hE4 hT4, (HX.out.2.drew).chg hE4.chg (fun e => e H1.out.2.2.1), hK4⟩
        clear hT4 hE4 hK4 KB
        refine hK.out _ _ (⟨H4.out.1.sg.blk, H4.out.2.1⟩) (fun hHeld => ?_)
        clear hK K
        try simp only [Act.put, List.getElem_toArray, List.getElem_cons_zero, List.getElem_cons_succ, List.setIfInBounds_toArray, List.set_cons_zero, List.set_cons_succ]
        refine wpAnyH_take (i := 9) (v := ?_) rfl (by kernel_rfl) (by kernel_rfl) (by kernel_rfl) (fun _ _ _ h => h) (Or.inl ⟨by rfl, ?_⟩) hHeld ?_
        rotate_left 1
        · (intro w hSw; (try dsimp only at hSw); go_simp; try with_reducible rfl)
        try simp only [Act.put, List.getElem_toArray, List.getElem_cons_zero, List.getElem_cons_succ, List.setIfInBounds_toArray, List.set_cons_zero, List.set_cons_succ]
        refine wpAnyH_done (by kernel_rfl) ?_ _
        refine NoPanic.normal ?_
        clear hHeld
        rcases H4.out.2.2 with ⟨f1, f2, f3⟩ | ⟨f1, f2, f3, f4⟩
        · rw [f1]
          have d1 : (c != 0) = true := by simp [f2]
          have d2 : (c == 0) = false := by simp [f2]
          have HQ : Hid (StepQ W0 b t lo live.length res.length L LR (.returned (.bool true)) w4) := ⟨rfl, s', m', live, res, _, vr, Nat.le_succ _, Nat.le_succ _, H4.out.1, by rw [f3]; exact HBK.out⟩
          clear f1 f2 f3
          go_wp2
          go_ret
          exact HQ.out
        · rw [f1]
          subst f2
          have HBK4 := hide f4
          have HG6 : Hid (G w4 (w4.alloc (.cells #[I x, I st] 41)).drew) := ((G.refl w4).alloc _).drew
          have h4 := H4.out.1
          obtain ⟨v9, w9, r1, r2, r3, r4⟩ := app_life5 w4.drew lo (.slice aa live.length ac) live x st (own_G h4.sg.lf.1 (G.refl w4).drew) (by have := h4.sg.lf.2; omega) h4.sg.lw
          have HR1 : Hid ((Builtin.append_ #[28, 28] 28 #[.slice aa live.length ac, .slice (some ⟨w4.heap.size, 0, none⟩) 1 1]).run Tryz.prog (w4.alloc (.cells #[I x, I st] 41)).drew = .ok v9 w9) := r1
          have hcg : Chg (fun k => (Value.slice aa live.length ac).ownBlock = some k) (w4.alloc (.cells #[I x, I st] 41)).drew w9 := ⟨r3.os, r3.tape, r3.output, r3.size, fun k hk hn => r3.block k hk (fun e => hn e.symm)⟩
          have HB9 : Hid (Blk w9 b 31 [ptr t, .slice aa live.length ac, vr]) := (h4.sg.blk.G HG6.out).chg hcg (fun e => by have h1 := (World.ownsRow.lt h4.sg.lf.1 b e).1; have h2 := h4.sg.bl; omega)
          have HX9 : Hid (Blk w9 ob 34 [I 1, I who, I x, I st, I r.lv, .string r.lb, I r.id, I mode]) := (H4.out.2.1.G HG6.out).chg hcg (fun e => H1.out.2.2.2.2 ob e rfl)
          have HV9 : Hid (∀ k, v9.ownBlock = some k → (Value.slice aa live.length ac).ownBlock = some k ∨ w4.heap.size ≤ k) := fun k hk => by
            rcases r4 with e | e
            · exact .inl (by rw [← e]; exact hk)
            · rw [hk] at e
              have h1 := Option.some.inj e
              have h2 : w4.heap.size ≤ (w4.drew.alloc (.cells #[I x, I st] 41)).heap.size := (((G.refl w4).drew).alloc _).size
              exact .inr (by rw [h1]; exact h2)
          have hln : (live ++ [(x, st)]).length < 2000000000000 := by rw [List.length_append]; exact HLL.out
          have HC9 : Hid (Chg (fun k => (Value.slice aa live.length ac).ownBlock = some k) w4 w9) := (HG6.out.chg).trans hcg
          have hlen1 : (live ++ [(x, st)]).length = live.length + 1 := by simp
          rw [hlen1] at r2
          obtain ⟨va9, vc9, rfl⟩ := row_form r2
          have H9 := hide (h4.grow (live' := live ++ [(x, st)]) HC9.out ⟨by rw [hlen1]; exact r2, hln⟩ HV9.out)
          clear r1 r2 r3 r4 hcg h4 f1 f3 f4 hln hlen1
          go_wp2_with fail
          go_upto_region 11 with fail
          refine wp_region_noPanic ?_
          refine wp_region_L (S := (fun U => Blk U b 31 [ptr t, .slice aa live.length ac, vr] ∧ Blk U ob 34 [I 1, I who, I x, I st, I r.lv, .string r.lb, I r.id, I mode])) 14 (by kernel_rfl) (⟨H4.out.1.sg.blk.drew, H4.out.2.1.drew⟩) (fun hHeld => ?_)
          refine wpAnyL_take (i := 0) (v := ?_) rfl (by kernel_rfl) (by kernel_rfl) (by kernel_rfl) (by kernel_rfl) (fun _ _ _ h => h) (Or.inl ⟨by rfl, ?_⟩) hHeld ?_
          rotate_left 1
          · (intro w hSw; have q1 := hSw.1.cell; have q2 := hSw.2.cell; go_simp; try with_reducible rfl)
          try simp only [Act.put, List.getElem_toArray, List.getElem_cons_zero, List.setIfInBounds_toArray]
          refine wpAnyL_take (i := 1) (v := ?_) rfl (by kernel_rfl) (by kernel_rfl) (by kernel_rfl) (by kernel_rfl) (fun _ _ _ h => h) (Or.inl ⟨by rfl, ?_⟩) hHeld ?_
          rotate_left 1
          · (intro w hSw; have q1 := hSw.1.cell; have q2 := hSw.2.cell; go_simp; try with_reducible rfl)
          try simp only [Act.put, List.getElem_toArray, List.getElem_cons_zero, List.getElem_cons_succ, List.setIfInBounds_toArray, List.set_cons_zero, List.set_cons_succ]
          refine wpAnyL_take (i := 2) (v := ?_) rfl (by kernel_rfl) (by kernel_rfl) (by kernel_rfl) (by kernel_rfl) (fun _ _ _ h => h) (Or.inl ⟨by rfl, ?_⟩) hHeld ?_
          rotate_left 1
          · (intro w hSw; have q1 := hSw.1.cell; have q2 := hSw.2.cell; go_simp; try with_reducible rfl)
          try simp only [Act.put, List.getElem_toArray, List.getElem_cons_zero, List.getElem_cons_succ, List.setIfInBounds_toArray, List.set_cons_zero, List.set_cons_succ]
          refine wpAnyL_take (i := 3) (v := ?_) rfl (by kernel_rfl) (by kernel_rfl) (by kernel_rfl) (by kernel_rfl) (fun _ _ _ h => h) (Or.inl ⟨by rfl, ?_⟩) hHeld ?_
          rotate_left 1
          · (intro w hSw; have q1 := hSw.1.cell; have q2 := hSw.2.cell; go_simp; try with_reducible rfl)
          try simp only [Act.put, List.getElem_toArray, List.getElem_cons_zero, List.getElem_cons_succ, List.setIfInBounds_toArray, List.set_cons_zero, List.set_cons_succ]
          refine wpAnyL_take (i := 4) (v := ?_) rfl (by kernel_rfl) (by kernel_rfl) (by kernel_rfl) (by kernel_rfl) (fun _ _ _ h => h) (Or.inl ⟨by rfl, ?_⟩) hHeld ?_
          rotate_left 1
          · (intro w hSw; have q1 := hSw.1.cell; have q2 := hSw.2.cell; go_simp; try with_reducible rfl)
          try simp only [Act.put, List.getElem_toArray, List.getElem_cons_zero, List.getElem_cons_succ, List.setIfInBounds_toArray, List.set_cons_zero, List.set_cons_succ]
          refine wpAnyL_take (i := 5) (v := ?_) rfl (by kernel_rfl) (by kernel_rfl) (by kernel_rfl) (by kernel_rfl) (fun _ _ _ h => h) (Or.inl ⟨by rfl, ?_⟩) hHeld ?_
          rotate_left 1
          · (intro w hSw; have q1 := hSw.1.cell; have q2 := hSw.2.cell; go_simp; try with_reducible rfl)
          try simp only [Act.put, List.getElem_toArray, List.getElem_cons_zero, List.getElem_cons_succ, List.setIfInBounds_toArray, List.set_cons_zero, List.set_cons_succ]
          refine wpAnyL_take (i := 6) (v := ?_) rfl (by kernel_rfl) (by kernel_rfl) (by kernel_rfl) (by kernel_rfl) (fun _ _ _ h => h) (Or.inl ⟨by rfl, ?_⟩) hHeld ?_
          rotate_left 1
          · (intro w hSw; have q1 := hSw.1.cell; have q2 := hSw.2.cell; go_simp; try with_reducible rfl)
          try simp only [Act.put, List.getElem_toArray, List.getElem_cons_zero, List.getElem_cons_succ, List.setIfInBounds_toArray, List.set_cons_zero, List.set_cons_succ]
          refine wpAnyL_take (i := 7) (v := ?_) rfl (by kernel_rfl) (by kernel_rfl) (by kernel_rfl) (by kernel_rfl) (fun _ _ _ h => h) (Or.inl ⟨by rfl, ?_⟩) hHeld ?_
          rotate_left 1
          · (intro w hSw; have q1 := hSw.1.cell; have q2 := hSw.2.cell; go_simp; try with_reducible rfl)
          try simp only [Act.put, List.getElem_toArray, List.getElem_cons_zero, List.getElem_cons_succ, List.setIfInBounds_toArray, List.set_cons_zero, List.set_cons_succ]
          refine wpAnyL_take (i := 8) (v := ?_) rfl (by kernel_rfl) (by kernel_rfl) (by kernel_rfl) (by kernel_rfl) (fun _ _ _ h => h) (Or.inl ⟨by rfl, ?_⟩) hHeld ?_
          rotate_left 1
          · (intro w hSw; have q1 := hSw.1.cell; have q2 := hSw.2.cell; go_simp; try with_reducible rfl)
          try simp only [Act.put, List.getElem_toArray, List.getElem_cons_zero, List.getElem_cons_succ, List.setIfInBounds_toArray, List.set_cons_zero, List.set_cons_succ]
          refine wpAnyL_take (i := 9) (v := ?_) rfl (by kernel_rfl) (by kernel_rfl) (by kernel_rfl) (by kernel_rfl) (fun _ _ _ h => h) (Or.inl ⟨by rfl, ?_⟩) hHeld ?_
          rotate_left 1
          · (intro w hSw; have q1 := hSw.1.cell; have q2 := hSw.2.cell; go_simp; try with_reducible rfl)
          try simp only [Act.put, List.getElem_toArray, List.getElem_cons_zero, List.getElem_cons_succ, List.setIfInBounds_toArray, List.set_cons_zero, List.set_cons_succ]
          refine wpAnyL_one (i := 10) (by kernel_rfl) rfl (by kernel_rfl) (fun K hK => ?_)
          clear hHeld
          go_simp
          refine hK.out _ _ (⟨H4.out.1.sg.blk.G HG6.out, H4.out.2.1.G HG6.out⟩) (fun hHeld => ?_)
          clear hK K
          try simp only [Act.put, List.getElem_toArray, List.getElem_cons_zero, List.getElem_cons_succ, List.setIfInBounds_toArray, List.set_cons_zero, List.set_cons_succ]
          refine wpAnyL_one (i := 11) (by kernel_rfl) rfl (by kernel_rfl) (fun K hK => ?_)
          clear hHeld
          refine (if_pos rfl).mpr ?_
          refine wp_of_exec (exec_append _ _ 28 rfl (.slice aa live.length ac) (.slice (some ⟨w4.heap.size, 0, none⟩) 1 1) rfl rfl 28 rfl HR1.out) ?_
          refine hK.out _ _ (⟨HB9.out, HX9.out⟩) (fun hHeld => ?_)
          clear hK K
          try simp only [Act.put, List.getElem_toArray, List.getElem_cons_zero, List.getElem_cons_succ, List.setIfInBounds_toArray, List.set_cons_zero, List.set_cons_succ]
          refine wpAnyL_take2 13 (i := 12) (v := ?_) rfl (by kernel_rfl) (by kernel_rfl) (by kernel_rfl) (by kernel_rfl) (fun _ _ _ h => h) (Or.inl ⟨by rfl, ?_⟩) hHeld ?_
          rotate_left 1
          · (intro w hSw; (try dsimp only at hSw); go_simp; try with_reducible rfl)
          try simp only [Act.put, List.getElem_toArray, List.getElem_cons_zero, List.getElem_cons_succ, List.setIfInBounds_toArray, List.set_cons_zero, List.set_cons_succ]
          refine wpAnyL_take (i := 13) (v := ?_) rfl (by kernel_rfl) (by kernel_rfl) (by kernel_rfl) (by kernel_rfl) (fun _ _ _ h => h) (Or.inl ⟨by rfl, ?_⟩) hHeld ?_
          rotate_left 1
          · (intro w hSw; (try dsimp only at hSw); go_simp; try with_reducible rfl)
          try simp only [Act.put, List.getElem_toArray, List.getElem_cons_zero, List.getElem_cons_succ, List.setIfInBounds_toArray, List.set_cons_zero, List.set_cons_succ]
          refine wpAnyL_last (by kernel_rfl) rfl (by kernel_rfl) (fun K hK => ?_)
          clear hHeld
          have hc7 := HB9.out.cell
          have hz7 := HB9.out.frozen
          go_simp
          refine hK.out _ _ ?_
          clear hK K
          refine NoPanic.normal ?_
          generalize w9.setCell ⟨b, 1, none⟩ (.slice va9 (live.length + 1) vc9) = w5 at H9 ⊢
          have H5 : Hid (Ld W0 w5 b t lo s' m' (live ++ [(x, st)]) res (.slice va9 (live.length + 1) vc9) vr L LR) := H9.out
          have KL := hide (live_t (H5.out.gt.G (G.refl w5).drew) HBK4.out H5.out.sg.lf.2)
          clear H9 HR1 HB9 HX9 HV9 HC9
          go_upto_region 12 with fail
          refine wp_region_noPanic ?_
          refine wp_region_held_drew (S := (fun U => Blk U b 31 [ptr t, .slice va9 (live.length + 1) vc9, vr])) (by kernel_rfl) (H5.out.sg.blk.drew) (fun hHeld => ?_)
          refine wpAnyH_take (i := 0) (v := ?_) rfl (by kernel_rfl) (by kernel_rfl) (by kernel_rfl) (fun _ _ _ h => h) (Or.inl ⟨by rfl, ?_⟩) hHeld ?_
          rotate_left 1
          · (intro w hSw; have q1 := hSw.cell; go_simp; try with_reducible rfl)
          try simp only [Act.put, List.getElem_toArray, List.getElem_cons_zero, List.setIfInBounds_toArray, List.set_cons_zero, List.set_cons_succ]
          refine wpAnyH_take (i := 1) (v := ?_) rfl (by kernel_rfl) (by kernel_rfl) (by kernel_rfl) (fun _ _ _ h => h) (Or.inl ⟨by rfl, ?_⟩) hHeld ?_
          rotate_left 1
          · (intro w hSw; have q1 := hSw.cell; go_simp; try with_reducible rfl)
          try simp only [Act.put, List.getElem_toArray, List.getElem_cons_zero, List.getElem_cons_succ, List.setIfInBounds_toArray, List.set_cons_zero, List.set_cons_succ]
          refine wpAnyH_take (i := 2) (v := ?_) rfl (by kernel_rfl) (by kernel_rfl) (by kernel_rfl) (fun _ _ _ h => h) (Or.inl ⟨by rfl, ?_⟩) hHeld ?_
          rotate_left 1
          · (intro w hSw; have q1 := hSw.cell; go_simp; try with_reducible rfl)
          try simp only [Act.put, List.getElem_toArray, List.getElem_cons_zero, List.getElem_cons_succ, List.setIfInBounds_toArray, List.set_cons_zero, List.set_cons_succ]
          refine wpAnyH_take (i := 3) (v := ?_) rfl (by kernel_rfl) (by kernel_rfl) (by kernel_rfl) (fun _ _ _ h => h) (Or.inl ⟨by rfl, ?_⟩) hHeld ?_
          rotate_left 1
          · (intro w hSw; have q1 := hSw.cell; go_simp; try with_reducible rfl)
          try simp only [Act.put, List.getElem_toArray, List.getElem_cons_zero, List.getElem_cons_succ, List.setIfInBounds_toArray, List.set_cons_zero, List.set_cons_succ]
          refine wpAnyH_take (i := 4) (v := ?_) rfl (by kernel_rfl) (by kernel_rfl) (by kernel_rfl) (fun _ _ _ h => h) (Or.inl ⟨by rfl, ?_⟩) hHeld ?_
          rotate_left 1
          · (intro w hSw; have q1 := hSw.cell; go_simp; try with_reducible rfl)
          try simp only [Act.put, List.getElem_toArray, List.getElem_cons_zero, List.getElem_cons_succ, List.setIfInBounds_toArray, List.set_cons_zero, List.set_cons_succ]
          refine wpAnyH_take (i := 5) (v := ?_) rfl (by kernel_rfl) (by kernel_rfl) (by kernel_rfl) (fun _ _ _ h => h) (Or.inl ⟨by rfl, ?_⟩) hHeld ?_
          rotate_left 1
          · (intro w hSw; have q1 := hSw.cell; go_simp; try with_reducible rfl)
          try simp only [Act.put, List.getElem_toArray, List.getElem_cons_zero, List.getElem_cons_succ, List.setIfInBounds_toArray, List.set_cons_zero, List.set_cons_succ]
          refine wpAnyH_take (i := 6) (v := ?_) rfl (by kernel_rfl) (by kernel_rfl) (by kernel_rfl) (fun _ _ _ h => h) (Or.inl ⟨by rfl, ?_⟩) hHeld ?_
          rotate_left 1
          · (intro w hSw; have q1 := hSw.cell; go_simp; try with_reducible rfl)
          try simp only [Act.put, List.getElem_toArray, List.getElem_cons_zero, List.getElem_cons_succ, List.setIfInBounds_toArray, List.set_cons_zero, List.set_cons_succ]
          refine wpAnyH_take (i := 9) (v := ?_) rfl (by kernel_rfl) (by kernel_rfl) (by kernel_rfl) (fun _ _ _ h => h) (Or.inl ⟨by rfl, ?_⟩) hHeld ?_
          rotate_left 1
          · (intro w hSw; have q1 := hSw.cell; go_simp; try with_reducible rfl)
          try simp only [Act.put, List.getElem_toArray, List.getElem_cons_zero, List.getElem_cons_succ, List.setIfInBounds_toArray, List.set_cons_zero, List.set_cons_succ]
          refine wpAnyH_take (i := 10) (v := ?_) rfl (by kernel_rfl) (by kernel_rfl) (by kernel_rfl) (fun _ _ _ h => h) (Or.inl ⟨by rfl, ?_⟩) hHeld ?_
          rotate_left 1
          · (intro w hSw; have q1 := hSw.cell; go_simp; try with_reducible rfl)
          try simp only [Act.put, List.getElem_toArray, List.getElem_cons_zero, List.getElem_cons_succ, List.setIfInBounds_toArray, List.set_cons_zero, List.set_cons_succ]
          refine wpAnyH_take (i := 11) (v := ?_) rfl (by kernel_rfl) (by kernel_rfl) (by kernel_rfl) (fun _ _ _ h => h) (Or.inl ⟨by rfl, ?_⟩) hHeld ?_
          rotate_left 1
          · (intro w hSw; have q1 := hSw.cell; go_simp; try with_reducible rfl)
          try simp only [Act.put, List.getElem_toArray, List.getElem_cons_zero, List.getElem_cons_succ, List.setIfInBounds_toArray, List.set_cons_zero, List.set_cons_succ]
          refine wpAnyH_take (i := 12) (v := ?_) rfl (by kernel_rfl) (by kernel_rfl) (by kernel_rfl) (fun _ _ _ h => h) (Or.inl ⟨by rfl, ?_⟩) hHeld ?_
          rotate_left 1
          · (intro w hSw; have q1 := hSw.cell; go_simp; try with_reducible rfl)
          try simp only [Act.put, List.getElem_toArray, List.getElem_cons_zero, List.getElem_cons_succ, List.setIfInBounds_toArray, List.set_cons_zero, List.set_cons_succ]
          refine wpAnyH_take (i := 13) (v := ?_) rfl (by kernel_rfl) (by kernel_rfl) (by kernel_rfl) (fun _ _ _ h => h) (Or.inl ⟨by rfl, ?_⟩) hHeld ?_
          rotate_left 1
          · (intro w hSw; have q1 := hSw.cell; go_simp; try with_reducible rfl)
          try simp only [Act.put, List.getElem_toArray, List.getElem_cons_zero, List.getElem_cons_succ, List.setIfInBounds_toArray, List.set_cons_zero, List.set_cons_succ]
          refine wpAnyH_ready (rs := [7]) (by kernel_rfl) (by simp) (AllReadyH.cons rfl (fun K hK => ?_) AllReadyH.nil)
          clear hHeld
          go_simp
          with_reducible refine KL.out.mono ?_
          rintro e w7 ⟨lv7, rfl, hrow7, hg7⟩
          obtain ⟨la7, lc7, rfl⟩ := row_form hrow7
          have HG7 : Hid (G w5 w7) := (G.refl w5).drew.trans hg7
          clear hrow7 hg7 KL
          refine hK.out _ _ (H5.out.sg.blk.G HG7.out) (fun hHeld => ?_)
          clear hK K
          try simp only [Act.put, List.getElem_toArray, List.getElem_cons_zero, List.getElem_cons_succ, List.setIfInBounds_toArray, List.set_cons_zero, List.set_cons_succ]
          refine wpAnyH_take (i := 8) (v := ?_) rfl (by kernel_rfl) (by kernel_rfl) (by kernel_rfl) (fun _ _ _ h => h) (Or.inl ⟨by rfl, ?_⟩) hHeld ?_
          rotate_left 1
          · (intro w hSw; have q1 := hSw.cell; go_simp; try with_reducible rfl)
          try simp only [Act.put, List.getElem_toArray, List.getElem_cons_zero, List.getElem_cons_succ, List.setIfInBounds_toArray, List.set_cons_zero, List.set_cons_succ]
          refine wpAnyH_take (i := 14) (v := ?_) rfl (by kernel_rfl) (by kernel_rfl) (by kernel_rfl) (fun _ _ _ h => h) (Or.inl ⟨by rfl, ?_⟩) hHeld ?_
          rotate_left 1
          · (intro w hSw; have q1 := hSw.cell; go_simp; try with_reducible rfl)
          try simp only [Act.put, List.getElem_toArray, List.getElem_cons_zero, List.getElem_cons_succ, List.setIfInBounds_toArray, List.set_cons_zero, List.set_cons_succ]
          refine wpAnyH_take (i := 15) (v := ?_) rfl (by kernel_rfl) (by kernel_rfl) (by kernel_rfl) (fun _ _ _ h => h) (Or.inl ⟨by rfl, ?_⟩) hHeld ?_
          rotate_left 1
          · (intro w hSw; have q1 := hSw.cell; go_simp; try with_reducible rfl)
          try simp only [Act.put, List.getElem_toArray, List.getElem_cons_zero, List.getElem_cons_succ, List.setIfInBounds_toArray, List.set_cons_zero, List.set_cons_succ]
          refine wpAnyH_take (i := 16) (v := ?_) rfl (by kernel_rfl) (by kernel_rfl) (by kernel_rfl) (fun _ _ _ h => h) (Or.inl ⟨by rfl, ?_⟩) hHeld ?_
          rotate_left 1
          · (intro w hSw; have q1 := hSw.cell; go_simp; try with_reducible rfl)
          try simp only [Act.put, List.getElem_toArray, List.getElem_cons_zero, List.getElem_cons_succ, List.setIfInBounds_toArray, List.set_cons_zero, List.set_cons_succ]
          refine wpAnyH_done (by kernel_rfl) ?_ _
          refine NoPanic.normal ?_
          clear hHeld
          go_wp2
          go_ret
          exact ⟨rfl, s', m', live ++ [(x, st)], res, _, vr, Nat.le_of_eq (by simp), Nat.le_succ _, H5.out.G HG7.out, HBK4.out⟩
end Go.Proofs.YtkbgifhhnnfgoaaGreatDoor
