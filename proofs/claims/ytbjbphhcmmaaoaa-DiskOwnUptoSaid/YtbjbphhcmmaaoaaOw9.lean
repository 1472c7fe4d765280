/- Pending: its lists lie in blocks of their own. -/
import Derived.Test.YtbjbphhcmmaaoaaOw8
namespace Go.Proofs.Ytbjbphhcmmaaoaa
open Go.RowKit

/-- As RowW; the blocks of the bytes are all different. -/
structure RowX (w : World) (v : Value) (l : List (Nat × List Nat)) (F N : Nat → Prop) : Prop where
  h : ∃ ds : List Nat, ds.length = l.length ∧ w.ownsRow 0 96 2 v l.length (swsC (l.zip ds)) ∧ (∀ (i : Nat) e d, l[i]? = some e → ds[i]? = some d → Blk w d 5 (e.2.map bv) ∧ F d ∧ ¬ N d) ∧ ds.Pairwise (· < ·)
  f : ∀ g, v.ownBlock = some g → F g
theorem RowX.chg {w w' : World} {v : Value} {l : List (Nat × List Nat)} {F N G : Nat → Prop} (h : RowX w v l F N) (k : Chg G w w') (hF : ∀ j, F j → ¬ G j) : RowX w' v l F N := by
  obtain ⟨⟨ds, h1, h2, h3, h5⟩, h4⟩ := h
  exact ⟨⟨ds, h1, own_chg h2 k (fun g hg => hF g (h4 g hg)), fun i e d hi hd => ⟨(h3 i e d hi hd).1.chg k (hF d (h3 i e d hi hd).2.1), (h3 i e d hi hd).2⟩, h5⟩, h4⟩
theorem RowX.own {w : World} {v : Value} {l : List (Nat × List Nat)} {F N : Nat → Prop} (h : RowX w v l F N) : w.ownsRow 0 96 2 v l.length (swsC (l.zip h.h.choose)) := h.h.choose_spec.2.1
theorem RowX.G {w w' : World} {v : Value} {l : List (Nat × List Nat)} {F N : Nat → Prop} (h : RowX w v l F N) (k : Go.Proofs.Ytbjbphhcmmaaoaa.G w w') : RowX w' v l F N := h.chg (G := fun _ => False) k.chg (fun _ _ h => h)
theorem RowX.w {w : World} {v : Value} {l : List (Nat × List Nat)} {F N : Nat → Prop} (h : RowX w v l F N) : RowW w v l F N := by
  obtain ⟨⟨ds, h1, h2, h3, h5⟩, h4⟩ := h
  exact ⟨⟨ds, h1, h2, h3⟩, h4⟩
theorem app_swx (ty : TypeId) {w0 w : World} {v : Value} {l : List (Nat × List Nat)} {F N : Nat → Prop} {e : Nat × List Nat} {g d : Nat} (hr0 : RowX w0 v l F N) (gg : Go.Proofs.Ytbjbphhcmmaaoaa.G w0 w) (hd0 : w0.heap.size ≤ d) (hl : l.length ≤ 549755813888) (hb : Blk w g 96 [I e.1, .slice (some ⟨d, 0, none⟩) 128 128]) (hd : Blk w d 5 (e.2.map bv)) (hF : F d) (hN : ¬ N d) (hFn : F w.heap.size) (hdv : v.ownBlock ≠ some d) :
    ∃ g' cap' w', (Builtin.append_ #[88, 88] ty #[v, .slice (some ⟨g, 0, none⟩) 1 1]).run Try.prog w = .ok (.slice (some ⟨g', 0, none⟩) (l ++ [e]).length cap') w' ∧ RowX w' (.slice (some ⟨g', 0, none⟩) (l ++ [e]).length cap') (l ++ [e]) F N ∧ Chg (fun k => v.ownBlock = some k) w w' := by
  have hlt : ∀ ds : List Nat, ds.length = l.length → (∀ (i : Nat) e d, l[i]? = some e → ds[i]? = some d → Blk w0 d 5 (e.2.map bv) ∧ F d ∧ ¬ N d) → ∀ a ∈ ds, a < d := fun ds h1 h3 a ha => by
    obtain ⟨i, hi, hia⟩ := List.getElem_of_mem ha
    have hda : ds[i]? = some a := by rw [List.getElem?_eq_getElem hi, hia]
    have := (h3 i l[i] a (List.getElem?_eq_getElem (by omega)) hda).1.lt
    omega
  obtain ⟨⟨ds, h1, k2, k3, k5⟩, h4⟩ := hr0
  have hpw : (ds ++ [d]).Pairwise (· < ·) := List.pairwise_append.2 ⟨k5, List.pairwise_singleton _ _, fun a ha b hb => by
    simp at hb
    subst hb
    exact hlt ds h1 k3 a ha⟩
  have h2 := own_G k2 gg
  have h3 : ∀ (i : Nat) e d, l[i]? = some e → ds[i]? = some d → Blk w d 5 (e.2.map bv) ∧ F d ∧ ¬ N d := fun i e d hi hd => ⟨(k3 i e d hi hd).1.G gg, (k3 i e d hi hd).2⟩
  obtain ⟨i, hi, hz0, hz1, hz2⟩ := info_sw
  obtain ⟨v', w', hr, q2, q3, _, q5⟩ := run_append_own_at (P := Try.prog) w 0 88 ty 96 i _ 2 32 Try.underlying88 hi hz0 hz1 hz2 rfl (by decide) v l.length (swsC (l.zip ds)) h2 ⟨g, 0, none⟩ 1 1 (swC (e, d)) rfl (fun j u hj => by rw [Addr.add_mid, Nat.zero_add, hb.cell]; exact hj) (fun u hu => by simp [swC] at hu; rcases hu with rfl | rfl <;> rfl) (by unfold maxLen; omega) (by omega) (Nat.zero_le _)
  have hz : (l ++ [e]).zip (ds ++ [d]) = l.zip ds ++ [(e, d)] := by rw [List.zip_append h1.symm]; rfl
  have q2' : w'.ownsRow 0 96 2 v' (l ++ [e]).length (swsC ((l ++ [e]).zip (ds ++ [d]))) := by rw [hz, List.length_append, swsC_snoc]; exact q2
  have hch := grown_chg q3
  rcases q2'.2 with ⟨_, hn⟩ | ⟨g', cap', cur, rfl, _⟩
  · simp at hn
  · refine ⟨g', cap', w', hr, ⟨⟨ds ++ [d], by simp [h1], q2', fun i e' d' hi hd' => ?_, hpw⟩, fun g0 hg0 => ?_⟩, hch⟩
    · by_cases hil : i < l.length
      · rw [List.getElem?_append_left hil] at hi
        rw [List.getElem?_append_left (by omega)] at hd'
        obtain ⟨r1, r2, r3⟩ := h3 i e' d' hi hd'
        exact ⟨r1.chg hch (fun hv => by
          have := own_ne h2 r1 (by decide)
          exact this hv), r2, r3⟩
      · have hil2 : i = l.length := by
          have := (List.getElem?_eq_some_iff.1 hi).1
          simp at this; omega
        subst hil2
        rw [List.getElem?_append_right (Nat.le_refl _)] at hi
        rw [List.getElem?_append_right (by omega), h1] at hd'
        simp at hi hd'
        subst hi hd'
        exact ⟨hd.chg hch hdv, hF, hN⟩
    · rcases q5 with q5 | q5
      · exact h4 g0 (q5 ▸ hg0)
      · rw [q5] at hg0
        cases hg0
        exact hFn
set_option maxRecDepth 100000 in
set_option maxHeartbeats 4000000 in
theorem pending_dis (F : Nat → Prop) (m : DM) (p : Nat) (hB : m.pend.length ≤ 549755813888) (w : World) (h : PD w F p m) : Calls Try.prog 34 #[.pointer (some ⟨p, 0, none⟩)] w fun e w' => ∃ v, e = .returned v ∧ G w w' ∧ RowX w' v m.pend (fun k => w.heap.size ≤ k) (fun _ => False) := by
  obtain ⟨ok, ⟨lb, ps, hb, hlb, hown, fl, fo⟩, hf⟩ := h
  obtain ⟨pa, pc, rfl, hpp⟩ : ∃ pa pc, ps = .slice pa m.pend.length pc ∧ (m.pend.length ≠ 0 → ∃ g, pa = some ⟨g, 0, none⟩ ∧ m.pend.length ≤ pc) := by
    rcases hown.2 with ⟨rfl, hn⟩ | ⟨g, cap, cur, rfl, _, _, hc, _⟩
    · exact ⟨none, 0, by rw [hn], fun h => absurd hn h⟩
    · exact ⟨_, _, rfl, fun _ => ⟨g, rfl, hc⟩⟩
  have HPP := hide hpp
  have HOW := hide hown
  have HOK := hide ok
  have HHB := hide hb
  have hc := hb.headC
  obtain ⟨i0, hi, hz0, hz1, hz2⟩ := info_sw
  obtain ⟨w1, hrun, hown1, hgr⟩ := run_make_own (P := Try.prog) w 0 88 96 i0 _ 2 Try.underlying88 hi hz0 hz1 .i64 .i64 m.pend.length (by rw [hz2]; omega) (by unfold maxLen; omega) (Nat.zero_le _)
  have HRU := hide hrun
  have HG1 : Hid (G w w1) := ⟨hgr.os, hgr.tape, hgr.output, hgr.size, fun k hk => hgr.block k hk (by simp)⟩
  have HR1 : Hid (RowX w1 (.slice (some ⟨w.heap.size, 0, none⟩) 0 m.pend.length) [] (fun k => w.heap.size ≤ k) (fun _ => False)) := ⟨⟨[], rfl, hown1, fun i e d h => by simp at h, List.Pairwise.nil⟩, fun g hg => by simp [Value.ownBlock] at hg; omega⟩
  clear hlb hown ok hb hpp hi hz0 hz1 hz2 hrun hown1 hgr
  go_enter Try.func34, Try.ntmps34
  go_wp2_with fail
  rw [HRU.out]
  clear hc HRU
  have hc := (HHB.out.G HG1.out).headC
  go_wp2
  clear hc
  go_loopw [19, 3] (fun i x W => ∃ k : Nat, k ≤ m.pend.length ∧ i = .int .i64 k ∧ G w W ∧ (∃ cp cc, x = .slice cp k cc) ∧ RowX W x (m.pend.take k) (fun k => w.heap.size ≤ k) (fun _ => False)) (fun i _ _ => m.pend.length - (RowKit.intOf i).toNat)
  case atStart => exact ⟨0, by omega, rfl, HG1.out, ⟨_, _, rfl⟩, HR1.out⟩
  case round =>
    obtain ⟨k, hk, rfl, hgw, ⟨cp, cc, rfl⟩, hrw⟩ := hrel
    have HGW := hide hgw
    have HRW := hide hrw
    clear hgw hrw
    by_cases hlt : k < m.pend.length
    · obtain ⟨g, rfl, hpc⟩ := HPP.out (by omega)
      obtain ⟨e, he⟩ : ∃ e, m.pend[k]? = some e := ⟨_, List.getElem?_eq_getElem hlt⟩
      obtain ⟨e1, e2, e3⟩ := HOK.out.p e (List.mem_of_getElem? he)
      have HE2 := hide e2
      have HENT := hide (own_ent (own_G HOW.out HGW.out) (fun e he => (HOK.out.p e he).2.1) he)
      have HTL : Hid ((m.pend.take k).length ≤ 549755813888) := by unfold Hid; rw [List.length_take]; omega
      have HTK : Hid (m.pend.take (k + 1) = m.pend.take k ++ [e]) := by
        unfold Hid
        obtain ⟨hk', hke⟩ := List.getElem?_eq_some_iff.1 he
        rw [List.take_succ_eq_append_getElem hk', hke]
      have HBY : Hid (∀ W, Calls Try.prog 32 #[.agg (e.2.map bv).toArray] W fun e' w' => e' = .returned (.slice (some ⟨W.heap.size + 1, 0, none⟩) 128 128) ∧ G W w' ∧ Blk w' (W.heap.size + 1) 5 (e.2.map bv)) := fun W => bytes_any e.2 e2 W
      obtain ⟨hbt, hbx, hbg⟩ := box_ent wr e e2
      have HBT := hide hbt
      have HX4 := hide hbx
      have HBG := hide hbg
      have hkI : (k : Int) < (m.pend.length : Int) := by omega
      clear hbt hbx hbg e1 e2 e3 he
      go_wp2_with (first | refine wpList_load_mid rfl 84 _ rfl g (k * 129) rfl (entC e) _ HENT.out Try.underlying84 rfl (by rw [entC_len HE2.out]; exact size_wr) ?_ | refine wpList_store_mid rfl 84 _ _ rfl wr.heap.size 0 (entC e).toArray rfl rfl HBT.out (by rw [List.size_toArray, entC_len HE2.out]; exact size_wr) (all_oneCell_toArray (entC_one e)) ?_)
      generalize (wr.alloc (.cells zeroCells84 84)).setCells wr.heap.size 0 (entC e) = w4 at HX4 HBG ⊢
      refine wp_region_noPanic ?_
      refine wp_region_held_drew (S := (fun W => Blk W wr.heap.size 84 (entC e))) (by kernel_rfl) (HX4.out.drew) (fun hHeld => ?_)
      refine wpAnyH_take (i := 0) (v := ?_) rfl (by kernel_rfl) (by kernel_rfl) (by kernel_rfl) (fun _ _ _ h => h) (Or.inl ⟨by rfl, ?_⟩) hHeld ?_
      rotate_left 1
      · (intro w hSw; (try dsimp only at hSw); go_simp; try with_reducible rfl)
      try simp only [Act.put, List.getElem_toArray, List.getElem_cons_zero, List.setIfInBounds_toArray, List.set_cons_zero, List.set_cons_succ]
      refine wpAnyH_take (i := 1) (v := ?_) rfl (by kernel_rfl) (by kernel_rfl) (by kernel_rfl) (fun _ _ _ h => h) (Or.inl ⟨by rfl, ?_⟩) hHeld ?_
      rotate_left 1
      · (intro w hSw; (try dsimp only at hSw); go_simp; try with_reducible rfl)
      try simp only [Act.put, List.getElem_toArray, List.getElem_cons_zero, List.getElem_cons_succ, List.setIfInBounds_toArray, List.set_cons_zero, List.set_cons_succ]
      refine wpAnyH_take (i := 2) (v := ?_) rfl (by kernel_rfl) (by kernel_rfl) (by kernel_rfl) (fun _ _ _ h => h) (Or.inl ⟨by rfl, ?_⟩) hHeld ?_
      rotate_left 1
      · (intro w hSw; have hq := Blk.cell hSw; simp only [entC] at hq; go_simp; try with_reducible rfl)
      try simp only [Act.put, List.getElem_toArray, List.getElem_cons_zero, List.getElem_cons_succ, List.setIfInBounds_toArray, List.set_cons_zero, List.set_cons_succ]
      refine wpAnyH_take (i := 3) (v := ?_) rfl (by kernel_rfl) (by kernel_rfl) (by kernel_rfl) (fun _ _ _ h => h) (Or.inl ⟨by rfl, ?_⟩) hHeld ?_
      rotate_left 1
      · (intro w hSw; (try dsimp only at hSw); go_simp; try with_reducible rfl)
      try simp only [Act.put, List.getElem_toArray, List.getElem_cons_zero, List.getElem_cons_succ, List.setIfInBounds_toArray, List.set_cons_zero, List.set_cons_succ]
      refine wpAnyH_take (i := 4) (v := _) rfl (by kernel_rfl) (by kernel_rfl) (by kernel_rfl) (fun _ _ _ h => h) (yieldsIf_load_mid (by rfl) 81 _ rfl wr.heap.size (0 + 1) rfl (e.2.map bv) _ (fun w h => (rangeAt_tail h.all).2) Try.underlying81 rfl (by rw [List.length_map, HE2.out]; exact size_sec)) hHeld ?_
      try simp only [Act.put, List.getElem_toArray, List.getElem_cons_zero, List.getElem_cons_succ, List.setIfInBounds_toArray, List.set_cons_zero, List.set_cons_succ]
      refine wpAnyH_ready (rs := [5]) (by kernel_rfl) (by simp) (AllReadyH.cons rfl (fun K hK => ?_) AllReadyH.nil)
      clear hHeld
      go_simp
      with_reducible refine (HBY.out _).mono ?_
      rintro e' w5 ⟨rfl, hb, hbk⟩
      have HG5 : Hid (G w4 w5) := G.trans (G.drew (G.refl _)) hb
      have HK5 : Hid (Blk w5 (w4.heap.size + 1) 5 (e.2.map bv)) := hbk
      clear hb hbk
      go_wp2_with fail
      refine hK.out _ _ (HX4.out.G HG5.out) (fun hHeld => ?_)
      clear hK K
      try simp only [Act.put, List.getElem_toArray, List.getElem_cons_zero, List.getElem_cons_succ, List.setIfInBounds_toArray, List.set_cons_zero, List.set_cons_succ]
      refine wpAnyH_take (i := 6) (v := ?_) rfl (by kernel_rfl) (by kernel_rfl) (by kernel_rfl) (fun _ _ _ h => h) (Or.inl ⟨by rfl, ?_⟩) hHeld ?_
      rotate_left 1
      · (intro w hSw; (try dsimp only at hSw); go_simp; try with_reducible rfl)
      try simp only [Act.put, List.getElem_toArray, List.getElem_cons_zero, List.getElem_cons_succ, List.setIfInBounds_toArray, List.set_cons_zero, List.set_cons_succ]
      refine wpAnyH_ready (rs := [7]) (by kernel_rfl) (by simp) (AllReadyH.cons rfl (fun K hK => ?_) AllReadyH.nil)
      clear hHeld
      go_simp
      have HG6 : Hid (G w4 (w5.alloc (.cells #[I e.1, .slice (some ⟨w4.heap.size + 1, 0, none⟩) 128 128] 96))) := HG5.out.alloc _
      have HB6 : Hid (Blk (w5.alloc (.cells #[I e.1, .slice (some ⟨w4.heap.size + 1, 0, none⟩) 128 128] 96)) w5.heap.size 96 [I e.1, .slice (some ⟨w4.heap.size + 1, 0, none⟩) 128 128]) := Blk.new w5 [I e.1, .slice (some ⟨w4.heap.size + 1, 0, none⟩) 128 128] 96
      have HK6 : Hid (Blk (w5.alloc (.cells #[I e.1, .slice (some ⟨w4.heap.size + 1, 0, none⟩) 128 128] 96)) (w4.heap.size + 1) 5 (e.2.map bv)) := HK5.out.G ((G.refl _).alloc _)
      generalize w5.alloc (.cells #[I e.1, .slice (some ⟨w4.heap.size + 1, 0, none⟩) 128 128] 96) = w6 at HG6 HB6 HK6 ⊢
      refine hK.out _ _ (HX4.out.G HG6.out) (fun hHeld => ?_)
      clear hK K
      try simp only [Act.put, List.getElem_toArray, List.getElem_cons_zero, List.getElem_cons_succ, List.setIfInBounds_toArray, List.set_cons_zero, List.set_cons_succ]
      refine wpAnyH_ready (rs := [8]) (by kernel_rfl) (by simp) (AllReadyH.cons rfl (fun K hK => ?_) AllReadyH.nil)
      clear hHeld
      obtain ⟨g7, cap7, w7, hrun, hr7, hch7⟩ := app_swx 88 HRW.out (HBG.out.trans HG6.out) (Nat.le_trans HBG.out.size (Nat.le_succ _)) HTL.out HB6.out HK6.out (Nat.le_trans (HGW.out.trans HBG.out).size (Nat.le_succ _)) (fun h => h) (Nat.le_trans (HGW.out.trans HBG.out).size HG6.out.size) (own_ne (RowX.own (HRW.out.chg (HBG.out.trans HG6.out).chg (G := fun _ => False) (fun _ _ h => h))) HK6.out (by decide))
      have HR7 := hide hr7
      have HC7 := hide hch7
      clear hr7 hch7
      refine (if_pos rfl).mpr ?_
      refine wp_of_exec (exec_append _ _ 88 rfl (.slice cp k cc) (.slice (some ⟨w5.heap.size, 0, none⟩) 1 1) rfl rfl 88 rfl hrun) ?_
      clear hrun
      refine hK.out _ _ ((HX4.out.G HG6.out).chg HC7.out (own_ne (RowX.own (HRW.out.chg (HBG.out.trans HG6.out).chg (G := fun _ => False) (fun _ _ h => h))) (HX4.out.G HG6.out) (by decide))) (fun hHeld => ?_)
      clear hK K
      try simp only [Act.put, List.getElem_toArray, List.getElem_cons_zero, List.getElem_cons_succ, List.setIfInBounds_toArray, List.set_cons_zero, List.set_cons_succ]
      refine wpAnyH_take (i := 9) (v := ?_) rfl (by kernel_rfl) (by kernel_rfl) (by kernel_rfl) (fun _ _ _ h => h) (Or.inl ⟨by rfl, ?_⟩) hHeld ?_
      rotate_left 1
      · (intro w hSw; (try dsimp only at hSw); go_simp; try with_reducible rfl)
      try simp only [Act.put, List.getElem_toArray, List.getElem_cons_zero, List.getElem_cons_succ, List.setIfInBounds_toArray, List.set_cons_zero, List.set_cons_succ]
      refine wpAnyH_done (by kernel_rfl) ?_ _
      refine NoPanic.normal ?_
      have HG7 : Hid (G w w7) := ((HGW.out.trans HBG.out).trans HG6.out).chg2 HC7.out (fun j hj => HRW.out.f j hj)
      have hle : (m.pend.take k ++ [e]).length = k + 1 := by rw [List.length_append, List.length_take, Nat.min_eq_left (Nat.le_of_lt hlt)]; rfl
      have HR8 := HR7.out
      rw [hle, ← HTK.out] at HR8
      rw [hle]
      clear hle
      have HR9 := hide HR8
      clear HR8 HR7
      go_wp2
      go_roundw
      case rel => exact ⟨k + 1, by omega, by go_num, HG7.out, ⟨_, _, rfl⟩, HR9.out⟩
      case measure => simp [RowKit.intOf]; omega
    · have hkI : ¬ (k : Int) < (m.pend.length : Int) := by omega
      obtain rfl : k = m.pend.length := by omega
      go_wp2
      go_ret
      have := HRW.out
      rw [List.take_length] at this
      exact ⟨_, rfl, HGW.out, this⟩
theorem oP_pending (F : Nat → Prop) (mo : Option DM) (v : Value) (w : World) (hB : fewO mo 549755813888) (h : SlP w F v mo) : Calls Try.prog 34 #[v] w fun e w' => ∃ x, e = .returned x ∧ G w w' ∧ RowX w' x (pnL mo) (fun k => w.heap.size ≤ k) (fun _ => False) := by
  cases mo with
  | none =>
    obtain rfl : v = .pointer none := h
    refine (pending_nil w).mono ?_
    rintro e w' ⟨rfl, rfl⟩
    exact ⟨_, rfl, G.refl _, ⟨⟨[], rfl, World.ownsRow_nil _ _ _ _, fun i e d h => by simp [pnL] at h, List.Pairwise.nil⟩, fun g hg => by simp [Value.ownBlock] at hg⟩⟩
  | some m =>
    obtain ⟨p, rfl, hd⟩ := h
    exact pending_dis F m p (hB m rfl).p w hd
/-- The bytes of a write. -/
def dsl (d : Nat) : Value := .slice (some ⟨d, 0, none⟩) 128 128
/-- A list of n writes, handed out: it and the bytes of each lie in blocks of their own, no older than b; the bytes of number i in d i. -/
structure WL (b : Nat) (W : World) (x : Value) (n : Nat) (d : Nat → Nat) : Prop where
  o : ∃ xs, W.ownsRow 0 96 2 x n xs ∧ ∀ i, i < n → xs[i * 2 + 1]? = some (dsl (d i))
  k : ∀ i, i < n → ∃ ys : List Value, Blk W (d i) 5 ys ∧ ys.length = 128
  f : ∀ g, x.ownBlock = some g → b ≤ g
  h : ∀ i, i < n → b ≤ d i
  p : ∀ i j, i < n → j < n → i ≠ j → d i ≠ d j
theorem WL.G {b n : Nat} {W W' : World} {x : Value} {d : Nat → Nat} (h : WL b W x n d) (g : Go.Proofs.Ytbjbphhcmmaaoaa.G W W') : WL b W' x n d :=
  ⟨h.o.elim fun xs ho => ⟨xs, own_G ho.1 g, ho.2⟩, fun i hi => (h.k i hi).elim fun ys hy => ⟨ys, hy.1.G g, hy.2⟩, h.f, h.h, h.p⟩
theorem RowX.wl {b : Nat} {w : World} {v : Value} {l : List (Nat × List Nat)} (h : RowX w v l (fun k => b ≤ k) (fun _ => False)) (h128 : ∀ e ∈ l, e.2.length = 128) : ∃ d, WL b w v l.length d := by
  obtain ⟨⟨ds, h1, h2, h3, h5⟩, h4⟩ := h
  refine ⟨fun i => ds.getD i 0, ⟨⟨_, h2, fun i hi => ?_⟩, fun i hi => ?_, h4, fun i hi => ?_, fun i j hi hj hne e => ?_⟩⟩
  · have h9 : (l.zip ds)[i]? = some (l[i], ds[i]) := by rw [List.getElem?_eq_getElem (by rw [List.length_zip]; omega), List.getElem_zip]
    have := (swsC_at h9).2
    rw [this]
    simp [dsl, List.getD, List.getElem?_eq_getElem (show i < ds.length by omega)]
  · have hd : ds[i]? = some (ds.getD i 0) := by simp [List.getD, List.getElem?_eq_getElem (show i < ds.length by omega)]
    exact ⟨_, (h3 i l[i] _ (List.getElem?_eq_getElem hi) hd).1, by rw [List.length_map]; exact h128 _ (List.getElem_mem _)⟩
  · have hd : ds[i]? = some (ds.getD i 0) := by simp [List.getD, List.getElem?_eq_getElem (show i < ds.length by omega)]
    exact (h3 i l[i] _ (List.getElem?_eq_getElem hi) hd).2.1
  · have hp := List.pairwise_iff_getElem.1 h5
    simp only [List.getD, List.getElem?_eq_getElem (show i < ds.length by omega), List.getElem?_eq_getElem (show j < ds.length by omega), Option.getD_some] at e
    rcases Nat.lt_or_gt_of_ne hne with hlt | hlt
    · have := hp i j (by omega) (by omega) hlt
      omega
    · have := hp j i (by omega) (by omega) hlt
      omega
end Go.Proofs.Ytbjbphhcmmaaoaa
