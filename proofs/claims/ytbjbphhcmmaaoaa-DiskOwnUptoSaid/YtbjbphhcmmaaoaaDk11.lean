/- Disks: Pending. -/
import Derived.Test.YtbjbphhcmmaaoaaDk10
namespace Go.Proofs.Ytbjbphhcmmaaoaa
open Go.RowKit

theorem RowW.own {w : World} {v : Value} {l : List (Nat × List Nat)} {F N : Nat → Prop} (h : RowW w v l F N) : w.ownsRow 0 96 2 v l.length (swsC (l.zip h.h.choose)) := h.h.choose_spec.2.1
theorem RowW.G {w w' : World} {v : Value} {l : List (Nat × List Nat)} {F N : Nat → Prop} (h : RowW w v l F N) (k : Go.Proofs.Ytbjbphhcmmaaoaa.G w w') : RowW w' v l F N := h.chg (G := fun _ => False) k.chg (fun _ _ h => h)
set_option maxRecDepth 100000 in
set_option maxHeartbeats 4000000 in
theorem pending_nil (w : World) : Calls Try.prog 34 #[.pointer none] w fun e w' => e = .returned (.slice none 0 0) ∧ w' = w := by
  go_enter Try.func34, Try.ntmps34
  go_wp2
  go_ret
  exact ⟨rfl, rfl⟩
set_option maxRecDepth 100000 in
set_option maxHeartbeats 4000000 in
theorem pending_any (F : Nat → Prop) (m : DM) (p : Nat) (hB : m.pend.length ≤ 549755813888) (w : World) (h : PD w F p m) : Calls Try.prog 34 #[.pointer (some ⟨p, 0, none⟩)] w fun e w' => ∃ v, e = .returned v ∧ G w w' ∧ RowW w' v m.pend (fun k => w.heap.size ≤ k) (fun _ => False) := by
  obtain ⟨ok, ⟨lb, ps, hb, hlb, hown, fl, fo⟩, hf⟩ := h
  obtain ⟨pa, pc, rfl, hpp⟩ : ∃ pa pc, ps = .slice pa m.pend.length pc ∧ (m.pend.length ≠ 0 → ∃ g, pa = some ⟨g, 0, none⟩ ∧ m.pend.length ≤ pc) := by
    rcases hown.2 with ⟨rfl, hn⟩ | ⟨g, cap, cur, rfl, _, _, hc, _⟩
    · exact ⟨none, 0, by rw [hn], fun h => absurd hn h⟩
    · exact ⟨_, _, rfl, fun _ => ⟨g, rfl, hc⟩⟩
  have HPP := hide hpp
  have HOW := hide hown
  have HOK := hide ok
  have HHB := hide hb
  have hc := hb.headC
  obtain ⟨i0, hi, hz0, hz1, hz2⟩ := info_sw
  obtain ⟨w1, hrun, hown1, hgr⟩ := run_make_own (P := Try.prog) w 0 88 96 i0 _ 2 Try.underlying88 hi hz0 hz1 .i64 .i64 m.pend.length (by rw [hz2]; omega) (by unfold maxLen; omega) (Nat.zero_le _)
  have HRU := hide hrun
  have HG1 : Hid (G w w1) := ⟨hgr.os, hgr.tape, hgr.output, hgr.size, fun k hk => hgr.block k hk (by simp)⟩
  have HR1 : Hid (RowW w1 (.slice (some ⟨w.heap.size, 0, none⟩) 0 m.pend.length) [] (fun k => w.heap.size ≤ k) (fun _ => False)) := ⟨⟨[], rfl, hown1, fun i e d h => by simp at h⟩, fun g hg => by simp [Value.ownBlock] at hg; omega⟩
  clear hlb hown ok hb hpp hi hz0 hz1 hz2 hrun hown1 hgr
  go_enter Try.func34, Try.ntmps34
  go_wp2_with fail
  rw [HRU.out]
  clear hc HRU
  have hc := (HHB.out.G HG1.out).headC
  go_wp2
  clear hc
  go_loopw [19, 3] (fun i x W => ∃ k : Nat, k ≤ m.pend.length ∧ i = .int .i64 k ∧ G w W ∧ (∃ cp cc, x = .slice cp k cc) ∧ RowW W x (m.pend.take k) (fun k => w.heap.size ≤ k) (fun _ => False)) (fun i _ _ => m.pend.length - (RowKit.intOf i).toNat)
  case atStart => exact ⟨0, by omega, rfl, HG1.out, ⟨_, _, rfl⟩, HR1.out⟩
  case round =>
    obtain ⟨k, hk, rfl, hgw, ⟨cp, cc, rfl⟩, hrw⟩ := hrel
    have HGW := hide hgw
    have HRW := hide hrw
    clear hgw hrw
    by_cases hlt : k < m.pend.length
    · obtain ⟨g, rfl, hpc⟩ := HPP.out (by omega)
      obtain ⟨e, he⟩ : ∃ e, m.pend[k]? = some e := ⟨_, List.getElem?_eq_getElem hlt⟩
      obtain ⟨e1, e2, e3⟩ := HOK.out.p e (List.mem_of_getElem? he)
      have HE2 := hide e2
      have HENT := hide (own_ent (own_G HOW.out HGW.out) (fun e he => (HOK.out.p e he).2.1) he)
      have HTL : Hid ((m.pend.take k).length ≤ 549755813888) := by unfold Hid; rw [List.length_take]; omega
      have HTK : Hid (m.pend.take (k + 1) = m.pend.take k ++ [e]) := by
        unfold Hid
        obtain ⟨hk', hke⟩ := List.getElem?_eq_some_iff.1 he
        rw [List.take_succ_eq_append_getElem hk', hke]
      have HBY : Hid (∀ W, Calls Try.prog 32 #[.agg (e.2.map bv).toArray] W fun e' w' => e' = .returned (.slice (some ⟨W.heap.size + 1, 0, none⟩) 128 128) ∧ G W w' ∧ Blk w' (W.heap.size + 1) 5 (e.2.map bv)) := fun W => bytes_any e.2 e2 W
      obtain ⟨hbt, hbx, hbg⟩ := box_ent wr e e2
      have HBT := hide hbt
      have HX4 := hide hbx
      have HBG := hide hbg
      have hkI : (k : Int) < (m.pend.length : Int) := by omega
      clear hbt hbx hbg e1 e2 e3 he
      go_wp2_with (first | refine wpList_load_mid rfl 84 _ rfl g (k * 129) rfl (entC e) _ HENT.out Try.underlying84 rfl (by rw [entC_len HE2.out]; exact size_wr) ?_ | refine wpList_store_mid rfl 84 _ _ rfl wr.heap.size 0 (entC e).toArray rfl rfl HBT.out (by rw [List.size_toArray, entC_len HE2.out]; exact size_wr) (all_oneCell_toArray (entC_one e)) ?_)
      generalize (wr.alloc (.cells zeroCells84 84)).setCells wr.heap.size 0 (entC e) = w4 at HX4 HBG ⊢
      refine wp_region_noPanic ?_
      refine wp_region_held_drew (S := (fun W => Blk W wr.heap.size 84 (entC e))) (by kernel_rfl) (HX4.out.drew) (fun hHeld => ?_)
      refine wpAnyH_take (i := 0) (v := ?_) rfl (by kernel_rfl) (by kernel_rfl) (by kernel_rfl) (fun _ _ _ h => h) (Or.inl ⟨by rfl, ?_⟩) hHeld ?_
      rotate_left 1
      · (intro w hSw; (try dsimp only at hSw); go_simp; try with_reducible rfl)
      try simp only [Act.put, List.getElem_toArray, List.getElem_cons_zero, List.setIfInBounds_toArray, List.set_cons_zero, List.set_cons_succ]
      refine wpAnyH_take (i := 1) (v := ?_) rfl (by kernel_rfl) (by kernel_rfl) (by kernel_rfl) (fun _ _ _ h => h) (Or.inl ⟨by rfl, ?_⟩) hHeld ?_
      rotate_left 1
      · (intro w hSw; (try dsimp only at hSw); go_simp; try with_reducible rfl)
      try simp only [Act.put, List.getElem_toArray, List.getElem_cons_zero, List.getElem_cons_succ, List.setIfInBounds_toArray, List.set_cons_zero, List.set_cons_succ]
      refine wpAnyH_take (i := 2) (v := ?_) rfl (by kernel_rfl) (by kernel_rfl) (by kernel_rfl) (fun _ _ _ h => h) (Or.inl ⟨by rfl, ?_⟩) hHeld ?_
      rotate_left 1
      · (intro w hSw; have hq := Blk.cell hSw; simp only [entC] at hq; go_simp; try with_reducible rfl)
      try simp only [Act.put, List.getElem_toArray, List.getElem_cons_zero, List.getElem_cons_succ, List.setIfInBounds_toArray, List.set_cons_zero, List.set_cons_succ]
      refine wpAnyH_take (i := 3) (v := ?_) rfl (by kernel_rfl) (by kernel_rfl) (by kernel_rfl) (fun _ _ _ h => h) (Or.inl ⟨by rfl, ?_⟩) hHeld ?_
      rotate_left 1
      · (intro w hSw; (try dsimp only at hSw); go_simp; try with_reducible rfl)
      try simp only [Act.put, List.getElem_toArray, List.getElem_cons_zero, List.getElem_cons_succ, List.setIfInBounds_toArray, List.set_cons_zero, List.set_cons_succ]
      refine wpAnyH_take (i := 4) (v := _) rfl (by kernel_rfl) (by kernel_rfl) (by kernel_rfl) (fun _ _ _ h => h) (yieldsIf_load_mid (by rfl) 81 _ rfl wr.heap.size (0 + 1) rfl (e.2.map bv) _ (fun w h => (rangeAt_tail h.all).2) Try.underlying81 rfl (by rw [List.length_map, HE2.out]; exact size_sec)) hHeld ?_
      try simp only [Act.put, List.getElem_toArray, List.getElem_cons_zero, List.getElem_cons_succ, List.setIfInBounds_toArray, List.set_cons_zero, List.set_cons_succ]
      refine wpAnyH_ready (rs := [5]) (by kernel_rfl) (by simp) (AllReadyH.cons rfl (fun K hK => ?_) AllReadyH.nil)
      clear hHeld
      go_simp
      with_reducible refine (HBY.out _).mono ?_
      rintro e' w5 ⟨rfl, hb, hbk⟩
      have HG5 : Hid (G w4 w5) := G.trans (G.drew (G.refl _)) hb
      have HK5 : Hid (Blk w5 (w4.heap.size + 1) 5 (e.2.map bv)) := hbk
      clear hb hbk
      go_wp2_with fail
      refine hK.out _ _ (HX4.out.G HG5.out) (fun hHeld => ?_)
      clear hK K
      try simp only [Act.put, List.getElem_toArray, List.getElem_cons_zero, List.getElem_cons_succ, List.setIfInBounds_toArray, List.set_cons_zero, List.set_cons_succ]
      refine wpAnyH_take (i := 6) (v := ?_) rfl (by kernel_rfl) (by kernel_rfl) (by kernel_rfl) (fun _ _ _ h => h) (Or.inl ⟨by rfl, ?_⟩) hHeld ?_
      rotate_left 1
      · (intro w hSw; (try dsimp only at hSw); go_simp; try with_reducible rfl)
      try simp only [Act.put, List.getElem_toArray, List.getElem_cons_zero, List.getElem_cons_succ, List.setIfInBounds_toArray, List.set_cons_zero, List.set_cons_succ]
      refine wpAnyH_ready (rs := [7]) (by kernel_rfl) (by simp) (AllReadyH.cons rfl (fun K hK => ?_) AllReadyH.nil)
      clear hHeld
      go_simp
      have HG6 : Hid (G w4 (w5.alloc (.cells #[I e.1, .slice (some ⟨w4.heap.size + 1, 0, none⟩) 128 128] 96))) := HG5.out.alloc _
      have HB6 : Hid (Blk (w5.alloc (.cells #[I e.1, .slice (some ⟨w4.heap.size + 1, 0, none⟩) 128 128] 96)) w5.heap.size 96 [I e.1, .slice (some ⟨w4.heap.size + 1, 0, none⟩) 128 128]) := Blk.new w5 [I e.1, .slice (some ⟨w4.heap.size + 1, 0, none⟩) 128 128] 96
      have HK6 : Hid (Blk (w5.alloc (.cells #[I e.1, .slice (some ⟨w4.heap.size + 1, 0, none⟩) 128 128] 96)) (w4.heap.size + 1) 5 (e.2.map bv)) := HK5.out.G ((G.refl _).alloc _)
      generalize w5.alloc (.cells #[I e.1, .slice (some ⟨w4.heap.size + 1, 0, none⟩) 128 128] 96) = w6 at HG6 HB6 HK6 ⊢
      refine hK.out _ _ (HX4.out.G HG6.out) (fun hHeld => ?_)
      clear hK K
      try simp only [Act.put, List.getElem_toArray, List.getElem_cons_zero, List.getElem_cons_succ, List.setIfInBounds_toArray, List.set_cons_zero, List.set_cons_succ]
      refine wpAnyH_ready (rs := [8]) (by kernel_rfl) (by simp) (AllReadyH.cons rfl (fun K hK => ?_) AllReadyH.nil)
      clear hHeld
      obtain ⟨g7, cap7, w7, hrun, hr7, hch7⟩ := app_sw 88 (HRW.out.chg (HBG.out.trans HG6.out).chg (G := fun _ => False) (fun _ _ h => h)) HTL.out HB6.out HK6.out (Nat.le_trans (HGW.out.trans HBG.out).size (Nat.le_succ _)) (fun h => h) (Nat.le_trans (HGW.out.trans HBG.out).size HG6.out.size) (own_ne (RowW.own (HRW.out.chg (HBG.out.trans HG6.out).chg (G := fun _ => False) (fun _ _ h => h))) HK6.out (by decide))
      have HR7 := hide hr7
      have HC7 := hide hch7
      clear hr7 hch7
      refine (if_pos rfl).mpr ?_
      refine wp_of_exec (exec_append _ _ 88 rfl (.slice cp k cc) (.slice (some ⟨w5.heap.size, 0, none⟩) 1 1) rfl rfl 88 rfl hrun) ?_
      clear hrun
      refine hK.out _ _ ((HX4.out.G HG6.out).chg HC7.out (own_ne (RowW.own (HRW.out.chg (HBG.out.trans HG6.out).chg (G := fun _ => False) (fun _ _ h => h))) (HX4.out.G HG6.out) (by decide))) (fun hHeld => ?_)
      clear hK K
      try simp only [Act.put, List.getElem_toArray, List.getElem_cons_zero, List.getElem_cons_succ, List.setIfInBounds_toArray, List.set_cons_zero, List.set_cons_succ]
      refine wpAnyH_take (i := 9) (v := ?_) rfl (by kernel_rfl) (by kernel_rfl) (by kernel_rfl) (fun _ _ _ h => h) (Or.inl ⟨by rfl, ?_⟩) hHeld ?_
      rotate_left 1
      · (intro w hSw; (try dsimp only at hSw); go_simp; try with_reducible rfl)
      try simp only [Act.put, List.getElem_toArray, List.getElem_cons_zero, List.getElem_cons_succ, List.setIfInBounds_toArray, List.set_cons_zero, List.set_cons_succ]
      refine wpAnyH_done (by kernel_rfl) ?_ _
      refine NoPanic.normal ?_
      have HG7 : Hid (G w w7) := ((HGW.out.trans HBG.out).trans HG6.out).chg2 HC7.out (fun j hj => HRW.out.f j hj)
      have hle : (m.pend.take k ++ [e]).length = k + 1 := by rw [List.length_append, List.length_take, Nat.min_eq_left (Nat.le_of_lt hlt)]; rfl
      have HR8 := HR7.out
      rw [hle, ← HTK.out] at HR8
      rw [hle]
      clear hle
      have HR9 := hide HR8
      clear HR8 HR7
      go_wp2
      go_roundw
      case rel => exact ⟨k + 1, by omega, by go_num, HG7.out, ⟨_, _, rfl⟩, HR9.out⟩
      case measure => simp [RowKit.intOf]; omega
    · have hkI : ¬ (k : Int) < (m.pend.length : Int) := by omega
      obtain rfl : k = m.pend.length := by omega
      go_wp2
      go_ret
      have := HRW.out
      rw [List.take_length] at this
      exact ⟨_, rfl, HGW.out, this⟩
end Go.Proofs.Ytbjbphhcmmaaoaa
