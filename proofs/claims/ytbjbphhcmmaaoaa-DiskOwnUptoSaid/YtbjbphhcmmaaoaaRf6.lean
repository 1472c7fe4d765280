/- The document's disks: Pending. -/
import Derived.Test.YtbjbphhcmmaaoaaRf5
namespace Go.Proofs.Ytbjbphhcmmaaoaa
open Go.RowKit

theorem cell_chg {F : Nat → Prop} {w w' : World} {b o : Nat} {v : Value} (h : w.cell? ⟨b, o, none⟩ = some v) (k : Chg F w w') (hF : ¬ F b) : w'.cell? ⟨b, o, none⟩ = some v := (World.cell?_of_block (w := w) (k.block b (World.block_lt_of_cell? _ _ h) hF)).trans h
set_option maxRecDepth 100000 in
set_option maxHeartbeats 4000000 in
theorem rpending_nil (w : World) : Calls Try.prog 38 #[.pointer none] w fun e w' => e = .returned (.slice none 0 0) ∧ w' = w := by
  go_enter Try.func38, Try.ntmps38
  go_wp2
  go_ret
  exact ⟨rfl, rfl⟩
set_option maxRecDepth 100000 in
set_option maxHeartbeats 4000000 in
theorem rpending_any (F : Nat → Prop) (m : DM) (p : Nat) (hB : m.pend.length ≤ 549755813888) (w : World) (h : RD w F p m) : Calls Try.prog 38 #[.pointer (some ⟨p, 0, none⟩)] w fun e w' => ∃ v, e = .returned v ∧ G w w' ∧ RowW w' v m.pend (fun k => w.heap.size ≤ k) (fun _ => False) := by
  obtain ⟨ok, ⟨lb, ps, hb, hlb, hrw, fl⟩, hf⟩ := h
  obtain ⟨cp, cc, rfl⟩ := hrw.slice
  have HWA := hide hrw
  have HOK := hide ok
  have HHB := hide hb
  have hc := hb.rheadC
  clear hlb hrw ok hb
  go_enter Try.func38, Try.ntmps38
  go_wp2
  clear hc
  go_loopw [4, 3] (fun i x W => ∃ k : Nat, k ≤ m.pend.length ∧ i = .int .i64 k ∧ G w W ∧ (∃ xp xc, x = .slice xp k xc) ∧ RowW W x (m.pend.take k) (fun k => w.heap.size ≤ k) (fun _ => False)) (fun i _ _ => m.pend.length - (RowKit.intOf i).toNat)
  case atStart => exact ⟨0, by omega, rfl, G.refl _, ⟨_, _, rfl⟩, ⟨⟨[], rfl, World.ownsRow_nil _ _ _ _, fun i e d h => by simp at h⟩, fun g hg => by simp [Value.ownBlock] at hg⟩⟩
  case round =>
    obtain ⟨k, hk, rfl, hgw, ⟨xp, xc, rfl⟩, hrw⟩ := hrel
    have HGW := hide hgw
    have HRW := hide hrw
    have HBW := hide (HHB.out.G hgw)
    have hc := HBW.out.rheadC
    by_cases hlt : k < m.pend.length
    · obtain ⟨e, he⟩ : ∃ e, m.pend[k]? = some e := ⟨_, List.getElem?_eq_getElem hlt⟩
      obtain ⟨e1, e2, e3⟩ := HOK.out.p e (List.mem_of_getElem? he)
      obtain ⟨g, d0, rfl, _, _, hat0, _⟩ := HWA.out.ent he
      obtain ⟨g1, d, hg1, _, hcc, hat, hdat, hbd, _⟩ := (HWA.out.G hgw).ent he
      obtain rfl : g = g1 := by cases hg1; rfl
      clear hg1
      have HGN : Hid (¬ (Value.slice xp k xc).ownBlock = some g) := fun hx => by
        have h1 := HRW.out.f g hx
        have h2 := World.block_lt_of_cell? _ _ hat0
        simp only at h1 h2
        omega
      have HAT := hide hat
      have HDT := hide hdat
      have HTL : Hid ((m.pend.take k).length ≤ 549755813888) := by unfold Hid; rw [List.length_take]; omega
      have HTK : Hid (m.pend.take (k + 1) = m.pend.take k ++ [e]) := by
        unfold Hid
        obtain ⟨hk', hke⟩ := List.getElem?_eq_some_iff.1 he
        rw [List.take_succ_eq_append_getElem hk', hke]
      have HSM : Hid (Calls Try.prog 45 #[.slice (some ⟨d, 0, none⟩) 128 128] wr.drew fun e' w' => e' = .returned (.slice (some ⟨wr.heap.size, 0, none⟩) 128 128) ∧ G wr.drew w' ∧ Blk w' wr.heap.size 5 (e.2.map bv)) := by
        have h1 := hbd.drew.bytes
        have h2 := same_any _ e.2 (by rw [e2]; decide) wr.drew h1
        rw [e2] at h2
        exact h2
      have hkI : (k : Int) < (m.pend.length : Int) := by omega
      clear e1 e2 e3 he hat0 hbd hgw hrw
      go_wp2_with fail
      clear hat hdat hc
      refine wp_region_noPanic ?_
      refine wp_region_held_drew (S := (fun W => Blk W p 98 (rheadC m (.slice (some ⟨lb, 0, none⟩) (m.n * 128) (m.n * 128)) (.slice (some ⟨g, 0, none⟩) m.pend.length cc)) ∧ W.cell? ⟨g, k * 2, none⟩ = some (I e.1) ∧ W.cell? ⟨g, k * 2 + 1, none⟩ = some (.slice (some ⟨d, 0, none⟩) 128 128))) (by kernel_rfl) (⟨HBW.out.drew, HAT.out, HDT.out⟩) (fun hHeld => ?_)
      refine wpAnyH_take (i := 0) (v := ?_) rfl (by kernel_rfl) (by kernel_rfl) (by kernel_rfl) (fun _ _ _ h => h) (Or.inl ⟨by rfl, ?_⟩) hHeld ?_
      rotate_left 1
      · (intro w hSw; (try dsimp only at hSw); go_simp; try with_reducible rfl)
      try simp only [Act.put, List.getElem_toArray, List.getElem_cons_zero, List.setIfInBounds_toArray, List.set_cons_zero, List.set_cons_succ]
      refine wpAnyH_take (i := 1) (v := ?_) rfl (by kernel_rfl) (by kernel_rfl) (by kernel_rfl) (fun _ _ _ h => h) (Or.inl ⟨by rfl, ?_⟩) hHeld ?_
      rotate_left 1
      · (intro w hSw; (try dsimp only at hSw); go_simp; try with_reducible rfl)
      try simp only [Act.put, List.getElem_toArray, List.getElem_cons_zero, List.getElem_cons_succ, List.setIfInBounds_toArray, List.set_cons_zero, List.set_cons_succ]
      refine wpAnyH_take (i := 2) (v := ?_) rfl (by kernel_rfl) (by kernel_rfl) (by kernel_rfl) (fun _ _ _ h => h) (Or.inl ⟨by rfl, ?_⟩) hHeld ?_
      rotate_left 1
      · (intro w hSw; (try dsimp only at hSw); go_simp; try with_reducible rfl)
      try simp only [Act.put, List.getElem_toArray, List.getElem_cons_zero, List.getElem_cons_succ, List.setIfInBounds_toArray, List.set_cons_zero, List.set_cons_succ]
      refine wpAnyH_take (i := 3) (v := ?_) rfl (by kernel_rfl) (by kernel_rfl) (by kernel_rfl) (fun _ _ _ h => h) (Or.inl ⟨by rfl, ?_⟩) hHeld ?_
      rotate_left 1
      · (intro w hSw; (try dsimp only at hSw); go_simp; try with_reducible rfl)
      try simp only [Act.put, List.getElem_toArray, List.getElem_cons_zero, List.getElem_cons_succ, List.setIfInBounds_toArray, List.set_cons_zero, List.set_cons_succ]
      refine wpAnyH_take (i := 4) (v := ?_) rfl (by kernel_rfl) (by kernel_rfl) (by kernel_rfl) (fun _ _ _ h => h) (Or.inl ⟨by rfl, ?_⟩) hHeld ?_
      rotate_left 1
      · (intro w hSw; have hq := Blk.rheadC hSw.1; go_simp; try with_reducible rfl)
      try simp only [Act.put, List.getElem_toArray, List.getElem_cons_zero, List.getElem_cons_succ, List.setIfInBounds_toArray, List.set_cons_zero, List.set_cons_succ]
      refine wpAnyH_take (i := 5) (v := ?_) rfl (by kernel_rfl) (by kernel_rfl) (by kernel_rfl) (fun _ _ _ h => h) (Or.inl ⟨by rfl, ?_⟩) hHeld ?_
      rotate_left 1
      · (intro w hSw; (try dsimp only at hSw); go_simp; try with_reducible rfl)
      try simp only [Act.put, List.getElem_toArray, List.getElem_cons_zero, List.getElem_cons_succ, List.setIfInBounds_toArray, List.set_cons_zero, List.set_cons_succ]
      refine wpAnyH_take (i := 6) (v := ?_) rfl (by kernel_rfl) (by kernel_rfl) (by kernel_rfl) (fun _ _ _ h => h) (Or.inl ⟨by rfl, ?_⟩) hHeld ?_
      rotate_left 1
      · (intro w hSw; (try dsimp only at hSw); go_simp; try with_reducible rfl)
      try simp only [Act.put, List.getElem_toArray, List.getElem_cons_zero, List.getElem_cons_succ, List.setIfInBounds_toArray, List.set_cons_zero, List.set_cons_succ]
      refine wpAnyH_take (i := 7) (v := ?_) rfl (by kernel_rfl) (by kernel_rfl) (by kernel_rfl) (fun _ _ _ h => h) (Or.inl ⟨by rfl, ?_⟩) hHeld ?_
      rotate_left 1
      · (intro w hSw; (try dsimp only at hSw); go_simp; try with_reducible rfl)
      try simp only [Act.put, List.getElem_toArray, List.getElem_cons_zero, List.getElem_cons_succ, List.setIfInBounds_toArray, List.set_cons_zero, List.set_cons_succ]
      refine wpAnyH_take (i := 8) (v := ?_) rfl (by kernel_rfl) (by kernel_rfl) (by kernel_rfl) (fun _ _ _ h => h) (Or.inl ⟨by rfl, ?_⟩) hHeld ?_
      rotate_left 1
      · (intro w hSw; have hq := hSw.2.1; go_simp; try with_reducible rfl)
      try simp only [Act.put, List.getElem_toArray, List.getElem_cons_zero, List.getElem_cons_succ, List.setIfInBounds_toArray, List.set_cons_zero, List.set_cons_succ]
      refine wpAnyH_take (i := 9) (v := ?_) rfl (by kernel_rfl) (by kernel_rfl) (by kernel_rfl) (fun _ _ _ h => h) (Or.inl ⟨by rfl, ?_⟩) hHeld ?_
      rotate_left 1
      · (intro w hSw; (try dsimp only at hSw); go_simp; try with_reducible rfl)
      try simp only [Act.put, List.getElem_toArray, List.getElem_cons_zero, List.getElem_cons_succ, List.setIfInBounds_toArray, List.set_cons_zero, List.set_cons_succ]
      refine wpAnyH_take (i := 10) (v := ?_) rfl (by kernel_rfl) (by kernel_rfl) (by kernel_rfl) (fun _ _ _ h => h) (Or.inl ⟨by rfl, ?_⟩) hHeld ?_
      rotate_left 1
      · (intro w hSw; (try dsimp only at hSw); go_simp; try with_reducible rfl)
      try simp only [Act.put, List.getElem_toArray, List.getElem_cons_zero, List.getElem_cons_succ, List.setIfInBounds_toArray, List.set_cons_zero, List.set_cons_succ]
      refine wpAnyH_take (i := 11) (v := ?_) rfl (by kernel_rfl) (by kernel_rfl) (by kernel_rfl) (fun _ _ _ h => h) (Or.inl ⟨by rfl, ?_⟩) hHeld ?_
      rotate_left 1
      · (intro w hSw; (try dsimp only at hSw); go_simp; try with_reducible rfl)
      try simp only [Act.put, List.getElem_toArray, List.getElem_cons_zero, List.getElem_cons_succ, List.setIfInBounds_toArray, List.set_cons_zero, List.set_cons_succ]
      refine wpAnyH_take (i := 12) (v := ?_) rfl (by kernel_rfl) (by kernel_rfl) (by kernel_rfl) (fun _ _ _ h => h) (Or.inl ⟨by rfl, ?_⟩) hHeld ?_
      rotate_left 1
      · (intro w hSw; have hq := Blk.rheadC hSw.1; go_simp; try with_reducible rfl)
      try simp only [Act.put, List.getElem_toArray, List.getElem_cons_zero, List.getElem_cons_succ, List.setIfInBounds_toArray, List.set_cons_zero, List.set_cons_succ]
      refine wpAnyH_take (i := 13) (v := ?_) rfl (by kernel_rfl) (by kernel_rfl) (by kernel_rfl) (fun _ _ _ h => h) (Or.inl ⟨by rfl, ?_⟩) hHeld ?_
      rotate_left 1
      · (intro w hSw; (try dsimp only at hSw); go_simp; try with_reducible rfl)
      try simp only [Act.put, List.getElem_toArray, List.getElem_cons_zero, List.getElem_cons_succ, List.setIfInBounds_toArray, List.set_cons_zero, List.set_cons_succ]
      refine wpAnyH_take (i := 14) (v := ?_) rfl (by kernel_rfl) (by kernel_rfl) (by kernel_rfl) (fun _ _ _ h => h) (Or.inl ⟨by rfl, ?_⟩) hHeld ?_
      rotate_left 1
      · (intro w hSw; (try dsimp only at hSw); go_simp; try with_reducible rfl)
      try simp only [Act.put, List.getElem_toArray, List.getElem_cons_zero, List.getElem_cons_succ, List.setIfInBounds_toArray, List.set_cons_zero, List.set_cons_succ]
      refine wpAnyH_take (i := 15) (v := ?_) rfl (by kernel_rfl) (by kernel_rfl) (by kernel_rfl) (fun _ _ _ h => h) (Or.inl ⟨by rfl, ?_⟩) hHeld ?_
      rotate_left 1
      · (intro w hSw; (try dsimp only at hSw); go_simp; try with_reducible rfl)
      try simp only [Act.put, List.getElem_toArray, List.getElem_cons_zero, List.getElem_cons_succ, List.setIfInBounds_toArray, List.set_cons_zero, List.set_cons_succ]
      refine wpAnyH_take (i := 16) (v := ?_) rfl (by kernel_rfl) (by kernel_rfl) (by kernel_rfl) (fun _ _ _ h => h) (Or.inl ⟨by rfl, ?_⟩) hHeld ?_
      rotate_left 1
      · (intro w hSw; have hq := hSw.2.2; go_simp; try with_reducible rfl)
      try simp only [Act.put, List.getElem_toArray, List.getElem_cons_zero, List.getElem_cons_succ, List.setIfInBounds_toArray, List.set_cons_zero, List.set_cons_succ]
      refine wpAnyH_ready (rs := [17]) (by kernel_rfl) (by simp) (AllReadyH.cons rfl (fun K hK => ?_) AllReadyH.nil)
      clear hHeld
      go_simp
      with_reducible refine HSM.out.mono ?_
      rintro e' w5 ⟨rfl, hb, hbk⟩
      have HG5 : Hid (G wr w5) := G.trans (G.drew (G.refl _)) hb
      have HK5 : Hid (Blk w5 wr.heap.size 5 (e.2.map bv)) := hbk
      clear hb hbk
      go_wp2_with fail
      refine hK.out _ _ (⟨HBW.out.G HG5.out, cell_chg HAT.out HG5.out.chg (F := fun _ => False) (fun h => h), cell_chg HDT.out HG5.out.chg (F := fun _ => False) (fun h => h)⟩) (fun hHeld => ?_)
      clear hK K
      try simp only [Act.put, List.getElem_toArray, List.getElem_cons_zero, List.getElem_cons_succ, List.setIfInBounds_toArray, List.set_cons_zero, List.set_cons_succ]
      refine wpAnyH_take (i := 18) (v := ?_) rfl (by kernel_rfl) (by kernel_rfl) (by kernel_rfl) (fun _ _ _ h => h) (Or.inl ⟨by rfl, ?_⟩) hHeld ?_
      rotate_left 1
      · (intro w hSw; (try dsimp only at hSw); go_simp; try with_reducible rfl)
      try simp only [Act.put, List.getElem_toArray, List.getElem_cons_zero, List.getElem_cons_succ, List.setIfInBounds_toArray, List.set_cons_zero, List.set_cons_succ]
      refine wpAnyH_ready (rs := [19]) (by kernel_rfl) (by simp) (AllReadyH.cons rfl (fun K hK => ?_) AllReadyH.nil)
      clear hHeld
      go_simp
      have HG6 : Hid (G wr (w5.alloc (.cells #[I e.1, .slice (some ⟨wr.heap.size, 0, none⟩) 128 128] 96))) := HG5.out.alloc _
      have HB6 : Hid (Blk (w5.alloc (.cells #[I e.1, .slice (some ⟨wr.heap.size, 0, none⟩) 128 128] 96)) w5.heap.size 96 [I e.1, .slice (some ⟨wr.heap.size, 0, none⟩) 128 128]) := Blk.new w5 [I e.1, .slice (some ⟨wr.heap.size, 0, none⟩) 128 128] 96
      have HK6 : Hid (Blk (w5.alloc (.cells #[I e.1, .slice (some ⟨wr.heap.size, 0, none⟩) 128 128] 96)) wr.heap.size 5 (e.2.map bv)) := HK5.out.G ((G.refl _).alloc _)
      generalize w5.alloc (.cells #[I e.1, .slice (some ⟨wr.heap.size, 0, none⟩) 128 128] 96) = w6 at HG6 HB6 HK6 ⊢
      refine hK.out _ _ (⟨HBW.out.G HG6.out, cell_chg HAT.out HG6.out.chg (F := fun _ => False) (fun h => h), cell_chg HDT.out HG6.out.chg (F := fun _ => False) (fun h => h)⟩) (fun hHeld => ?_)
      clear hK K
      try simp only [Act.put, List.getElem_toArray, List.getElem_cons_zero, List.getElem_cons_succ, List.setIfInBounds_toArray, List.set_cons_zero, List.set_cons_succ]
      refine wpAnyH_ready (rs := [20]) (by kernel_rfl) (by simp) (AllReadyH.cons rfl (fun K hK => ?_) AllReadyH.nil)
      clear hHeld
      obtain ⟨g7, cap7, w7, hrun, hr7, hch7⟩ := app_sw 88 (HRW.out.G HG6.out) HTL.out HB6.out HK6.out HGW.out.size (fun h => h) (Nat.le_trans HGW.out.size HG6.out.size) (own_ne (RowW.own (HRW.out.G HG6.out)) HK6.out (by decide))
      have HR7 := hide hr7
      have HC7 := hide hch7
      clear hr7 hch7
      refine (if_pos rfl).mpr ?_
      refine wp_of_exec (exec_append _ _ 88 rfl (.slice xp k xc) (.slice (some ⟨w5.heap.size, 0, none⟩) 1 1) rfl rfl 88 rfl hrun) ?_
      clear hrun
      refine hK.out _ _ (⟨(HBW.out.G HG6.out).chg HC7.out (own_ne (RowW.own (HRW.out.G HG6.out)) (HBW.out.G HG6.out) (by decide)), cell_chg (cell_chg HAT.out HG6.out.chg (F := fun _ => False) (fun h => h)) HC7.out HGN.out, cell_chg (cell_chg HDT.out HG6.out.chg (F := fun _ => False) (fun h => h)) HC7.out HGN.out⟩) (fun hHeld => ?_)
      clear hK K
      try simp only [Act.put, List.getElem_toArray, List.getElem_cons_zero, List.getElem_cons_succ, List.setIfInBounds_toArray, List.set_cons_zero, List.set_cons_succ]
      refine wpAnyH_take (i := 21) (v := ?_) rfl (by kernel_rfl) (by kernel_rfl) (by kernel_rfl) (fun _ _ _ h => h) (Or.inl ⟨by rfl, ?_⟩) hHeld ?_
      rotate_left 1
      · (intro w hSw; (try dsimp only at hSw); go_simp; try with_reducible rfl)
      try simp only [Act.put, List.getElem_toArray, List.getElem_cons_zero, List.getElem_cons_succ, List.setIfInBounds_toArray, List.set_cons_zero, List.set_cons_succ]
      refine wpAnyH_done (by kernel_rfl) ?_ _
      refine NoPanic.normal ?_
      have HG7 : Hid (G w w7) := (HGW.out.trans HG6.out).chg2 HC7.out (fun j hj => HRW.out.f j hj)
      have hle : (m.pend.take k ++ [e]).length = k + 1 := by rw [List.length_append, List.length_take, Nat.min_eq_left (Nat.le_of_lt hlt)]; rfl
      have HR8 := HR7.out
      rw [hle, ← HTK.out] at HR8
      rw [hle]
      clear hle
      have HR9 := hide HR8
      clear HR8 HR7
      go_wp2
      go_roundw
      case rel => exact ⟨k + 1, by omega, by go_num, HG7.out, ⟨_, _, rfl⟩, HR9.out⟩
      case measure => simp [RowKit.intOf]; omega
    · have hkI : ¬ (k : Int) < (m.pend.length : Int) := by omega
      obtain rfl : k = m.pend.length := by omega
      clear hgw hrw
      go_wp2
      go_ret
      have := HRW.out
      rw [List.take_length] at this
      exact ⟨_, rfl, HGW.out, this⟩
end Go.Proofs.Ytbjbphhcmmaaoaa
