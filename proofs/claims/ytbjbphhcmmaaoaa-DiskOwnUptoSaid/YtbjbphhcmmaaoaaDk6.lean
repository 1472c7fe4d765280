/- Disks: Flush. -/
import Derived.Test.YtbjbphhcmmaaoaaDk5
namespace Go.Proofs.Ytbjbphhcmmaaoaa
open Go.RowKit

/-- A write's bytes, laid. -/
def lay (l : List Nat) (e : Nat × List Nat) : List Nat := l.take (e.1 * 128) ++ e.2 ++ l.drop (e.1 * 128 + 128)
theorem lay_len {l : List Nat} {e : Nat × List Nat} {n : Nat} (hl : l.length = n * 128) (he : e.1 < n) (h2 : e.2.length = 128) : (lay l e).length = n * 128 := by
  unfold lay
  have : (e.1 + 1) * 128 ≤ n * 128 := Nat.mul_le_mul_right _ he
  simp only [List.length_append, List.length_take, List.length_drop, h2, hl]
  omega
theorem lay_lt {l : List Nat} {e : Nat × List Nat} (hl : ∀ x ∈ l, x < 256) (he : ∀ x ∈ e.2, x < 256) : ∀ x ∈ lay l e, x < 256 := fun x hx => by
  unfold lay at hx
  rcases List.mem_append.1 hx with hx | hx
  · rcases List.mem_append.1 hx with hx | hx
    · exact hl x (List.mem_of_mem_take hx)
    · exact he x hx
  · exact hl x (List.mem_of_mem_drop hx)
theorem lays_ok {n : Nat} : ∀ (p : List (Nat × List Nat)) {l : List Nat}, l.length = n * 128 → (∀ x ∈ l, x < 256) → (∀ e ∈ p, e.1 < n ∧ e.2.length = 128 ∧ ∀ x ∈ e.2, x < 256) → (p.foldl lay l).length = n * 128 ∧ ∀ x ∈ p.foldl lay l, x < 256
  | [], _, h1, h2, _ => ⟨h1, h2⟩
  | e :: p, _, h1, h2, h3 => by
    obtain ⟨e1, e2, e3⟩ := h3 e (by simp)
    exact lays_ok p (lay_len h1 e1 e2) (lay_lt h2 e3) (fun f hf => h3 f (by simp [hf]))
/-- The store of a sector into the row of sectors. -/
theorem Blk.lay {w : World} {lb : Nat} {t : TypeId} {l : List Nat} {e : Nat × List Nat} {n : Nat} (h : Blk w lb t (l.map bv)) (hl : l.length = n * 128) (he : e.1 < n) (h2 : e.2.length = 128) : Blk (w.setCells lb (e.1 * 128) (e.2.map bv)) lb t ((Go.Proofs.Ytbjbphhcmmaaoaa.lay l e).map bv) := by
  have : (e.1 + 1) * 128 ≤ n * 128 := Nat.mul_le_mul_right _ he
  have := h.sets (e.2.map bv) (e.1 * 128) (by rw [List.length_map, List.length_map, h2, hl]; omega)
  unfold Go.Proofs.Ytbjbphhcmmaaoaa.lay
  rw [List.map_append, List.map_append, List.map_take, List.map_drop]
  rw [List.length_map, h2] at this
  exact this
theorem take_foldl {l : List (Nat × List Nat)} {k : Nat} {e : Nat × List Nat} (h : l[k]? = some e) (b : List Nat) : (l.take (k + 1)).foldl Go.Proofs.Ytbjbphhcmmaaoaa.lay b = Go.Proofs.Ytbjbphhcmmaaoaa.lay ((l.take k).foldl Go.Proofs.Ytbjbphhcmmaaoaa.lay b) e := by
  obtain ⟨hk, rfl⟩ := List.getElem?_eq_some_iff.1 h
  rw [List.take_succ_eq_append_getElem hk, List.foldl_append]; rfl
/-- Flush: the disk behind it, and the answer. -/
def DM.flush (m : DM) : DM × Int := if m.spent.2 then ({ m.spent.1 with flushes := m.spent.1.flushes + 1, laid := m.spent.1.pend.foldl lay m.spent.1.laid, pend := [] }, 0) else (m.spent.1, 2)
/-- The box of an entry. -/
theorem box_ent (w : World) (e : Nat × List Nat) (he : e.2.length = 128) : (w.alloc (.cells zeroCells84 84)).there w.heap.size 0 (entC e).toArray.size ∧ Blk ((w.alloc (.cells zeroCells84 84)).setCells w.heap.size 0 (entC e)) w.heap.size 84 (entC e) ∧ G w ((w.alloc (.cells zeroCells84 84)).setCells w.heap.size 0 (entC e)) := by
  have h1 : Blk (w.alloc (.cells zeroCells84 84)) w.heap.size 84 (I 0 :: (List.replicate 128 0).map bv) := by rw [zero_wr]; exact Blk.new w _ _
  have hl : (I 0 :: (List.replicate 128 0).map bv).length = 129 := by rw [List.length_cons, len128]
  have hl2 := entC_len he
  exact ⟨h1.there 0 _ (by rw [List.size_toArray, hl, hl2]; decide), h1.whole _ (by rw [hl, hl2]), G.setCells _ ((G.refl w).alloc _) (Nat.le_refl _)⟩
set_option maxRecDepth 100000 in
set_option maxHeartbeats 4000000 in
theorem flush_any (F : Nat → Prop) (m : DM) (p : Nat) (hB : m.few 549755813888) (w : World) (h : PD w F p m) : Calls Try.prog 25 #[.pointer (some ⟨p, 0, none⟩)] w fun e w' => e = .returned (.int .i64 m.flush.2) ∧ PD w' F p m.flush.1 ∧ Chg F w w' := by
  have HP := hide h
  obtain ⟨ok, ⟨lb, ps, hb, hlb, hown, fl, fo⟩, hf⟩ := h
  have HSP := hide (spend_any m ok (.slice (some ⟨lb, 0, none⟩) m.n m.n) ps p w hb)
  have HW : Hid (m.flush = if m.spent.2 then ({ m.spent.1 with flushes := m.spent.1.flushes + 1, laid := m.spent.1.pend.foldl lay m.spent.1.laid, pend := [] }, 0) else (m.spent.1, 2)) := rfl
  have HLB := hide hlb
  have HOW := hide hown
  have HOK := hide ok
  have HFL := hide fl
  have HFO := hide fo
  have HFP := hide hf
  have HHB := hide hb
  clear hlb hown ok hb
  go_enter Try.func25, Try.ntmps25
  go_wp2_with fail
  refine HSP.out.mono ?_
  rintro e w2 ⟨rfl, hb2, hch, hsz⟩
  clear HSP
  cases hsp : m.spent.2 with
  | false =>
    have HSPF : Hid (m.flush = (m.spent.1, 2)) := by unfold Hid; rw [HW.out, hsp]; rfl
    have HB2 := hide hb2
    have HCH := hide hch
    clear hb2 hch HW
    go_wp2
    go_ret
    rw [HSPF.out]
    exact ⟨rfl, HP.out.head HHB.out HCH.out HB2.out (spent_ok HOK.out) (spent_same m).1 (spent_same m).2.1 (spent_same m).2.2.1, HCH.out.mono (fun k e => by subst e; exact HFP.out)⟩
  | true =>
    obtain ⟨m0, hm0⟩ : ∃ x, x = m.spent.1 := ⟨_, rfl⟩
    have HWR : Hid (m.flush = ({ m0 with flushes := m0.flushes + 1, laid := m0.pend.foldl lay m0.laid, pend := [] }, 0)) := by unfold Hid; rw [HW.out, hsp, hm0]; rfl
    have hs := spent_same m
    rw [← hm0] at hs hb2
    obtain ⟨hs1, hs2, hs3, hs4, hs5⟩ := hs
    have HO1 : Hid m0.ok := by unfold Hid; rw [hm0]; exact spent_ok HOK.out
    have hwl := hB.f
    have hpl := hB.p
    rw [← hs1] at hb2
    rw [← hs5] at hwl
    rw [← hs3] at hpl
    have HS1 := hide hs1
    have HS2 := hide hs2
    have HS3 := hide hs3
    have hwI : (m0.flushes : Int) + 1 ≤ 9223372036854775807 := by omega
    have HNE : Hid (¬ ps.ownBlock = some p) := own_ne HOW.out HHB.out (by decide)
    have HC3 : Hid (Chg (fun k => k = p) w (w2.setCell ⟨p, 6, none⟩ (.int .i64 ((m0.flushes : Int) + 1)))) := hch.trans (chg1 _ _ _ _)
    have hown3 := own_chg HOW.out HC3.out (fun g hg e => by subst e; exact HNE.out hg)
    rw [← hs3] at hown3
    obtain ⟨pa, pc, rfl, hpp⟩ : ∃ pa pc, ps = .slice pa m0.pend.length pc ∧ (m0.pend.length ≠ 0 → ∃ g, pa = some ⟨g, 0, none⟩ ∧ m0.pend.length ≤ pc) := by
      rcases hown3.2 with ⟨rfl, hn⟩ | ⟨g, cap, cur, rfl, _, _, hc, _⟩
      · exact ⟨none, 0, by rw [hn], fun h => absurd hn h⟩
      · exact ⟨_, _, rfl, fun _ => ⟨g, rfl, hc⟩⟩
    have HPP := hide hpp
    have HB3 : Hid (Blk (w2.setCell ⟨p, 6, none⟩ (.int .i64 ((m0.flushes : Int) + 1))) p 79 (headC ({ m0 with flushes := m0.flushes + 1 } : DM) (.slice (some ⟨lb, 0, none⟩) m0.n m0.n) (.slice pa m0.pend.length pc))) := by
      unfold Hid
      have := hb2.set 6 (.int .i64 ((m0.flushes : Int) + 1))
      exact this
    have hc := hb2.headC
    have hz := hb2.frozen
    have HOW3 := hide hown3
    have HLB3 : Hid (Blk (w2.setCell ⟨p, 6, none⟩ (.int .i64 ((m0.flushes : Int) + 1))) lb 81 (m0.laid.map bv)) := by
      unfold Hid
      rw [hs2]
      exact HLB.out.chg HC3.out (fun e => HLB.out.ne HHB.out (by decide) e)
    have HZ3 : Hid ((w2.setCell ⟨p, 6, none⟩ (.int .i64 ((m0.flushes : Int) + 1))).heap.size = w.heap.size) := by unfold Hid; rw [← hsz]; simp
    have HNPL : Hid (p ≠ lb) := HHB.out.ne HLB.out (by decide)
    clear hch HW hsp hb2 hm0 hs1 hs2 hs3 hs4 hs5 hown3 hpp hsz
    go_wp2
    clear hc hz
    generalize w2.setCell ⟨p, 6, none⟩ (.int .i64 ((m0.flushes : Int) + 1)) = w3 at HB3 HC3 HZ3 HOW3 HLB3 ⊢
    go_loopw [24] (fun i W => ∃ k : Nat, k ≤ m0.pend.length ∧ i = .int .i64 k ∧ Chg (fun j => j = lb) w3 W ∧ Blk W lb 81 (((m0.pend.take k).foldl lay m0.laid).map bv)) (fun i _ => m0.pend.length - (RowKit.intOf i).toNat)
    case atStart => exact ⟨0, by omega, rfl, Chg.refl _ _, HLB3.out⟩
    case round =>
      obtain ⟨k, hk, rfl, hcw, hlw⟩ := hrel
      have HCW := hide hcw
      have HLW := hide hlw
      clear hcw hlw
      have HBW : Hid (Blk wr p 79 (headC ({ m0 with flushes := m0.flushes + 1 } : DM) (.slice (some ⟨lb, 0, none⟩) m0.n m0.n) (.slice pa m0.pend.length pc))) := HB3.out.chg HCW.out HNPL.out
      by_cases hlt : k < m0.pend.length
      · obtain ⟨g, rfl, hpc⟩ := HPP.out (by omega)
        obtain ⟨e, he⟩ : ∃ e, m0.pend[k]? = some e := ⟨_, List.getElem?_eq_getElem hlt⟩
        obtain ⟨e1, e2, e3⟩ := HO1.out.p e (List.mem_of_getElem? he)
        have HE1 := hide e1
        have HE2 := hide e2
        have HOWW := own_chg HOW3.out HCW.out (fun g' hg e' => by subst e'; exact own_ne HOW3.out HLB3.out (by decide) hg)
        have HENT := hide (own_ent HOWW (fun e he => (HO1.out.p e he).2.1) he)
        have HTF := hide (take_foldl he m0.laid)
        clear he HOWW
        have hlo := lays_ok (n := m0.n) (m0.pend.take k) HO1.out.ll HO1.out.lb (fun f hf => HO1.out.p f (List.mem_of_mem_take hf))
        generalize (m0.pend.take k).foldl lay m0.laid = l at HLW HTF hlo
        have HLL := hide hlo.1
        clear hlo
        have HE4 : Hid (e.1 * 128 + 128 ≤ m0.n * 128) := by unfold Hid; have := Nat.mul_le_mul_right 128 e1; omega
        obtain ⟨hbt, hbx, hbg⟩ := box_ent wr e e2
        have HBT := hide hbt
        have HX4 := hide hbx
        have HBG := hide hbg
        have hkI : (k : Int) < (m0.pend.length : Int) := by omega
        have heI : (e.1 : Int) < (m0.n : Int) := by omega
        clear hbt hbx hbg e1 e2 e3
        have HNX : Hid (wr.heap.size ≠ lb) := by unfold Hid; have := HLW.out.lt; omega
        go_wp2_with (first | refine wpList_load_mid rfl 84 _ rfl g (k * 129) rfl (entC e) _ HENT.out Try.underlying84 rfl (by rw [entC_len HE2.out]; exact size_wr) ?_ | refine wpList_store_mid rfl 84 _ _ rfl wr.heap.size 0 (entC e).toArray rfl rfl HBT.out (by rw [List.size_toArray, entC_len HE2.out]; exact size_wr) (all_oneCell_toArray (entC_one e)) ?_)
        have HB4 := hide (HBW.out.G HBG.out)
        have HLB4 := hide (HLW.out.G HBG.out)
        generalize (wr.alloc (.cells zeroCells84 84)).setCells wr.heap.size 0 (entC e) = w4 at HX4 HBG HB4 HLB4 ⊢
        refine wp_region_noPanic ?_
        refine wp_region_held_drew (S := (fun W => Blk W p 79 (headC ({ m0 with flushes := m0.flushes + 1 } : DM) (.slice (some ⟨lb, 0, none⟩) m0.n m0.n) (.slice (some ⟨g, 0, none⟩) m0.pend.length pc)) ∧ Blk W wr.heap.size 84 (entC e))) (by kernel_rfl) (⟨HB4.out.drew, HX4.out.drew⟩) (fun hHeld => ?_)
        refine wpAnyH_take (i := 0) (v := ?_) rfl (by kernel_rfl) (by kernel_rfl) (by kernel_rfl) (fun _ _ _ h => h) (Or.inl ⟨by rfl, ?_⟩) hHeld ?_
        rotate_left 1
        · (intro w hSw; (try dsimp only at hSw); go_simp; try with_reducible rfl)
        try simp only [Act.put, List.getElem_toArray, List.getElem_cons_zero, List.setIfInBounds_toArray, List.set_cons_zero, List.set_cons_succ]
        refine wpAnyH_take (i := 1) (v := ?_) rfl (by kernel_rfl) (by kernel_rfl) (by kernel_rfl) (fun _ _ _ h => h) (Or.inl ⟨by rfl, ?_⟩) hHeld ?_
        rotate_left 1
        · (intro w hSw; (try dsimp only at hSw); go_simp; try with_reducible rfl)
        try simp only [Act.put, List.getElem_toArray, List.getElem_cons_zero, List.getElem_cons_succ, List.setIfInBounds_toArray, List.set_cons_zero, List.set_cons_succ]
        refine wpAnyH_take (i := 2) (v := ?_) rfl (by kernel_rfl) (by kernel_rfl) (by kernel_rfl) (fun _ _ _ h => h) (Or.inl ⟨by rfl, ?_⟩) hHeld ?_
        rotate_left 1
        · (intro w hSw; (try dsimp only at hSw); go_simp; try with_reducible rfl)
        try simp only [Act.put, List.getElem_toArray, List.getElem_cons_zero, List.getElem_cons_succ, List.setIfInBounds_toArray, List.set_cons_zero, List.set_cons_succ]
        refine wpAnyH_take (i := 3) (v := ?_) rfl (by kernel_rfl) (by kernel_rfl) (by kernel_rfl) (fun _ _ _ h => h) (Or.inl ⟨by rfl, ?_⟩) hHeld ?_
        rotate_left 1
        · (intro w hSw; have hq := Blk.headC hSw.1; go_simp; try with_reducible rfl)
        try simp only [Act.put, List.getElem_toArray, List.getElem_cons_zero, List.getElem_cons_succ, List.setIfInBounds_toArray, List.set_cons_zero, List.set_cons_succ]
        refine wpAnyH_take (i := 4) (v := ?_) rfl (by kernel_rfl) (by kernel_rfl) (by kernel_rfl) (fun _ _ _ h => h) (Or.inl ⟨by rfl, ?_⟩) hHeld ?_
        rotate_left 1
        · (intro w hSw; (try dsimp only at hSw); go_simp; try with_reducible rfl)
        try simp only [Act.put, List.getElem_toArray, List.getElem_cons_zero, List.getElem_cons_succ, List.setIfInBounds_toArray, List.set_cons_zero, List.set_cons_succ]
        refine wpAnyH_take (i := 5) (v := ?_) rfl (by kernel_rfl) (by kernel_rfl) (by kernel_rfl) (fun _ _ _ h => h) (Or.inl ⟨by rfl, ?_⟩) hHeld ?_
        rotate_left 1
        · (intro w hSw; have hq := Blk.cell hSw.2; simp only [entC] at hq; go_simp; try with_reducible rfl)
        try simp only [Act.put, List.getElem_toArray, List.getElem_cons_zero, List.getElem_cons_succ, List.setIfInBounds_toArray, List.set_cons_zero, List.set_cons_succ]
        refine wpAnyH_take (i := 6) (v := ?_) rfl (by kernel_rfl) (by kernel_rfl) (by kernel_rfl) (fun _ _ _ h => h) (Or.inl ⟨by rfl, ?_⟩) hHeld ?_
        rotate_left 1
        · (intro w hSw; (try dsimp only at hSw); go_simp; try with_reducible rfl)
        try simp only [Act.put, List.getElem_toArray, List.getElem_cons_zero, List.getElem_cons_succ, List.setIfInBounds_toArray, List.set_cons_zero, List.set_cons_succ]
        refine wpAnyH_take (i := 7) (v := _) rfl (by kernel_rfl) (by kernel_rfl) (by kernel_rfl) (fun _ _ _ h => h) (yieldsIf_load_mid (by rfl) 81 _ rfl wr.heap.size (0 + 1) rfl (e.2.map bv) _ (fun w h => (rangeAt_tail (h.2.all)).2) Try.underlying81 rfl (by rw [List.length_map, HE2.out]; exact size_sec)) hHeld ?_
        try simp only [Act.put, List.getElem_toArray, List.getElem_cons_zero, List.getElem_cons_succ, List.setIfInBounds_toArray, List.set_cons_zero, List.set_cons_succ]
        refine wpAnyH_take (i := 8) (v := ?_) rfl (by kernel_rfl) (by kernel_rfl) (by kernel_rfl) (fun _ _ _ h => h) (Or.inl ⟨by rfl, ?_⟩) hHeld ?_
        rotate_left 1
        · (intro w hSw; (try dsimp only at hSw); go_simp; try with_reducible rfl)
        try simp only [Act.put, List.getElem_toArray, List.getElem_cons_zero, List.getElem_cons_succ, List.setIfInBounds_toArray, List.set_cons_zero, List.set_cons_succ]
        refine wpAnyH_ready (rs := [9]) (by kernel_rfl) (by simp) (AllReadyH.cons rfl (fun K hK => ?_) AllReadyH.nil)
        clear hHeld
        refine (if_pos rfl).mpr ?_
        refine wp_store_mid 81 _ _ rfl lb (e.1 * 128) (e.2.map bv).toArray rfl rfl (HLB4.out.drew.there _ _ (by rw [List.size_toArray, List.length_map, List.length_map, HE2.out, HLL.out]; exact HE4.out)) (by rw [List.size_toArray, List.length_map, HE2.out]; exact size_sec) (all_oneCell_toArray (one_map _)) ?_
        refine hK.out _ _ (⟨(HB4.out.drew).other _ HNPL.out, (HX4.out.drew).other _ HNX.out⟩) (fun hHeld => ?_)
        clear hK K
        try simp only [Act.put, List.getElem_toArray, List.getElem_cons_zero, List.getElem_cons_succ]
        refine wpAnyH_done (by kernel_rfl) ?_ _
        refine NoPanic.normal ?_
        have HBL : Hid (Blk (w4.drew.setCells lb (e.1 * 128) (e.2.map bv)) lb 81 ((lay l e).map bv)) := HLB4.out.drew.lay HLL.out HE1.out HE2.out
        have HCC : Hid (Chg (fun j => j = lb) w3 (w4.drew.setCells lb (e.1 * 128) (e.2.map bv))) := ((HCW.out.trans HBG.out.chg).trans (G.drew (G.refl w4)).chg).trans (chg_setCells _ _ (.inl rfl))
        generalize w4.drew.setCells lb (e.1 * 128) (e.2.map bv) = w5 at HBL HCC ⊢
        go_wp2
        go_roundw
        case rel => exact ⟨k + 1, by omega, by go_num, HCC.out, by rw [HTF.out]; exact HBL.out⟩
        case measure => simp [RowKit.intOf]; omega
      · have hkI : ¬ (k : Int) < (m0.pend.length : Int) := by omega
        obtain rfl : k = m0.pend.length := by omega
        have hc := HBW.out.headC
        have hz := HBW.out.frozen
        go_wp2
        go_ret
        rw [HWR.out]
        have hlo := lays_ok (n := m0.n) m0.pend HO1.out.ll HO1.out.lb HO1.out.p
        have hCC : Chg (fun k => k = p ∨ k = lb) w (wr.setCell ⟨p, 1, none⟩ (.slice none 0 0)) := ((HC3.out.mono (fun k e => .inl e)).trans (HCW.out.mono (fun k e => .inr e))).trans ((chg1 _ _ _ _).mono (fun k e => .inl e))
        refine ⟨rfl, ⟨⟨HO1.out.n1, HO1.out.n2, hlo.1, hlo.2, fun e he => by simp at he, HO1.out.o, HO1.out.f⟩, ⟨lb, .slice none 0 0, ?_, ?_, World.ownsRow_nil _ _ _ _, HFL.out, fun g hg => by simp [Value.ownBlock] at hg⟩, HFP.out⟩, hCC.mono (fun k e => ?_)⟩
        · exact HBW.out.set 1 (.slice none 0 0)
        · have := HLW.out.off (b := p) (o := 1) (v := .slice none 0 0) (Ne.symm HNPL.out)
          rw [List.take_length] at this
          exact this
        · rcases e with rfl | rfl
          · exact HFP.out
          · exact HFL.out
end Go.Proofs.Ytbjbphhcmmaaoaa
