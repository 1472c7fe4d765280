/- Disks: Image; Write's refusals; no disk. -/
import Derived.Test.YtbjbphhcmmaaoaaDk7
namespace Go.Proofs.Ytbjbphhcmmaaoaa
open Go.RowKit

theorem run_mk (n : Nat) (h : n ≤ 1073741824) (w : World) : (Instr.makeSlice 28 (.int .i64 (n : Int)) (.int .i64 (n : Int))).run Try.prog w = .ok (.slice (some ⟨w.heap.size, 0, none⟩) n n) (w.alloc (.cells ((List.replicate n 0).map bv).toArray 5)) := by
  obtain ⟨i0, hi, hz0, hz1, hz2⟩ := info_u8
  rw [run_make (P := Try.prog) w 28 5 i0 (bv 0) Try.underlying28 hi hz0 .i64 .i64 n n (by omega) (by omega) (by rw [hz2]; omega) (by omega), hz1, Int.toNat_natCast, Nat.mul_one]
  have e1 : madeCells (bv 0).cells n = ((List.replicate n 0).map bv).toArray := made_u8 n
  rw [e1]
/-- Nothing that was there has turned but what came behind w0. -/
theorem G.chg2 {w0 w w' : World} (h : G w0 w) {F : Nat → Prop} (k : Chg F w w') (hF : ∀ j, F j → w0.heap.size ≤ j) : G w0 w' := ⟨k.os.trans h.os, k.tape.trans h.tape, k.output.trans h.output, Nat.le_trans h.size k.size, fun j hj => (k.block j (Nat.lt_of_lt_of_le hj h.size) (fun e => by have := hF j e; omega)).trans (h.block j hj)⟩
theorem box_sec (w : World) (xs : List Nat) (hx : xs.length = 128) : (w.alloc (.cells zeroCells81 81)).there w.heap.size 0 (xs.map bv).toArray.size ∧ Blk ((w.alloc (.cells zeroCells81 81)).setCells w.heap.size 0 (xs.map bv)) w.heap.size 81 (xs.map bv) ∧ G w ((w.alloc (.cells zeroCells81 81)).setCells w.heap.size 0 (xs.map bv)) := by
  have h1 := Blk.zsec w
  exact ⟨h1.there 0 _ (by rw [List.size_toArray, len128, List.length_map, hx]; decide), h1.whole _ (by rw [len128, List.length_map, hx]), G.setCells _ ((G.refl w).alloc _) (Nat.le_refl _)⟩
/-- The first k sectors, and zeros behind them. -/
def part (l : List Nat) (k : Nat) : List Nat := l.take (k * 128) ++ List.replicate (l.length - k * 128) 0
theorem part_zero (l : List Nat) : part l 0 = List.replicate l.length 0 := by simp [part]
theorem part_len (l : List Nat) (k : Nat) : (part l k).length = l.length := by unfold part; simp; omega
theorem part_all (l : List Nat) (n : Nat) (h : l.length = n * 128) : part l n = l := by
  unfold part; rw [List.take_of_length_le (by omega), h]; simp
theorem part_step (l : List Nat) (k n : Nat) (h : l.length = n * 128) (hk : k < n) : lay (part l k) (k, sector l k) = part l (k + 1) := by
  have h1 : (k + 1) * 128 ≤ n * 128 := Nat.mul_le_mul_right _ hk
  have e1 : (l.take (k * 128)).length = k * 128 := by rw [List.length_take, h]; omega
  have gen : ∀ (A Z s : List Nat), A.length = k * 128 → lay (A ++ Z) (k, s) = A ++ s ++ Z.drop 128 := by
    intro A Z s hA
    unfold lay
    simp only
    rw [← hA, List.take_left, List.drop_append]
    simp
  unfold part
  rw [gen _ _ _ e1, List.drop_replicate]
  unfold sector
  rw [show (k + 1) * 128 = k * 128 + 128 by omega, List.take_add, h]
  rw [show n * 128 - k * 128 - 128 = n * 128 - (k * 128 + 128) by omega]
set_option maxRecDepth 100000 in
set_option maxHeartbeats 4000000 in
theorem image_any (F : Nat → Prop) (m : DM) (p : Nat) (w : World) (h : PD w F p m) : Calls Try.prog 11 #[.pointer (some ⟨p, 0, none⟩)] w fun e w' => e = .returned (.slice (some ⟨w.heap.size, 0, none⟩) (m.n * 128) (m.n * 128)) ∧ G w w' ∧ Blk w' w.heap.size 5 (m.laid.map bv) := by
  obtain ⟨ok, ⟨lb, ps, hb, hlb, hown, fl, fo⟩, hf⟩ := h
  have HLB := hide hlb
  have HOK := hide ok
  have HHB := hide hb
  have hc := hb.headC
  have hn2 := ok.n2
  have hn1 := ok.n1
  have HMK : Hid ((Instr.makeSlice 28 (.int .i64 ((m.n : Int) * 128)) (.int .i64 ((m.n : Int) * 128))).run Try.prog w = .ok (.slice (some ⟨w.heap.size, 0, none⟩) (m.n * 128) (m.n * 128)) (w.alloc (.cells ((List.replicate (m.n * 128) 0).map bv).toArray 5))) := by
    have := run_mk (m.n * 128) (by omega) w
    rw [show ((m.n * 128 : Nat) : Int) = (m.n : Int) * 128 by omega] at this
    exact this
  clear hlb hown ok hb
  go_enter Try.func11, Try.ntmps11
  go_wp2_with fail
  rw [HMK.out]
  have HG1 := hide ((G.refl w).alloc (.cells ((List.replicate (m.n * 128) 0).map bv).toArray 5))
  have HB1 := hide (Blk.new w ((List.replicate (m.n * 128) 0).map bv) 5)
  generalize w.alloc (.cells ((List.replicate (m.n * 128) 0).map bv).toArray 5) = w1 at HG1 HB1 ⊢
  have HHB1 := hide (HHB.out.G HG1.out)
  clear hc HMK
  have hc := HHB1.out.headC
  have HLL := hide HOK.out.ll
  have HLB1 := hide (HLB.out.G HG1.out)
  go_wp2
  clear hc
  go_loopw [20] (fun i W => ∃ k : Nat, k ≤ m.n ∧ i = .int .i64 k ∧ Chg (fun j => j = w.heap.size) w1 W ∧ Blk W w.heap.size 5 ((part m.laid k).map bv)) (fun i _ => m.n - (RowKit.intOf i).toNat)
  case atStart => exact ⟨0, by omega, rfl, Chg.refl _ _, by rw [part_zero, HLL.out]; exact HB1.out⟩
  case round =>
    obtain ⟨k, hk, rfl, hcw, hlw⟩ := hrel
    have HCW := hide hcw
    have HLW := hide hlw
    clear hcw hlw
    have HLBW := hide (HLB1.out.chg HCW.out (fun e => HLB1.out.ne HB1.out (by decide) e))
    by_cases hlt : k < m.n
    · have HENT := hide (sector_range HLBW.out HLL.out hlt)
      have hxl := sector_len HLL.out hlt
      have HXL := hide hxl
      have HXM : Hid (((sector m.laid k).map bv).length = 128) := by unfold Hid; rw [List.length_map, hxl]
      obtain ⟨hbt, hbx, hbg⟩ := box_sec wr _ hxl
      have HBT := hide hbt
      have HX4 := hide hbx
      have HBG := hide hbg
      have hkI : (k : Int) < (m.n : Int) := by omega
      have hk0 : (0 : Int) ≤ (k : Int) * 128 := by omega
      have hkm : (k : Int) * 128 ≤ (m.n : Int) * 128 := by omega
      have hkr : (k : Int) * 128 ≤ 9223372036854775807 := by omega
      have hkt : ((k : Int) * 128).toNat = k * 128 := by omega
      have hne : ¬ (m.n * 128 = k * 128) := by omega
      have hkw : IntKind.i64.wrap ((k : Int) * 128) = (k : Int) * 128 := by rw [IntKind.wrap_i64]; omega
      have HE4 : Hid (k * 128 + 128 ≤ m.n * 128) := by unfold Hid; omega
      have HMN : Hid (128 = Nat.min 128 (m.n * 128 - k * 128)) := by unfold Hid; show 128 = min 128 (m.n * 128 - k * 128); omega
      clear hbt hbx hbg hxl
      go_wp2_with (first | refine wpList_load_mid rfl 81 _ rfl lb (k * 128) rfl ((sector m.laid k).map bv) _ HENT.out Try.underlying81 rfl (by rw [HXM.out]; exact size_sec) ?_ | refine wpList_store_mid rfl 81 _ _ rfl wr.heap.size 0 ((sector m.laid k).map bv).toArray rfl rfl HBT.out (by rw [List.size_toArray, HXM.out]; exact size_sec) (all_oneCell_toArray (one_map _)) ?_)
      have HLB4 := hide (HLW.out.G HBG.out)
      generalize (wr.alloc (.cells zeroCells81 81)).setCells wr.heap.size 0 ((sector m.laid k).map bv) = w4 at HX4 HBG HLB4 ⊢
      refine wp_region_noPanic ?_
      refine wp_region_held_drew (S := (fun _ => True)) (by kernel_rfl) (trivial) (fun hHeld => ?_)
      refine wpAnyH_take (i := 0) (v := ?_) rfl (by kernel_rfl) (by kernel_rfl) (by kernel_rfl) (fun _ _ _ h => h) (Or.inl ⟨by rfl, ?_⟩) hHeld ?_
      rotate_left 1
      · (intro w hSw; (try dsimp only at hSw); go_simp; try with_reducible rfl)
      try simp only [Act.put, List.getElem_toArray, List.getElem_cons_zero, List.setIfInBounds_toArray, List.set_cons_zero, List.set_cons_succ]
      refine wpAnyH_take (i := 1) (v := ?_) rfl (by kernel_rfl) (by kernel_rfl) (by kernel_rfl) (fun _ _ _ h => h) (Or.inl ⟨by rfl, ?_⟩) hHeld ?_
      rotate_left 1
      · (intro w hSw; (try dsimp only at hSw); go_simp; try with_reducible rfl)
      try simp only [Act.put, List.getElem_toArray, List.getElem_cons_zero, List.getElem_cons_succ, List.setIfInBounds_toArray, List.set_cons_zero, List.set_cons_succ]
      refine wpAnyH_take (i := 2) (v := ?_) rfl (by kernel_rfl) (by kernel_rfl) (by kernel_rfl) (fun _ _ _ h => h) (Or.inl ⟨by rfl, ?_⟩) hHeld ?_
      rotate_left 1
      · (intro w hSw; (try dsimp only at hSw); go_simp; try with_reducible rfl)
      try simp only [Act.put, List.getElem_toArray, List.getElem_cons_zero, List.getElem_cons_succ, List.setIfInBounds_toArray, List.set_cons_zero, List.set_cons_succ]
      refine wpAnyH_take (i := 3) (v := ?_) rfl (by kernel_rfl) (by kernel_rfl) (by kernel_rfl) (fun _ _ _ h => h) (Or.inl ⟨by rfl, ?_⟩) hHeld ?_
      rotate_left 1
      · (intro w hSw; (try dsimp only at hSw); go_simp; try with_reducible rfl)
      try simp only [Act.put, List.getElem_toArray, List.getElem_cons_zero, List.getElem_cons_succ, List.setIfInBounds_toArray, List.set_cons_zero, List.set_cons_succ]
      refine wpAnyH_take (i := 4) (v := ?_) rfl (by kernel_rfl) (by kernel_rfl) (by kernel_rfl) (fun _ _ _ h => h) (Or.inl ⟨by rfl, ?_⟩) hHeld ?_
      rotate_left 1
      · (intro w hSw; (try dsimp only at hSw); go_simp; try with_reducible rfl)
      try simp only [Act.put, List.getElem_toArray, List.getElem_cons_zero, List.getElem_cons_succ, List.setIfInBounds_toArray, List.set_cons_zero, List.set_cons_succ]
      refine wpAnyH_ready (rs := [5]) (by kernel_rfl) (by simp) (AllReadyH.cons rfl (fun K hK => ?_) AllReadyH.nil)
      clear hHeld
      refine (if_pos rfl).mpr ?_
      refine wp_copy_z _ _ 28 28 rfl 5 Try.underlying28 size_u8 w.heap.size (k * 128) (m.n * 128 - k * 128) (m.n * 128 - k * 128) ⟨wr.heap.size, 0, none⟩ 128 128 rfl rfl ((sector m.laid k).map bv) (by rw [List.length_map, HXL.out]; exact HMN.out) (fun j v hj => by rw [Addr.add_mid, Nat.zero_add, HX4.out.drew.cell]; exact hj) (HLB4.out.drew.there _ _ (by rw [List.length_map, List.length_map, HXL.out, part_len, HLL.out]; exact HE4.out)) (one_map _) ?_
      refine hK.out _ _ (trivial) (fun hHeld => ?_)
      clear hK K
      try simp only [Act.put, List.getElem_toArray, List.getElem_cons_zero, List.getElem_cons_succ, List.setIfInBounds_toArray, List.set_cons_zero, List.set_cons_succ]
      refine wpAnyH_done (by kernel_rfl) ?_ _
      refine NoPanic.normal ?_
      have HST := hide (HLB4.out.drew.lay (e := (k, sector m.laid k)) (n := m.n) (by rw [part_len, HLL.out]) hlt HXL.out)
      rw [part_step _ _ _ HLL.out hlt] at HST
      have HCC : Hid (Chg (fun j => j = w.heap.size) w1 (w4.drew.setCells w.heap.size (k * 128) ((sector m.laid k).map bv))) := ((HCW.out.trans HBG.out.chg).trans (G.drew (G.refl w4)).chg).trans (chg_setCells _ _ (.inl rfl))
      generalize w4.drew.setCells w.heap.size (k * 128) ((sector m.laid k).map bv) = w5 at HST HCC ⊢
      clear hne hkw hkt hkr hkm hk0
      go_wp2
      go_roundw
      case rel => exact ⟨k + 1, by omega, by go_num, HCC.out, HST.out⟩
      case measure => simp [RowKit.intOf]; omega
    · have hkI : ¬ (k : Int) < (m.n : Int) := by omega
      obtain rfl : k = m.n := by omega
      go_wp2
      go_ret
      have := HLW.out
      rw [part_all _ _ HLL.out] at this
      exact ⟨rfl, HG1.out.chg2 HCW.out (fun j e => by omega), this⟩
end Go.Proofs.Ytbjbphhcmmaaoaa
