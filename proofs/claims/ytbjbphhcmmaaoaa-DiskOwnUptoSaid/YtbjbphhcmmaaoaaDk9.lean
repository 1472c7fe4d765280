/- Disks: Load; Write's refusals; no disk. -/
import Derived.Test.YtbjbphhcmmaaoaaDk8
namespace Go.Proofs.Ytbjbphhcmmaaoaa
open Go.RowKit

set_option maxRecDepth 100000 in
set_option maxHeartbeats 4000000 in
theorem write_nil (n : Int) (x : Value) (w : World) : Calls Try.prog 28 #[.pointer none, .int .i64 n, x] w fun e w' => e = .returned (.int .i64 1) ∧ w' = w := by
  go_enter Try.func28, Try.ntmps28
  go_wp2
  go_ret
  exact ⟨rfl, rfl⟩
set_option maxRecDepth 100000 in
set_option maxHeartbeats 4000000 in
theorem flush_nil (w : World) : Calls Try.prog 25 #[.pointer none] w fun e w' => e = .returned (.int .i64 1) ∧ w' = w := by
  go_enter Try.func25, Try.ntmps25
  go_wp2
  go_ret
  exact ⟨rfl, rfl⟩
set_option maxRecDepth 100000 in
set_option maxHeartbeats 4000000 in
theorem crash_nil (x : Value) (w : World) : Calls Try.prog 13 #[.pointer none, x] w fun e w' => e = .returned (.tuple #[.int .i64 0, .int .i64 1]) ∧ w' = w := by
  go_enter Try.func13, Try.ntmps13
  go_wp2
  go_ret2
  exact ⟨rfl, rfl⟩
set_option maxRecDepth 100000 in
set_option maxHeartbeats 4000000 in
theorem image_nil (w : World) : Calls Try.prog 11 #[.pointer none] w fun e w' => e = .returned (.slice none 0 0) ∧ w' = w := by
  go_enter Try.func11, Try.ntmps11
  go_wp2
  go_ret
  exact ⟨rfl, rfl⟩
set_option maxRecDepth 100000 in
set_option maxHeartbeats 4000000 in
theorem stat_nil (w : World) : Calls Try.prog 59 #[.pointer none] w fun e w' => e = .returned (.agg #[I 0, I 0, I 0, .bool false]) ∧ G w w' := by
  go_enter Try.func59, Try.ntmps59
  go_wp2
  refine bodyPost_ret (v := .agg #[I 0, I 0, I 0, .bool false]) (by simp [results, Try.results59, go_sem]) rfl ⟨rfl, ?_⟩
  repeat (first | exact G.refl _ | refine G.setCell ?_ (Nat.le_refl _) _ | refine G.drew ?_ | refine G.alloc ?_ _)
set_option maxRecDepth 100000 in
set_option maxHeartbeats 4000000 in
theorem write_no (F : Nat → Prop) (m : DM) (p : Nat) (n : Int) (da : Option Addr) (cap : Nat) (xs : List Nat) (hno : ¬ (0 ≤ n ∧ n < m.n) ∨ xs.length ≠ 128) (w : World) (h : PD w F p m) :
    Calls Try.prog 28 #[.pointer (some ⟨p, 0, none⟩), .int .i64 n, .slice da xs.length cap] w fun e w' => e = .returned (.int .i64 (m.write n xs).2) ∧ (m.write n xs).1 = m ∧ w' = w := by
  obtain ⟨ok, ⟨lb, ps, hb, _⟩, _⟩ := h
  have HH := hide (has_any m ok lb ps p n w hb)
  clear hb ok
  by_cases hin : 0 ≤ n ∧ n < m.n
  · have hl : xs.length ≠ 128 := hno.resolve_left (fun h => h hin)
    have e1 : (decide (0 ≤ n) && decide (n < m.n)) = true := by simp [hin]
    rw [e1] at HH
    have HW : Hid (m.write n xs = (m, 21)) := by unfold Hid DM.write; rw [if_neg (by simp [hin]), if_pos hl]
    have hlI : ¬ ((xs.length : Int) = 128) := by omega
    have hlN : ¬ (xs.length = 128) := hl
    clear e1 hin hno hl
    go_enter Try.func28, Try.ntmps28
    go_wp2_with fail
    refine HH.out.mono ?_
    rintro e w1 ⟨rfl, rfl⟩
    clear HH
    go_wp2
    go_ret
    rw [HW.out]
    exact ⟨rfl, rfl, rfl⟩
  · have e1 : (decide (0 ≤ n) && decide (n < m.n)) = false := by
      by_cases h0 : 0 ≤ n
      · have : ¬ n < m.n := fun h => hin ⟨h0, h⟩
        simp [this]
      · simp [h0]
    rw [e1] at HH
    have HW : Hid (m.write n xs = (m, 20)) := by unfold Hid DM.write; rw [if_pos hin]
    clear e1 hin hno
    go_enter Try.func28, Try.ntmps28
    go_wp2_with fail
    refine HH.out.mono ?_
    rintro e w1 ⟨rfl, rfl⟩
    clear HH
    go_wp2
    go_ret
    rw [HW.out]
    exact ⟨rfl, rfl, rfl⟩
/-- A disk of these bytes. -/
def DM.load (xs : List Nat) : DM := ⟨xs.length / 128, xs, [], false, none, 0, 0⟩
/-- Is there a disk of these bytes? -/
def loadsB (xs : List Nat) : Bool := xs.length % 128 == 0 && decide (1 ≤ xs.length / 128) && decide (xs.length / 128 ≤ 4096)
set_option maxRecDepth 100000 in
set_option maxHeartbeats 4000000 in
theorem load_no (xs : List Nat) (ia : Option Addr) (cap : Nat) (hl : xs.length ≤ 4611686018427387904) (h : loadsB xs = false) (w : World) : Calls Try.prog 12 #[.slice ia xs.length cap] w fun e w' => e = .returned (.tuple #[.pointer none, .int .i64 22]) ∧ w' = w := by
  unfold loadsB at h
  by_cases h1 : xs.length % 128 = 0
  · have h2 : ((xs.length / 128 : Nat) : Int) < 1 ∨ 4096 < ((xs.length / 128 : Nat) : Int) := by
      by_cases c1 : 1 ≤ xs.length / 128
      · by_cases c2 : xs.length / 128 ≤ 4096
        · simp [h1, c1, c2] at h
        · right; omega
      · left; omega
    have HN := hide (new_no ((xs.length / 128 : Nat) : Int) h2 w)
    have i1 : (xs.length : Int) % 128 = 0 := by omega
    have i3 : (xs.length : Int) / 128 = ((xs.length / 128 : Nat) : Int) := by omega
    have i2 : (xs.length : Int).tmod 128 = 0 := by rw [Int.tmod_eq_emod_of_nonneg (by omega)]; exact i1
    have i4 : (xs.length : Int).tdiv 128 = ((xs.length / 128 : Nat) : Int) := by rw [Int.tdiv_eq_ediv_of_nonneg (by omega)]; exact i3
    generalize ((xs.length / 128 : Nat) : Int) = z at HN i3 i4
    clear h h2 h1
    go_enter Try.func12, Try.ntmps12
    go_wp2_with fail
    refine HN.out.mono ?_
    rintro e w1 ⟨rfl, rfl⟩
    clear HN
    go_wp2
    go_ret2
    exact ⟨rfl, rfl⟩
  · have i1 : ¬ (xs.length : Int) % 128 = 0 := by omega
    clear h
    go_enter Try.func12, Try.ntmps12
    go_wp2
    go_ret2
    exact ⟨rfl, rfl⟩
set_option maxRecDepth 100000 in
set_option maxHeartbeats 4000000 in
theorem load_yes (xs : List Nat) (ib io cap : Nat) (hcap : xs.length ≤ cap) (h : loadsB xs = true) (hxb : ∀ x ∈ xs, x < 256) (w : World) (hli : Lies w ⟨ib, io, none⟩ xs) : Calls Try.prog 12 #[.slice (some ⟨ib, io, none⟩) xs.length cap] w fun e w' => ∃ p, e = .returned (.tuple #[.pointer (some ⟨p, 0, none⟩), .int .i64 0]) ∧ G w w' ∧ PD w' (fun k => w.heap.size ≤ k ∧ k < w'.heap.size) p (DM.load xs) := by
  unfold loadsB at h
  simp only [Bool.and_eq_true, beq_iff_eq, decide_eq_true_eq] at h
  obtain ⟨⟨h1, h2⟩, h3⟩ := h
  obtain ⟨n, hn⟩ : ∃ n, n = xs.length / 128 := ⟨_, rfl⟩
  have hll : xs.length = n * 128 := by omega
  have HLL := hide hll
  have hn1 : 1 ≤ n := by omega
  have hn2 : n ≤ 4096 := by omega
  have HDM : Hid (DM.load xs = ⟨n, xs, [], false, none, 0, 0⟩) := by unfold Hid DM.load; rw [← hn]
  have HN := hide (new_yes n hn1 hn2 w)
  have HLI := hide hli
  have HXB := hide hxb
  have i1 : (xs.length : Int) % 128 = 0 := by omega
  have i3 : (xs.length : Int) / 128 = (n : Int) := by omega
  have i4 : (xs.length : Int).tdiv 128 = (n : Int) := by rw [Int.tdiv_eq_ediv_of_nonneg (by omega)]; exact i3
  have i2 : (xs.length : Int).tmod 128 = 0 := by rw [Int.tmod_eq_emod_of_nonneg (by omega)]; exact i1
  have hlen : xs.length ≤ 524288 := by omega
  clear h1 h2 h3 hn hli hxb
  have HLE := hide hll
  clear hll
  go_enter Try.func12, Try.ntmps12
  go_wp2_with fail
  refine HN.out.mono ?_
  rintro e w1 ⟨rfl, hg, hpd⟩
  have HG := hide hg
  obtain ⟨ok, ⟨lb, ps, hb, hlb, hown, fl, fo⟩, fp⟩ := hpd
  have HB := hide (show Blk w1 (w.heap.size + 1) 79 (headC (DM.new n) (.slice (some ⟨lb, 0, none⟩) n n) ps) from hb)
  have HLB : Hid (Blk w1 lb 81 ((part xs 0).map bv)) := by unfold Hid; rw [part_zero, HLL.out]; exact hlb
  have HOW := hide hown
  have HFL := hide fl
  have HFO := hide fo
  have HFP := hide fp
  have HNPL : Hid (w.heap.size + 1 ≠ lb) := hb.ne hlb (by decide)
  have hc := HB.out.headC
  clear hb hlb hown fl fo fp ok hg HN
  go_wp2
  clear hc
  go_loopw [25] (fun i W => ∃ k : Nat, k ≤ n ∧ i = .int .i64 k ∧ Chg (fun j => j = lb) w1 W ∧ Blk W lb 81 ((part xs k).map bv)) (fun i _ => n - (RowKit.intOf i).toNat)
  case atStart => exact ⟨0, by omega, rfl, Chg.refl _ _, HLB.out⟩
  case round =>
    obtain ⟨k, hk, rfl, hcw, hlw⟩ := hrel
    have HCW := hide hcw
    have HLW := hide hlw
    clear hcw hlw
    have HBW := hide (HB.out.chg HCW.out HNPL.out)
    by_cases hlt : k < n
    · have hxl := sector_len HLL.out hlt
      have HXL := hide hxl
      have HSO : Hid (∀ W, Lies W ⟨ib, io + k * 128, none⟩ (sector xs k) → Calls Try.prog 29 #[.slice (some ⟨ib, io + k * 128, none⟩) (xs.length - k * 128) (cap - k * 128)] W fun e w' => e = .returned (.agg ((sector xs k).map bv).toArray) ∧ G W w') := fun W h => sectorOf_any _ _ _ _ hxl (by have := HLL.out; omega) W h
      have HLW4 : Hid (Lies wr.drew ⟨ib, io + k * 128, none⟩ (sector xs k)) := fun j x hj => by
        have h0 : xs[k * 128 + j]? = some x := by
          unfold sector at hj
          rw [List.getElem?_take] at hj
          split at hj
          · rw [List.getElem?_drop] at hj; exact hj
          · cases hj
        have h1 := HLI.out _ _ h0
        have h2 := (HLI.out.G HG.out).chg HCW.out (fun e => by
          have := World.block_lt_of_cell? _ _ h1
          rw [Addr.add_mid] at this
          have := HFL.out.1
          simp only at *
          omega) _ _ h0
        rw [Addr.add_mid] at h2 ⊢
        rw [show io + k * 128 + j = io + (k * 128 + j) by omega]
        exact h2
      have hkI : (k : Int) < (n : Int) := by omega
      have hk0 : (0 : Int) ≤ (k : Int) * 128 := by omega
      have hkt : ((k : Int) * 128).toNat = k * 128 := by omega
      have hkw : IntKind.i64.wrap ((k : Int) * 128) = (k : Int) * 128 := by rw [IntKind.wrap_i64]; omega
      have hkl : (k : Int) * 128 ≤ (xs.length : Int) := by have := HLL.out; omega
      have hkc : (k : Int) * 128 ≤ (cap : Int) := by have := HLL.out; omega
      have hne : ¬ (cap = k * 128) := by have := HLL.out; omega
      have HE4 : Hid (k * 128 + 128 ≤ n * 128) := by unfold Hid; omega
      clear hxl
      go_wp2_with fail
      refine wp_region_noPanic ?_
      refine wp_region_held_drew (S := (fun W => Blk W (w.heap.size + 1) 79 (headC (DM.new n) (.slice (some ⟨lb, 0, none⟩) n n) ps))) (by kernel_rfl) (HBW.out.drew) (fun hHeld => ?_)
      refine wpAnyH_take (i := 0) (v := ?_) rfl (by kernel_rfl) (by kernel_rfl) (by kernel_rfl) (fun _ _ _ h => h) (Or.inl ⟨by rfl, ?_⟩) hHeld ?_
      rotate_left 1
      · (intro w hSw; (try dsimp only at hSw); go_simp; try with_reducible rfl)
      try simp only [Act.put, List.getElem_toArray, List.getElem_cons_zero, List.setIfInBounds_toArray, List.set_cons_zero, List.set_cons_succ]
      refine wpAnyH_take (i := 1) (v := ?_) rfl (by kernel_rfl) (by kernel_rfl) (by kernel_rfl) (fun _ _ _ h => h) (Or.inl ⟨by rfl, ?_⟩) hHeld ?_
      rotate_left 1
      · (intro w hSw; (try dsimp only at hSw); go_simp; try with_reducible rfl)
      try simp only [Act.put, List.getElem_toArray, List.getElem_cons_zero, List.getElem_cons_succ, List.setIfInBounds_toArray, List.set_cons_zero, List.set_cons_succ]
      refine wpAnyH_take (i := 2) (v := ?_) rfl (by kernel_rfl) (by kernel_rfl) (by kernel_rfl) (fun _ _ _ h => h) (Or.inl ⟨by rfl, ?_⟩) hHeld ?_
      rotate_left 1
      · (intro w hSw; (try dsimp only at hSw); go_simp; try with_reducible rfl)
      try simp only [Act.put, List.getElem_toArray, List.getElem_cons_zero, List.getElem_cons_succ, List.setIfInBounds_toArray, List.set_cons_zero, List.set_cons_succ]
      refine wpAnyH_take (i := 3) (v := ?_) rfl (by kernel_rfl) (by kernel_rfl) (by kernel_rfl) (fun _ _ _ h => h) (Or.inl ⟨by rfl, ?_⟩) hHeld ?_
      rotate_left 1
      · (intro w hSw; have hq := Blk.headC hSw; go_simp; try with_reducible rfl)
      try simp only [Act.put, List.getElem_toArray, List.getElem_cons_zero, List.getElem_cons_succ, List.setIfInBounds_toArray, List.set_cons_zero, List.set_cons_succ]
      refine wpAnyH_take (i := 4) (v := ?_) rfl (by kernel_rfl) (by kernel_rfl) (by kernel_rfl) (fun _ _ _ h => h) (Or.inl ⟨by rfl, ?_⟩) hHeld ?_
      rotate_left 1
      · (intro w hSw; (try dsimp only at hSw); go_simp; try with_reducible rfl)
      try simp only [Act.put, List.getElem_toArray, List.getElem_cons_zero, List.getElem_cons_succ, List.setIfInBounds_toArray, List.set_cons_zero, List.set_cons_succ]
      refine wpAnyH_take (i := 5) (v := ?_) rfl (by kernel_rfl) (by kernel_rfl) (by kernel_rfl) (fun _ _ _ h => h) (Or.inl ⟨by rfl, ?_⟩) hHeld ?_
      rotate_left 1
      · (intro w hSw; (try dsimp only at hSw); go_simp; try with_reducible rfl)
      try simp only [Act.put, List.getElem_toArray, List.getElem_cons_zero, List.getElem_cons_succ, List.setIfInBounds_toArray, List.set_cons_zero, List.set_cons_succ]
      refine wpAnyH_take (i := 6) (v := ?_) rfl (by kernel_rfl) (by kernel_rfl) (by kernel_rfl) (fun _ _ _ h => h) (Or.inl ⟨by rfl, ?_⟩) hHeld ?_
      rotate_left 1
      · (intro w hSw; (try dsimp only at hSw); go_simp; try with_reducible rfl)
      try simp only [Act.put, List.getElem_toArray, List.getElem_cons_zero, List.getElem_cons_succ, List.setIfInBounds_toArray, List.set_cons_zero, List.set_cons_succ]
      refine wpAnyH_take (i := 7) (v := ?_) rfl (by kernel_rfl) (by kernel_rfl) (by kernel_rfl) (fun _ _ _ h => h) (Or.inl ⟨by rfl, ?_⟩) hHeld ?_
      rotate_left 1
      · (intro w hSw; (try dsimp only at hSw); go_simp; try with_reducible rfl)
      try simp only [Act.put, List.getElem_toArray, List.getElem_cons_zero, List.getElem_cons_succ, List.setIfInBounds_toArray, List.set_cons_zero, List.set_cons_succ]
      refine wpAnyH_take (i := 8) (v := ?_) rfl (by kernel_rfl) (by kernel_rfl) (by kernel_rfl) (fun _ _ _ h => h) (Or.inl ⟨by rfl, ?_⟩) hHeld ?_
      rotate_left 1
      · (intro w hSw; (try dsimp only at hSw); go_simp; try with_reducible rfl)
      try simp only [Act.put, List.getElem_toArray, List.getElem_cons_zero, List.getElem_cons_succ, List.setIfInBounds_toArray, List.set_cons_zero, List.set_cons_succ]
      refine wpAnyH_ready (rs := [9]) (by kernel_rfl) (by simp) (AllReadyH.cons rfl (fun K hK => ?_) AllReadyH.nil)
      clear hHeld
      go_simp
      with_reducible refine (HSO.out _ ?_).mono ?_
      exact HLW4.out
      rintro e w5 ⟨rfl, hb⟩
      have HG5 : Hid (G wr w5) := G.trans (G.drew (G.refl _)) hb
      clear hb
      go_wp2_with fail
      refine hK.out _ _ (HBW.out.G HG5.out) (fun hHeld => ?_)
      clear hK K
      try simp only [Act.put, List.getElem_toArray, List.getElem_cons_zero, List.getElem_cons_succ, List.setIfInBounds_toArray, List.set_cons_zero, List.set_cons_succ]
      refine wpAnyH_take (i := 10) (v := ?_) rfl (by kernel_rfl) (by kernel_rfl) (by kernel_rfl) (fun _ _ _ h => h) (Or.inl ⟨by rfl, ?_⟩) hHeld ?_
      rotate_left 1
      · (intro w hSw; (try dsimp only at hSw); go_simp; try with_reducible rfl)
      try simp only [Act.put, List.getElem_toArray, List.getElem_cons_zero, List.getElem_cons_succ, List.setIfInBounds_toArray, List.set_cons_zero, List.set_cons_succ]
      refine wpAnyH_ready (rs := [11]) (by kernel_rfl) (by simp) (AllReadyH.cons rfl (fun K hK => ?_) AllReadyH.nil)
      clear hHeld
      refine (if_pos rfl).mpr ?_
      refine wp_store_mid 81 _ _ rfl lb (k * 128) ((sector xs k).map bv).toArray rfl rfl ((HLW.out.G HG5.out).there _ _ (by rw [List.size_toArray, List.length_map, List.length_map, HXL.out, part_len, HLL.out]; exact HE4.out)) (by rw [List.size_toArray, List.length_map, HXL.out]; exact size_sec) (all_oneCell_toArray (one_map _)) ?_
      refine hK.out _ _ ((HBW.out.G HG5.out).other _ HNPL.out) (fun hHeld => ?_)
      clear hK K
      try simp only [Act.put, List.getElem_toArray, List.getElem_cons_zero, List.getElem_cons_succ]
      refine wpAnyH_done (by kernel_rfl) ?_ _
      refine NoPanic.normal ?_
      have HST := hide ((HLW.out.G HG5.out).lay (e := (k, sector xs k)) (n := n) (by rw [part_len, HLL.out]) hlt HXL.out)
      rw [part_step _ _ _ HLL.out hlt] at HST
      have HCC : Hid (Chg (fun j => j = lb) w1 (w5.setCells lb (k * 128) ((sector xs k).map bv))) := (HCW.out.trans HG5.out.chg).trans (chg_setCells _ _ (.inl rfl))
      generalize w5.setCells lb (k * 128) ((sector xs k).map bv) = w6 at HST HCC ⊢
      clear hne hkw hkt hkl hkc hk0
      go_wp2
      go_roundw
      case rel => exact ⟨k + 1, by omega, by go_num, HCC.out, HST.out⟩
      case measure => simp [RowKit.intOf]; omega
    · have hkI : ¬ (k : Int) < (n : Int) := by omega
      obtain rfl : k = n := by omega
      go_wp2
      go_ret2
      have hl := HLW.out
      rw [part_all _ _ HLL.out] at hl
      rw [HDM.out]
      have hsz := HCW.out.size
      refine ⟨w.heap.size + 1, rfl, HG.out.chg2 HCW.out (fun j e => by subst e; exact HFL.out.1), ⟨hn1, hn2, HLL.out, HXB.out, fun e he => by simp at he, fun _ => rfl, fun k hk => by simp at hk⟩, ⟨lb, ps, HBW.out, hl, ?_, ⟨HFL.out.1, Nat.lt_of_lt_of_le HFL.out.2 hsz⟩, fun g hg => ⟨(HFO.out g hg).1, Nat.lt_of_lt_of_le (HFO.out g hg).2 hsz⟩⟩, ⟨HFP.out.1, Nat.lt_of_lt_of_le HFP.out.2 hsz⟩⟩
      exact own_chg HOW.out HCW.out (fun g hg e => by subst e; exact own_ne HOW.out HLB.out (by decide) hg)
end Go.Proofs.Ytbjbphhcmmaaoaa
