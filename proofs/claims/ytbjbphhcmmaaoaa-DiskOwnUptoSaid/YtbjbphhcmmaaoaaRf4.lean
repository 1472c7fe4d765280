/- The document's disks: lay, Flush. -/
import Derived.Test.YtbjbphhcmmaaoaaRf3
namespace Go.Proofs.Ytbjbphhcmmaaoaa
open Go.RowKit

def layK (l : List Nat) (e : Nat × List Nat) (k : Nat) : List Nat := l.take (e.1 * 128) ++ e.2.take k ++ l.drop (e.1 * 128 + k)
theorem layK_zero (l : List Nat) (e : Nat × List Nat) : layK l e 0 = l := by simp [layK]
theorem layK_all {l : List Nat} {e : Nat × List Nat} (h : e.2.length = 128) : layK l e 128 = lay l e := by
  unfold layK lay
  rw [show List.take 128 e.2 = e.2 from List.take_of_length_le (by omega)]
theorem layK_step {l : List Nat} {e : Nat × List Nat} {n k x : Nat} (hl : l.length = n * 128) (he : e.1 < n) (hk : e.2[k]? = some x) (hk2 : k < 128) : (layK l e k).set (e.1 * 128 + k) x = layK l e (k + 1) := by
  have h1 : (e.1 + 1) * 128 ≤ n * 128 := Nat.mul_le_mul_right _ he
  obtain ⟨hkl, hkx⟩ := List.getElem?_eq_some_iff.1 hk
  unfold layK
  have hA : (l.take (e.1 * 128) ++ e.2.take k).length = e.1 * 128 + k := by rw [List.length_append, List.length_take, List.length_take, hl]; omega
  rw [List.set_append_right _ _ (by omega), hA, Nat.sub_self]
  have hd : l.drop (e.1 * 128 + k) = (l[e.1 * 128 + k]'(by omega)) :: l.drop (e.1 * 128 + k + 1) := (List.getElem_cons_drop (by omega)).symm
  rw [hd, List.set_cons_zero, List.take_succ_eq_append_getElem hkl, hkx]
  simp [Nat.add_assoc]
theorem layK_len {l : List Nat} {e : Nat × List Nat} {n k : Nat} (hl : l.length = n * 128) (he : e.1 < n) (h2 : e.2.length = 128) (hk : k ≤ 128) : (layK l e k).length = n * 128 := by
  have h1 : (e.1 + 1) * 128 ≤ n * 128 := Nat.mul_le_mul_right _ he
  unfold layK
  simp only [List.length_append, List.length_take, List.length_drop, h2, hl]
  omega
theorem Blk.setN {w : World} {g t : Nat} {l : List Nat} (h : Blk w g t (l.map bv)) (o x : Nat) : Blk (w.setCell ⟨g, o, none⟩ (bv x)) g t ((l.set o x).map bv) := by
  have := h.set o (bv x)
  rw [List.map_set]
  exact this
set_option maxRecDepth 100000 in
set_option maxHeartbeats 4000000 in
theorem rlay_any (p lb db n N : Nat) (hd : List Value) (l : List Nat) (e : Nat × List Nat) (h1 : hd[0]? = some (.slice (some ⟨lb, 0, none⟩) (n * 128) (n * 128))) (hn : n ≤ 4096) (hl : l.length = n * 128) (he : e.1 < n) (h2 : e.2.length = 128) (w : World) (hp : Blk w p N hd) (hb : Blk w lb 5 (l.map bv)) (hdb : Blk w db 5 (e.2.map bv)) (hnp : p ≠ lb) (hne : db ≠ lb) :
    Calls Try.prog 56 #[.pointer (some ⟨p, 0, none⟩), .agg #[I e.1, .slice (some ⟨db, 0, none⟩) 128 128]] w fun e' w' => e' = .returned (.tuple #[]) ∧ Chg (fun k => k = lb) w w' ∧ Blk w' lb 5 ((lay l e).map bv) := by
  have HH1 := hide h1
  clear h1
  have HP := hide hp
  have HB := hide hb
  have HDB := hide hdb
  have HLL := hide hl
  have HE1 := hide he
  have HE2 := hide h2
  have HNP := hide hnp
  have HND := hide hne
  have HX0 := hide (Blk.new w [I e.1, .slice (some ⟨db, 0, none⟩) 128 128] 96)
  have HG0 := hide ((G.refl w).alloc (.cells #[I e.1, .slice (some ⟨db, 0, none⟩) 128 128] 96))
  have HNX : Hid (w.heap.size ≠ lb) := by unfold Hid; have := hb.lt; omega
  have hat : e.1 ≤ 4095 := by omega
  have j1 : (0 : Int) ≤ 128 * (e.1 : Int) := by omega
  have j5 : IntKind.i64.wrap (128 * (e.1 : Int)) = 128 * (e.1 : Int) := by rw [IntKind.wrap_i64]; omega
  clear hp hb hdb hl he h2 hnp hne
  go_enter Try.func56, Try.ntmps56
  go_wp2
  generalize w.alloc (.cells #[I e.1, .slice (some ⟨db, 0, none⟩) 128 128] 96) = w1 at HX0 HG0 ⊢
  go_loopw [4] (fun i W => ∃ k : Nat, k ≤ 128 ∧ i = .int .i64 k ∧ Chg (fun j => j = lb) w1 W ∧ Blk W lb 5 ((layK l e k).map bv)) (fun i _ => 128 - (RowKit.intOf i).toNat)
  case atStart => exact ⟨0, by omega, rfl, Chg.refl _ _, by rw [layK_zero]; exact HB.out.G HG0.out⟩
  case round =>
    obtain ⟨k, hk, rfl, hcw, hlw⟩ := hrel
    have HCC := hide hcw
    have HLW := hide hlw
    clear hcw hlw
    by_cases hlt : k < 128
    · obtain ⟨x, hx⟩ : ∃ x, e.2[k]? = some x := ⟨_, List.getElem?_eq_getElem (by have := HE2.out; omega)⟩
      have HHW : Hid (wr.drew.cell? ⟨p, 0, none⟩ = some (.slice (some ⟨lb, 0, none⟩) (n * 128) (n * 128))) := (((HP.out.G HG0.out).chg HCC.out HNP.out).cell 0).trans HH1.out
      have HXW := hide (HX0.out.chg HCC.out HNX.out)
      have HCW : Hid (wr.drew.cell? ⟨db, k, none⟩ = some (bv x)) := by
        unfold Hid
        have := ((HDB.out.G HG0.out).chg HCC.out HND.out).cell k
        rw [List.getElem?_map, hx] at this
        exact this
      have HST := hide (layK_step HLL.out HE1.out hx hlt)
      have HLN := hide (layK_len HLL.out HE1.out HE2.out hk)
      have hlI : (k : Int) < 128 := by omega
      have j6 : IntKind.i64.wrap (128 * (e.1 : Int) + (k : Int)) = 128 * (e.1 : Int) + (k : Int) := by rw [IntKind.wrap_i64]; omega
      have j2 : (0 : Int) ≤ 128 * (e.1 : Int) + (k : Int) := by omega
      have j3 : 128 * (e.1 : Int) + (k : Int) < (n : Int) * 128 := by have := HE1.out; omega
      have j4 : (128 * (e.1 : Int) + (k : Int)).toNat = e.1 * 128 + k := by omega
      have hfz := HLW.out.frozen
      have hcl : ∃ y, wr.cell? ⟨lb, e.1 * 128 + k, none⟩ = some y := ⟨_, by rw [HLW.out.cell]; exact List.getElem?_eq_getElem (by rw [List.length_map, HLN.out]; have := HE1.out; omega)⟩
      obtain ⟨y, hy⟩ := hcl
      have HK1 : Hid ((wr.setCell ⟨lb, e.1 * 128 + k, none⟩ (bv x)).cell? ⟨p, 0, none⟩ = some (.slice (some ⟨lb, 0, none⟩) (n * 128) (n * 128))) := by
        unfold Hid
        rw [World.cell?_setCell_other _ _ _ _ (fun h => HNP.out (congrArg Addr.block h).symm)]; exact HHW.out
      have HK2 : Hid ((wr.setCell ⟨lb, e.1 * 128 + k, none⟩ (bv x)).cell? ⟨db, k, none⟩ = some (bv x)) := by
        unfold Hid
        rw [World.cell?_setCell_other _ _ _ _ (fun h => HND.out (congrArg Addr.block h).symm)]; exact HCW.out
      clear hx
      go_wp2_with fail
      refine wp_region_noPanic ?_
      refine wp_region_held_drew (S := (fun W => W.cell? ⟨p, 0, none⟩ = some (.slice (some ⟨lb, 0, none⟩) (n * 128) (n * 128)) ∧ Blk W w.heap.size 96 [I e.1, .slice (some ⟨db, 0, none⟩) 128 128] ∧ W.cell? ⟨db, k, none⟩ = some (bv x))) (by kernel_rfl) (⟨HHW.out, HXW.out.drew, HCW.out⟩) (fun hHeld => ?_)
      refine wpAnyH_take (i := 0) (v := ?_) rfl (by kernel_rfl) (by kernel_rfl) (by kernel_rfl) (fun _ _ _ h => h) (Or.inl ⟨by rfl, ?_⟩) hHeld ?_
      rotate_left 1
      · (intro w hSw; (try dsimp only at hSw); go_simp; try with_reducible rfl)
      try simp only [Act.put, List.getElem_toArray, List.getElem_cons_zero, List.setIfInBounds_toArray, List.set_cons_zero, List.set_cons_succ]
      refine wpAnyH_take (i := 1) (v := ?_) rfl (by kernel_rfl) (by kernel_rfl) (by kernel_rfl) (fun _ _ _ h => h) (Or.inl ⟨by rfl, ?_⟩) hHeld ?_
      rotate_left 1
      · (intro w hSw; (try dsimp only at hSw); go_simp; try with_reducible rfl)
      try simp only [Act.put, List.getElem_toArray, List.getElem_cons_zero, List.getElem_cons_succ, List.setIfInBounds_toArray, List.set_cons_zero, List.set_cons_succ]
      refine wpAnyH_take (i := 2) (v := ?_) rfl (by kernel_rfl) (by kernel_rfl) (by kernel_rfl) (fun _ _ _ h => h) (Or.inl ⟨by rfl, ?_⟩) hHeld ?_
      rotate_left 1
      · (intro w hSw; (try dsimp only at hSw); go_simp; try with_reducible rfl)
      try simp only [Act.put, List.getElem_toArray, List.getElem_cons_zero, List.getElem_cons_succ, List.setIfInBounds_toArray, List.set_cons_zero, List.set_cons_succ]
      refine wpAnyH_take (i := 3) (v := ?_) rfl (by kernel_rfl) (by kernel_rfl) (by kernel_rfl) (fun _ _ _ h => h) (Or.inl ⟨by rfl, ?_⟩) hHeld ?_
      rotate_left 1
      · (intro w hSw; have hq := hSw.1; go_simp; try with_reducible rfl)
      try simp only [Act.put, List.getElem_toArray, List.getElem_cons_zero, List.getElem_cons_succ, List.setIfInBounds_toArray, List.set_cons_zero, List.set_cons_succ]
      refine wpAnyH_take (i := 4) (v := ?_) rfl (by kernel_rfl) (by kernel_rfl) (by kernel_rfl) (fun _ _ _ h => h) (Or.inl ⟨by rfl, ?_⟩) hHeld ?_
      rotate_left 1
      · (intro w hSw; (try dsimp only at hSw); go_simp; try with_reducible rfl)
      try simp only [Act.put, List.getElem_toArray, List.getElem_cons_zero, List.getElem_cons_succ, List.setIfInBounds_toArray, List.set_cons_zero, List.set_cons_succ]
      refine wpAnyH_take (i := 5) (v := ?_) rfl (by kernel_rfl) (by kernel_rfl) (by kernel_rfl) (fun _ _ _ h => h) (Or.inl ⟨by rfl, ?_⟩) hHeld ?_
      rotate_left 1
      · (intro w hSw; have hq := Blk.cell hSw.2.1; go_simp; try with_reducible rfl)
      try simp only [Act.put, List.getElem_toArray, List.getElem_cons_zero, List.getElem_cons_succ, List.setIfInBounds_toArray, List.set_cons_zero, List.set_cons_succ]
      refine wpAnyH_take (i := 6) (v := ?_) rfl (by kernel_rfl) (by kernel_rfl) (by kernel_rfl) (fun _ _ _ h => h) (Or.inl ⟨by rfl, ?_⟩) hHeld ?_
      rotate_left 1
      · (intro w hSw; (try dsimp only at hSw); go_simp; try with_reducible rfl)
      try simp only [Act.put, List.getElem_toArray, List.getElem_cons_zero, List.getElem_cons_succ, List.setIfInBounds_toArray, List.set_cons_zero, List.set_cons_succ]
      refine wpAnyH_take (i := 7) (v := ?_) rfl (by kernel_rfl) (by kernel_rfl) (by kernel_rfl) (fun _ _ _ h => h) (Or.inl ⟨by rfl, ?_⟩) hHeld ?_
      rotate_left 1
      · (intro w hSw; (try dsimp only at hSw); go_simp; try with_reducible rfl)
      try simp only [Act.put, List.getElem_toArray, List.getElem_cons_zero, List.getElem_cons_succ, List.setIfInBounds_toArray, List.set_cons_zero, List.set_cons_succ]
      refine wpAnyH_take (i := 8) (v := ?_) rfl (by kernel_rfl) (by kernel_rfl) (by kernel_rfl) (fun _ _ _ h => h) (Or.inl ⟨by rfl, ?_⟩) hHeld ?_
      rotate_left 1
      · (intro w hSw; (try dsimp only at hSw); go_simp; try with_reducible rfl)
      try simp only [Act.put, List.getElem_toArray, List.getElem_cons_zero, List.getElem_cons_succ, List.setIfInBounds_toArray, List.set_cons_zero, List.set_cons_succ]
      refine wpAnyH_take (i := 9) (v := ?_) rfl (by kernel_rfl) (by kernel_rfl) (by kernel_rfl) (fun _ _ _ h => h) (Or.inl ⟨by rfl, ?_⟩) hHeld ?_
      rotate_left 1
      · (intro w hSw; (try dsimp only at hSw); go_simp; try with_reducible rfl)
      try simp only [Act.put, List.getElem_toArray, List.getElem_cons_zero, List.getElem_cons_succ, List.setIfInBounds_toArray, List.set_cons_zero, List.set_cons_succ]
      refine wpAnyH_take (i := 10) (v := ?_) rfl (by kernel_rfl) (by kernel_rfl) (by kernel_rfl) (fun _ _ _ h => h) (Or.inl ⟨by rfl, ?_⟩) hHeld ?_
      rotate_left 1
      · (intro w hSw; have hq := Blk.cell hSw.2.1; go_simp; try with_reducible rfl)
      try simp only [Act.put, List.getElem_toArray, List.getElem_cons_zero, List.getElem_cons_succ, List.setIfInBounds_toArray, List.set_cons_zero, List.set_cons_succ]
      refine wpAnyH_take (i := 11) (v := ?_) rfl (by kernel_rfl) (by kernel_rfl) (by kernel_rfl) (fun _ _ _ h => h) (Or.inl ⟨by rfl, ?_⟩) hHeld ?_
      rotate_left 1
      · (intro w hSw; (try dsimp only at hSw); go_simp; try with_reducible rfl)
      try simp only [Act.put, List.getElem_toArray, List.getElem_cons_zero, List.getElem_cons_succ, List.setIfInBounds_toArray, List.set_cons_zero, List.set_cons_succ]
      refine wpAnyH_take (i := 12) (v := ?_) rfl (by kernel_rfl) (by kernel_rfl) (by kernel_rfl) (fun _ _ _ h => h) (Or.inl ⟨by rfl, ?_⟩) hHeld ?_
      rotate_left 1
      · (intro w hSw; (try dsimp only at hSw); go_simp; try with_reducible rfl)
      try simp only [Act.put, List.getElem_toArray, List.getElem_cons_zero, List.getElem_cons_succ, List.setIfInBounds_toArray, List.set_cons_zero, List.set_cons_succ]
      refine wpAnyH_take (i := 13) (v := ?_) rfl (by kernel_rfl) (by kernel_rfl) (by kernel_rfl) (fun _ _ _ h => h) (Or.inl ⟨by rfl, ?_⟩) hHeld ?_
      rotate_left 1
      · (intro w hSw; have hq := hSw.2.2; go_simp; try with_reducible rfl)
      try simp only [Act.put, List.getElem_toArray, List.getElem_cons_zero, List.getElem_cons_succ, List.setIfInBounds_toArray, List.set_cons_zero, List.set_cons_succ]
      refine wpAnyH_take (i := 14) (v := ?_) rfl (by kernel_rfl) (by kernel_rfl) (by kernel_rfl) (fun _ _ _ h => h) (Or.inl ⟨by rfl, ?_⟩) hHeld ?_
      rotate_left 1
      · (intro w hSw; (try dsimp only at hSw); go_simp; try with_reducible rfl)
      try simp only [Act.put, List.getElem_toArray, List.getElem_cons_zero, List.getElem_cons_succ, List.setIfInBounds_toArray, List.set_cons_zero, List.set_cons_succ]
      refine wpAnyH_ready (rs := [15]) (by kernel_rfl) (by simp) (AllReadyH.cons rfl (fun K hK => ?_) AllReadyH.nil)
      clear hHeld
      go_simp
      refine hK.out _ _ (⟨HK1.out, (HXW.out.off HNX.out).drew, HK2.out⟩) (fun hHeld => ?_)
      clear hK K
      try simp only [Act.put, List.getElem_toArray, List.getElem_cons_zero, List.getElem_cons_succ]
      refine wpAnyH_done (by kernel_rfl) ?_ _
      refine NoPanic.normal ?_
      have HLB2 := hide (HLW.out.setN (e.1 * 128 + k) x).drew
      rw [HST.out] at HLB2
      have HCD : Hid (Chg (fun j => j = lb) w1 (wr.setCell ⟨lb, e.1 * 128 + k, none⟩ (bv x)).drew) := (HCC.out.trans (chg_setCell _ _ (.inl rfl))).trans (G.drew (G.refl _)).chg
      generalize (wr.setCell ⟨lb, e.1 * 128 + k, none⟩ (bv x)).drew = w5 at HLB2 HCD ⊢
      clear hy hfz j2 j3 j4 j6
      go_wp2
      go_roundw
      case rel => exact ⟨k + 1, by omega, by go_num, HCD.out, HLB2.out⟩
      case measure => simp [RowKit.intOf]; omega
    · have hkI : ¬ (k : Int) < 128 := by omega
      obtain rfl : k = 128 := by omega
      go_wp2
      go_end0
      have hl := HLW.out
      rw [layK_all HE2.out] at hl
      exact ⟨rfl, HG0.out.chg.trans HCC.out, hl⟩
end Go.Proofs.Ytbjbphhcmmaaoaa
