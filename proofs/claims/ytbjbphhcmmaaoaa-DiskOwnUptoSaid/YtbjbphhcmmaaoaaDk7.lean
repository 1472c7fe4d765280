/- Disks: Crash. -/
import Derived.Test.YtbjbphhcmmaaoaaDk6
namespace Go.Proofs.Ytbjbphhcmmaaoaa
open Go.RowKit

/-- Of the first k of the writes that wait those that are kept, laid; and how many. -/
def crashK (ks : List Bool) (p : List (Nat × List Nat)) (l : List Nat) : Nat → List Nat × Nat
  | 0 => (l, 0)
  | k + 1 => match p[k]? with | some e => if ks[k]? = some true then (lay (crashK ks p l k).1 e, (crashK ks p l k).2 + 1) else crashK ks p l k | none => crashK ks p l k
theorem crashK_step {ks : List Bool} {p : List (Nat × List Nat)} {l : List Nat} {k : Nat} {e : Nat × List Nat} (h : p[k]? = some e) : crashK ks p l (k + 1) = if ks[k]? = some true then (lay (crashK ks p l k).1 e, (crashK ks p l k).2 + 1) else crashK ks p l k := by
  rw [crashK, h]
theorem crashK_ok {ks : List Bool} {p : List (Nat × List Nat)} {l : List Nat} {n : Nat} (h1 : l.length = n * 128) (h2 : ∀ x ∈ l, x < 256) (h3 : ∀ e ∈ p, e.1 < n ∧ e.2.length = 128 ∧ ∀ x ∈ e.2, x < 256) : ∀ k, (crashK ks p l k).1.length = n * 128 ∧ (∀ x ∈ (crashK ks p l k).1, x < 256) ∧ (crashK ks p l k).2 ≤ k
  | 0 => ⟨h1, h2, Nat.le_refl _⟩
  | k + 1 => by
    obtain ⟨i1, i2, i3⟩ := crashK_ok (ks := ks) h1 h2 h3 k
    cases he : p[k]? with
    | none =>
      have e1 : crashK ks p l (k + 1) = crashK ks p l k := by rw [crashK, he]
      rw [e1]; exact ⟨i1, i2, by omega⟩
    | some e =>
      obtain ⟨e1, e2, e3⟩ := h3 e (List.mem_of_getElem? he)
      rw [crashK_step he]
      split
      · exact ⟨lay_len i1 e1 e2, lay_lt i2 e3, by simp; omega⟩
      · exact ⟨i1, i2, by omega⟩
theorem crashK_stop {ks : List Bool} {p : List (Nat × List Nat)} {l : List Nat} : ∀ k, ks.length ≤ k → crashK ks p l k = crashK ks p l ks.length
  | 0, h => by rw [Nat.le_zero.1 h]
  | k + 1, h => by
    by_cases he : ks.length = k + 1
    · rw [he]
    · have h' : ks.length ≤ k := by omega
      have hn : ks[k]? = none := List.getElem?_eq_none h'
      rw [← crashK_stop k h']
      cases hp : p[k]? with
      | none => rw [crashK, hp]
      | some e => rw [crashK_step hp, hn]; simp
/-- Crash: the disk behind it, and how many were kept. -/
def DM.crash (m : DM) (ks : List Bool) : DM × Nat := ({ m with laid := (crashK ks m.pend m.laid m.pend.length).1, pend := [], off := false, fuse := none }, (crashK ks m.pend m.laid m.pend.length).2)
theorem DM.crash_ok {m : DM} (h : m.ok) (ks : List Bool) : (m.crash ks).1.ok := by
  obtain ⟨i1, i2, _⟩ := crashK_ok (ks := ks) h.ll h.lb h.p m.pend.length
  exact ⟨h.n1, h.n2, i1, i2, fun e he => by simp [DM.crash] at he, fun _ => rfl, fun k hk => by simp [DM.crash] at hk⟩
/-- A list of bools, in memory. -/
def Keeps (w : World) (kv : Value) (ks : List Bool) : Prop := ∃ ka kc, kv = .slice ka ks.length kc ∧ ks.length ≤ kc ∧ (ks = [] ∨ ∃ kb ko, ka = some ⟨kb, ko, none⟩ ∧ ∀ i b, ks[i]? = some b → w.cell? ⟨kb, ko + i, none⟩ = some (.bool b))
def Value.blk (v : Value) (k : Nat) : Prop := ∃ a n c, v = .slice (some a) n c ∧ 0 < n ∧ a.block = k
theorem Keeps.G {w w' : World} {kv : Value} {ks : List Bool} (h : Keeps w kv ks) (g : G w w') : Keeps w' kv ks := by
  obtain ⟨ka, kc, h1, h2, h3⟩ := h
  refine ⟨ka, kc, h1, h2, ?_⟩
  rcases h3 with h3 | ⟨kb, ko, e, hc⟩
  · exact .inl h3
  · exact .inr ⟨kb, ko, e, fun i b hi => (g.cell (World.block_lt_of_cell? _ _ (hc i b hi))).trans (hc i b hi)⟩
theorem Keeps.chg {F : Nat → Prop} {w w' : World} {kv : Value} {ks : List Bool} (h : Keeps w kv ks) (k : Chg F w w') (hF : ∀ j, Value.blk kv j → ¬ F j) : Keeps w' kv ks := by
  obtain ⟨ka, kc, h1, h2, h3⟩ := h
  refine ⟨ka, kc, h1, h2, ?_⟩
  rcases h3 with h3 | ⟨kb, ko, e, hc⟩
  · exact .inl h3
  · refine .inr ⟨kb, ko, e, fun i b hi => ?_⟩
    have := hc i b hi
    refine (World.cell?_of_block (w := w) ?_).trans this
    exact k.block kb (World.block_lt_of_cell? _ _ this) (hF kb ⟨_, _, _, by rw [h1, e], Nat.lt_of_le_of_lt (Nat.zero_le i) (List.getElem?_eq_some_iff.1 hi).1, rfl⟩)
set_option maxRecDepth 100000 in
set_option maxHeartbeats 4000000 in
theorem crash_any (F : Nat → Prop) (m : DM) (p : Nat) (kv : Value) (ks : List Bool) (hB : m.few 549755813888) (hkl : ks.length ≤ 4611686018427387904) (w : World) (h : PD w F p m) (hk : Keeps w kv ks) (hkF : ∀ j, Value.blk kv j → ¬ F j) : Calls Try.prog 13 #[.pointer (some ⟨p, 0, none⟩), kv] w fun e w' => e = .returned (.tuple #[.int .i64 (m.crash ks).2, .int .i64 0]) ∧ PD w' F p (m.crash ks).1 ∧ Chg F w w' := by
  obtain ⟨ok, ⟨lb, ps, hb, hlb, hown, fl, fo⟩, hf⟩ := h
  obtain ⟨pa, pc, rfl, hpp⟩ : ∃ pa pc, ps = .slice pa m.pend.length pc ∧ (m.pend.length ≠ 0 → ∃ g, pa = some ⟨g, 0, none⟩ ∧ m.pend.length ≤ pc) := by
    rcases hown.2 with ⟨rfl, hn⟩ | ⟨g, cap, cur, rfl, _, _, hc, _⟩
    · exact ⟨none, 0, by rw [hn], fun h => absurd hn h⟩
    · exact ⟨_, _, rfl, fun _ => ⟨g, rfl, hc⟩⟩
  have HPP := hide hpp
  have HLB := hide hlb
  have HOW := hide hown
  have HOK := hide ok
  have HFL := hide fl
  have HFP := hide hf
  have HHB := hide hb
  have HKV := hide hk
  have HKF := hide hkF
  have hc := hb.headC
  have hpl := hB.p
  obtain ⟨ka, kc, rfl, hkc, _⟩ := hk
  have HKC := hide hkc
  have HNPL : Hid (p ≠ lb) := HHB.out.ne HLB.out (by decide)
  clear hlb hown ok hb hpp hkF hkc
  go_enter Try.func13, Try.ntmps13
  go_wp2
  clear hc
  go_loopw [16, 6] (fun i c W => ∃ k : Nat, k ≤ m.pend.length ∧ i = .int .i64 k ∧ c = .int .i64 (crashK ks m.pend m.laid k).2 ∧ Chg (fun j => j = lb) w W ∧ Blk W lb 81 ((crashK ks m.pend m.laid k).1.map bv)) (fun i _ _ => m.pend.length - (RowKit.intOf i).toNat)
  case atStart => exact ⟨0, by omega, rfl, rfl, Chg.refl _ _, HLB.out⟩
  case round =>
    obtain ⟨k, hk, rfl, rfl, hcw, hlw⟩ := hrel
    have HCW := hide hcw
    have HLW := hide hlw
    clear hcw hlw
    have HBW : Hid (Blk wr p 79 (headC m (.slice (some ⟨lb, 0, none⟩) m.n m.n) (.slice pa m.pend.length pc))) := HHB.out.chg HCW.out HNPL.out
    by_cases hlt : k < m.pend.length
    · obtain ⟨g, rfl, hpc⟩ := HPP.out (by omega)
      obtain ⟨e, he⟩ : ∃ e, m.pend[k]? = some e := ⟨_, List.getElem?_eq_getElem hlt⟩
      obtain ⟨e1, e2, e3⟩ := HOK.out.p e (List.mem_of_getElem? he)
      have HE1 := hide e1
      have HE2 := hide e2
      have HOWW := own_chg HOW.out HCW.out (fun g' hg e' => by subst e'; exact own_ne HOW.out HLB.out (by decide) hg)
      have HENT := hide (own_ent HOWW (fun e he => (HOK.out.p e he).2.1) he)
      have HTF := hide (crashK_step (ks := ks) (l := m.laid) he)
      clear he HOWW
      obtain ⟨hl1, _, hl3⟩ := crashK_ok (ks := ks) (n := m.n) HOK.out.ll HOK.out.lb HOK.out.p k
      have HKW := HKV.out.chg HCW.out (fun j hj hjl => HKF.out j hj (by subst hjl; exact HFL.out))
      generalize crashK ks m.pend m.laid k = r at HLW HTF hl1 hl3 ⊢
      obtain ⟨l, c⟩ := r
      simp only at HLW HTF hl1 hl3
      have HLL := hide hl1
      clear hl1
      have HE4 : Hid (e.1 * 128 + 128 ≤ m.n * 128) := by unfold Hid; have := Nat.mul_le_mul_right 128 e1; omega
      obtain ⟨hbt, hbx, hbg⟩ := box_ent wr e e2
      have HBT := hide hbt
      have HX4 := hide hbx
      have HBG := hide hbg
      have hkI : (k : Int) < (m.pend.length : Int) := by omega
      have heI : (e.1 : Int) < (m.n : Int) := by omega
      have HNX : Hid (wr.heap.size ≠ lb) := by unfold Hid; have := HLW.out.lt; omega
      have HKW4 := hide (HKW.G hbg)
      clear hbt hbx hbg e1 e2 e3 HKW
      cases hkk : ks[k]? with
      | none =>
        have hkn : ¬ (k : Int) < (ks.length : Int) := by have := List.getElem?_eq_none_iff.1 hkk; omega
        have HTK : Hid (crashK ks m.pend m.laid (k + 1) = (l, c)) := by unfold Hid; rw [HTF.out, hkk]; simp
        clear hkk
        go_wp2_with (first | refine wpList_load_mid rfl 84 _ rfl g (k * 129) rfl (entC e) _ HENT.out Try.underlying84 rfl (by rw [entC_len HE2.out]; exact size_wr) ?_ | refine wpList_store_mid rfl 84 _ _ rfl wr.heap.size 0 (entC e).toArray rfl rfl HBT.out (by rw [List.size_toArray, entC_len HE2.out]; exact size_wr) (all_oneCell_toArray (entC_one e)) ?_)
        have HLB4 := hide (HLW.out.G HBG.out)
        have HCC : Hid (Chg (fun j => j = lb) w _) := HCW.out.trans HBG.out.chg
        go_roundw
        case rel => exact ⟨k + 1, by omega, by go_num, by rw [HTK.out], HCC.out, by rw [HTK.out]; exact HLB4.out⟩
        case measure => simp [RowKit.intOf]; omega
      | some b =>
        have hkn : (k : Int) < (ks.length : Int) := by have := (List.getElem?_eq_some_iff.1 hkk).1; omega
        have hcell : ∃ kb ko, ka = some ⟨kb, ko, none⟩ ∧ ((wr.alloc (.cells zeroCells84 84)).setCells wr.heap.size 0 (entC e)).cell? ⟨kb, ko + k, none⟩ = some (.bool b) := by
          obtain ⟨ka', kc', h1, h2, h3⟩ := HKW4.out
          cases h1
          rcases h3 with h3 | ⟨kb, ko, h4, h5⟩
          · rw [h3] at hkk; simp at hkk
          · exact ⟨kb, ko, h4, h5 k b hkk⟩
        obtain ⟨kb, ko, rfl, hkcell⟩ := hcell
        cases b with
        | false =>
          have HTK : Hid (crashK ks m.pend m.laid (k + 1) = (l, c)) := by unfold Hid; rw [HTF.out, hkk]; simp
          clear hkk
          go_wp2_with (first | refine wpList_load_mid rfl 84 _ rfl g (k * 129) rfl (entC e) _ HENT.out Try.underlying84 rfl (by rw [entC_len HE2.out]; exact size_wr) ?_ | refine wpList_store_mid rfl 84 _ _ rfl wr.heap.size 0 (entC e).toArray rfl rfl HBT.out (by rw [List.size_toArray, entC_len HE2.out]; exact size_wr) (all_oneCell_toArray (entC_one e)) ?_)
          have HLB4 := hide (HLW.out.G HBG.out)
          have HCC : Hid (Chg (fun j => j = lb) w _) := HCW.out.trans HBG.out.chg
          go_roundw
          case rel => exact ⟨k + 1, by omega, by go_num, by rw [HTK.out], HCC.out, by rw [HTK.out]; exact HLB4.out⟩
          case measure => simp [RowKit.intOf]; omega
        | true =>
          have HTK : Hid (crashK ks m.pend m.laid (k + 1) = (lay l e, c + 1)) := by unfold Hid; rw [HTF.out, hkk]; simp
          clear hkk
          have hcI : (c : Int) + 1 ≤ 9223372036854775807 := by omega
          have HB4 := hide (HBW.out.G HBG.out)
          have HLB4 := hide (HLW.out.G HBG.out)
          go_wp2_with (first | refine wpList_load_mid rfl 84 _ rfl g (k * 129) rfl (entC e) _ HENT.out Try.underlying84 rfl (by rw [entC_len HE2.out]; exact size_wr) ?_ | refine wpList_store_mid rfl 84 _ _ rfl wr.heap.size 0 (entC e).toArray rfl rfl HBT.out (by rw [List.size_toArray, entC_len HE2.out]; exact size_wr) (all_oneCell_toArray (entC_one e)) ?_)
          generalize (wr.alloc (.cells zeroCells84 84)).setCells wr.heap.size 0 (entC e) = w4 at HX4 HBG HB4 HLB4 hkcell ⊢
          refine wp_region_noPanic ?_
          refine wp_region_held_drew (S := (fun W => Blk W p 79 (headC m (.slice (some ⟨lb, 0, none⟩) m.n m.n) (.slice (some ⟨g, 0, none⟩) m.pend.length pc)) ∧ Blk W wr.heap.size 84 (entC e))) (by kernel_rfl) (⟨HB4.out.drew, HX4.out.drew⟩) (fun hHeld => ?_)
          refine wpAnyH_take (i := 0) (v := ?_) rfl (by kernel_rfl) (by kernel_rfl) (by kernel_rfl) (fun _ _ _ h => h) (Or.inl ⟨by rfl, ?_⟩) hHeld ?_
          rotate_left 1
          · (intro w hSw; (try dsimp only at hSw); go_simp; try with_reducible rfl)
          try simp only [Act.put, List.getElem_toArray, List.getElem_cons_zero, List.setIfInBounds_toArray, List.set_cons_zero, List.set_cons_succ]
          refine wpAnyH_take (i := 1) (v := ?_) rfl (by kernel_rfl) (by kernel_rfl) (by kernel_rfl) (fun _ _ _ h => h) (Or.inl ⟨by rfl, ?_⟩) hHeld ?_
          rotate_left 1
          · (intro w hSw; (try dsimp only at hSw); go_simp; try with_reducible rfl)
          try simp only [Act.put, List.getElem_toArray, List.getElem_cons_zero, List.getElem_cons_succ, List.setIfInBounds_toArray, List.set_cons_zero, List.set_cons_succ]
          refine wpAnyH_take (i := 2) (v := ?_) rfl (by kernel_rfl) (by kernel_rfl) (by kernel_rfl) (fun _ _ _ h => h) (Or.inl ⟨by rfl, ?_⟩) hHeld ?_
          rotate_left 1
          · (intro w hSw; (try dsimp only at hSw); go_simp; try with_reducible rfl)
          try simp only [Act.put, List.getElem_toArray, List.getElem_cons_zero, List.getElem_cons_succ, List.setIfInBounds_toArray, List.set_cons_zero, List.set_cons_succ]
          refine wpAnyH_take (i := 3) (v := ?_) rfl (by kernel_rfl) (by kernel_rfl) (by kernel_rfl) (fun _ _ _ h => h) (Or.inl ⟨by rfl, ?_⟩) hHeld ?_
          rotate_left 1
          · (intro w hSw; have hq := Blk.headC hSw.1; go_simp; try with_reducible rfl)
          try simp only [Act.put, List.getElem_toArray, List.getElem_cons_zero, List.getElem_cons_succ, List.setIfInBounds_toArray, List.set_cons_zero, List.set_cons_succ]
          refine wpAnyH_take (i := 4) (v := ?_) rfl (by kernel_rfl) (by kernel_rfl) (by kernel_rfl) (fun _ _ _ h => h) (Or.inl ⟨by rfl, ?_⟩) hHeld ?_
          rotate_left 1
          · (intro w hSw; (try dsimp only at hSw); go_simp; try with_reducible rfl)
          try simp only [Act.put, List.getElem_toArray, List.getElem_cons_zero, List.getElem_cons_succ, List.setIfInBounds_toArray, List.set_cons_zero, List.set_cons_succ]
          refine wpAnyH_take (i := 5) (v := ?_) rfl (by kernel_rfl) (by kernel_rfl) (by kernel_rfl) (fun _ _ _ h => h) (Or.inl ⟨by rfl, ?_⟩) hHeld ?_
          rotate_left 1
          · (intro w hSw; have hq := Blk.cell hSw.2; simp only [entC] at hq; go_simp; try with_reducible rfl)
          try simp only [Act.put, List.getElem_toArray, List.getElem_cons_zero, List.getElem_cons_succ, List.setIfInBounds_toArray, List.set_cons_zero, List.set_cons_succ]
          refine wpAnyH_take (i := 6) (v := ?_) rfl (by kernel_rfl) (by kernel_rfl) (by kernel_rfl) (fun _ _ _ h => h) (Or.inl ⟨by rfl, ?_⟩) hHeld ?_
          rotate_left 1
          · (intro w hSw; (try dsimp only at hSw); go_simp; try with_reducible rfl)
          try simp only [Act.put, List.getElem_toArray, List.getElem_cons_zero, List.getElem_cons_succ, List.setIfInBounds_toArray, List.set_cons_zero, List.set_cons_succ]
          refine wpAnyH_take (i := 7) (v := _) rfl (by kernel_rfl) (by kernel_rfl) (by kernel_rfl) (fun _ _ _ h => h) (yieldsIf_load_mid (by rfl) 81 _ rfl wr.heap.size (0 + 1) rfl (e.2.map bv) _ (fun w h => (rangeAt_tail (h.2.all)).2) Try.underlying81 rfl (by rw [List.length_map, HE2.out]; exact size_sec)) hHeld ?_
          try simp only [Act.put, List.getElem_toArray, List.getElem_cons_zero, List.getElem_cons_succ, List.setIfInBounds_toArray, List.set_cons_zero, List.set_cons_succ]
          refine wpAnyH_take (i := 8) (v := ?_) rfl (by kernel_rfl) (by kernel_rfl) (by kernel_rfl) (fun _ _ _ h => h) (Or.inl ⟨by rfl, ?_⟩) hHeld ?_
          rotate_left 1
          · (intro w hSw; (try dsimp only at hSw); go_simp; try with_reducible rfl)
          try simp only [Act.put, List.getElem_toArray, List.getElem_cons_zero, List.getElem_cons_succ, List.setIfInBounds_toArray, List.set_cons_zero, List.set_cons_succ]
          refine wpAnyH_ready (rs := [9]) (by kernel_rfl) (by simp) (AllReadyH.cons rfl (fun K hK => ?_) AllReadyH.nil)
          clear hHeld
          refine (if_pos rfl).mpr ?_
          refine wp_store_mid 81 _ _ rfl lb (e.1 * 128) (e.2.map bv).toArray rfl rfl (HLB4.out.drew.there _ _ (by rw [List.size_toArray, List.length_map, List.length_map, HE2.out, HLL.out]; exact HE4.out)) (by rw [List.size_toArray, List.length_map, HE2.out]; exact size_sec) (all_oneCell_toArray (one_map _)) ?_
          refine hK.out _ _ (⟨(HB4.out.drew).other _ HNPL.out, (HX4.out.drew).other _ HNX.out⟩) (fun hHeld => ?_)
          clear hK K
          try simp only [Act.put, List.getElem_toArray, List.getElem_cons_zero, List.getElem_cons_succ]
          refine wpAnyH_done (by kernel_rfl) ?_ _
          refine NoPanic.normal ?_
          have HBL : Hid (Blk (w4.drew.setCells lb (e.1 * 128) (e.2.map bv)) lb 81 ((lay l e).map bv)) := HLB4.out.drew.lay HLL.out HE1.out HE2.out
          have HCC : Hid (Chg (fun j => j = lb) w (w4.drew.setCells lb (e.1 * 128) (e.2.map bv))) := ((HCW.out.trans HBG.out.chg).trans (G.drew (G.refl w4)).chg).trans (chg_setCells _ _ (.inl rfl))
          clear hkcell
          generalize w4.drew.setCells lb (e.1 * 128) (e.2.map bv) = w5 at HBL HCC ⊢
          go_wp2
          go_roundw
          case rel => exact ⟨k + 1, by omega, by go_num, by rw [HTK.out]; go_num, HCC.out, by rw [HTK.out]; exact HBL.out⟩
          case measure => simp [RowKit.intOf]; omega
    · have hkI : ¬ (k : Int) < (m.pend.length : Int) := by omega
      obtain rfl : k = m.pend.length := by omega
      have hc := HBW.out.headC
      have hz := HBW.out.frozen
      go_wp2
      go_ret2
      have hc1 : Chg (fun k => k = p) wr ((((wr.setCell ⟨p, 1, none⟩ (.slice none 0 0)).setCell ⟨p, 2, none⟩ (.bool false)).setCell ⟨p, 3, none⟩ (.bool false)).setCell ⟨p, 4, none⟩ (.int .i64 0)) := (((chg1 _ _ _ _).trans (chg1 _ _ _ _)).trans (chg1 _ _ _ _)).trans (chg1 _ _ _ _)
      refine ⟨rfl, ⟨DM.crash_ok HOK.out ks, ⟨lb, .slice none 0 0, ?_, ?_, World.ownsRow_nil _ _ _ _, HFL.out, fun g hg => by simp [Value.ownBlock] at hg⟩, HFP.out⟩, (HCW.out.mono (fun k e => by subst e; exact HFL.out)).trans (hc1.mono (fun k e => by subst e; exact HFP.out))⟩
      · exact (((HBW.out.set 1 (.slice none 0 0)).set 2 (.bool false)).set 3 (.bool false)).set 4 (.int .i64 0)
      · exact HLW.out.chg hc1 (fun e => HNPL.out e.symm)
end Go.Proofs.Ytbjbphhcmmaaoaa
