/- Gate: slices.Delete of one. -/
import Derived.Test.YtmclbnhbioficacGs1
namespace Go.Proofs.Ytmclbnhbioficac
open Go.RowKit

/-- The element at i is left out. -/
def cutL {α : Type} (qs : List α) (i : Nat) : List α := qs.take i ++ qs.drop (i + 1)
theorem cutL_len {α : Type} {qs : List α} {i : Nat} (h : i < qs.length) : (cutL qs i).length = qs.length - 1 := by
  unfold cutL
  rw [List.length_append, List.length_take, List.length_drop]
  omega
/-- What an append in place, and a clear of the room behind it, leave. -/
theorem cut_key {P : Program} {α : Type} {E : Enc α} {ty ts : TypeId} {w : World} {qs : List α} {i g cap : Nat} {zs : List Value} {i0 : TypeInfo} (hts : P.underlying ts = some (.slice ty)) (hi0 : P.info? ty = some i0) (hsz : i0.size = E.s) (hz : zs.length = E.s)
    (hq : Sw E ty w (.slice (some ⟨g, 0, none⟩) qs.length cap) qs) (hi : i < qs.length) (a : Addr) (c : Nat) (ha : ∀ j u, (E.fl (qs.drop (i + 1)))[j]? = some u → w.drew.cell? (a.add j) = some u) :
    ∃ w', (Builtin.append_ #[ts, ts] ts #[.slice (some ⟨g, 0, none⟩) i cap, .slice (some a) (qs.length - (i + 1)) c]).run P w.drew = .ok (.slice (some ⟨g, 0, none⟩) (qs.length - 1) cap) w' ∧ (∀ j, j < zs.length → (w'.cell? ⟨g, (qs.length - 1) * E.s + j, none⟩).isSome = true ∧ w'.frozen? ⟨g, (qs.length - 1) * E.s + j, none⟩ = false) ∧
      Sw E ty (w'.setCells g ((qs.length - 1) * E.s) zs) (.slice (some ⟨g, 0, none⟩) (qs.length - 1) cap) (cutL qs i) ∧ Chg (fun k => k = g) w (w'.setCells g ((qs.length - 1) * E.s) zs) := by
  obtain ⟨-, rest, hb, hr, hc, hm⟩ := hq.open
  have h1 : (qs.take i).length = i := by rw [List.length_take]; omega
  have hrow : w.drew.ownsRow 0 ty E.s (.slice (some ⟨g, 0, none⟩) i cap) i (E.fl (qs.take i)) := by
    have : Sw E ty w.drew (.slice (some ⟨g, 0, none⟩) (qs.take i).length cap) (qs.take i) := .inr ⟨g, cap, E.fl (qs.drop i) ++ rest, rfl, by
      rw [← List.append_assoc, ← E.app, List.take_append_drop]
      exact hb.drew, by
      rw [List.length_append, E.len, List.length_drop, h1, ← Nat.add_assoc, ← Nat.add_mul, show i + (qs.length - i) = qs.length by omega]
      exact hr, by omega, hm⟩
    have := this.row
    rw [h1] at this
    exact this
  obtain ⟨w', q1, q2, q3⟩ := run_append_fits (P := P) (w := w.drew) 0 ts ts ty i0 E.s hts hi0 hsz g i cap (E.fl (qs.take i)) hrow a (qs.length - (i + 1)) c (E.fl (qs.drop (i + 1))) (by rw [E.len, List.length_drop]) ha (E.ones _) (by omega)
  rw [show i + (qs.length - (i + 1)) = qs.length - 1 by omega] at q1 q2
  rw [← E.app] at q2
  have hQ : Sw E ty w' (.slice (some ⟨g, 0, none⟩) (qs.length - 1) cap) (cutL qs i) := Sw.of_row (b := 0) q2 (cutL_len hi).symm
  obtain ⟨-, rest', hb', hr', hc', -⟩ := hQ.open
  rw [cutL_len hi] at hr' hc'
  have hroom : qs.length * E.s ≤ cap * E.s := Nat.mul_le_mul_right _ hc
  have hsuc : qs.length * E.s = (qs.length - 1) * E.s + E.s := by
    rw [← Nat.succ_mul]; congr 1; omega
  have hl2 : (E.fl (cutL qs i)).length = (qs.length - 1) * E.s := by rw [E.len, cutL_len hi]
  have hcell : ∀ j, j < zs.length → (w'.cell? ⟨g, (qs.length - 1) * E.s + j, none⟩).isSome = true ∧ w'.frozen? ⟨g, (qs.length - 1) * E.s + j, none⟩ = false := fun j hj => by
    refine ⟨?_, hb'.frozen _⟩
    rw [hb'.cell, List.getElem?_eq_getElem (by rw [List.length_append, hl2]; omega)]
    rfl
  have hs := hb'.sets zs ((qs.length - 1) * E.s) (by rw [List.length_append, hl2]; omega)
  rw [List.take_append_of_le_length (by omega), List.take_of_length_le (by omega), List.append_assoc] at hs
  refine ⟨w', q1, hcell, .inr ⟨g, cap, _, by rw [cutL_len hi], hs, ?_, by rw [cutL_len hi]; exact hc', hm⟩, ?_⟩
  · rw [cutL_len hi]
    simp only [List.length_append, List.length_drop, hl2]
    omega
  · have c1 : Chg (fun k => k = g) w.drew w' := ⟨q3.os, q3.tape, q3.output, q3.size, fun k hk hn => q3.block k hk (fun e => hn (by cases e; rfl))⟩
    exact ((G.refl w).drew.chg.trans c1).trans (chg_setCells _ _ (.inl rfl))
theorem run_clear (P : Program) (ts ty e : TypeId) (zs : List Value) (z : Value) (w : World) (b o c : Nat) (hu : P.underlying ts = some (.slice e)) (hz : (zeroValue e).run P w = .ok z w) (hzc : (Builtin.zeroCells z.cells 1).toList = zs) (h1 : ∀ v ∈ zs, v.oneCell' = true)
    (hc : ∀ j, j < zs.length → (w.cell? ⟨b, o + j, none⟩).isSome = true ∧ w.frozen? ⟨b, o + j, none⟩ = false) :
    (Builtin.clear_ #[ts] ty #[.slice (some ⟨b, o, none⟩) 1 c]).run P w = .ok (.tuple #[]) (w.setCells b o zs) := by
  have hst := run_storeCells_cells (P := P) b o zs 0 w (fun j hj => by simpa using (hc j hj).1) (fun j hj => by simpa using (hc j hj).2) h1
  simp only [Nat.add_zero] at hst
  simp [Builtin.clear_, run_underlying hu, hz, hzc, hst]
set_option maxRecDepth 100000 in
set_option maxHeartbeats 1000000 in
theorem delQ (qs : List (Int × Int)) (v : Value) (i : Nat) (w : World) (hq : SwQ w v qs) (hi : i < qs.length) (hlen : qs.length ≤ 1000) :
    Calls Try.prog 34 #[v, I (i : Int), I ((i : Int) + 1)] w fun e w' => ∃ v', e = .returned v' ∧ SwQ w' v' (cutL qs i) ∧ Chg (fun k => v.ownBlock = some k) w w' ∧ v'.ownBlock = v.ownBlock := by
  obtain ⟨g, cap, rfl⟩ := hq.slice (by omega)
  obtain ⟨-, rest, hb, hr, hcl, hmax⟩ := hq.open
  obtain ⟨i0, hi0, hz0, hz1, hz2⟩ := info_Q
  have hbd : Blk w.drew g 81 (eQ.fl qs ++ rest) := hb.drew
  have hcut : ∀ w1 : World, (∀ j, j < ([I 0, I 0] : List Value).length → (w1.cell? ⟨g, (qs.length - 1) * 2 + j, none⟩).isSome = true ∧ w1.frozen? ⟨g, (qs.length - 1) * 2 + j, none⟩ = false) → (∀ ty, (Builtin.clear_ #[56] ty #[.slice (some ⟨g, (qs.length - 1) * 2, none⟩) 1 (cap - (qs.length - 1))]).run Try.prog w1 = .ok (.tuple #[]) (w1.setCells g ((qs.length - 1) * 2) [I 0, I 0])) := fun w1 h ty => by
    have h2 := run_clear Try.prog 56 ty 81 [I 0, I 0] (.agg #[I 0, I 0]) w1 g ((qs.length - 1) * 2) (cap - (qs.length - 1)) Try.underlying56 (Try.zeroValue81 w1) (by kernel_rfl) (fun u hu => by simp at hu; subst hu; rfl) h
    exact h2
  have f1 : (i : Int) < qs.length := by omega
  have f2 : ¬ ((qs.length : Int) < (i : Int) + 1) := by omega
  have f3 : ¬ ((cap : Int) < qs.length) := by omega
  have f4 : ¬ ((i : Int) + 1 < i) := by omega
  have f5 : ¬ ((i : Int) < 0) := by omega
  have f6 : ((i : Int) == (i : Int) + 1) = false := beq_eq_false_iff_ne.2 (by omega)
  have f7 : ¬ ((cap : Int) < i) := by omega
  have f8 : (0 : Int) ≤ (i : Int) + 1 := by omega
  by_cases hce : cap = i + 1
  · obtain ⟨w1, hrun, hcells, hfin, hchg⟩ := cut_key (P := Try.prog) (zs := [I 0, I 0]) Try.underlying56 hi0 hz1 rfl hq hi ⟨g, 0, none⟩ 0 (fun j u hj => by
      have := (List.getElem?_eq_some_iff.1 hj).1
      rw [Enc.len, List.length_drop] at this
      have h0 : qs.length - (i + 1) = 0 := by omega
      rw [h0] at this
      omega)
    rw [show qs.length - (i + 1) = 0 by omega] at hrun
    have HRUN := hide hrun
    have HCLR := hide (hcut w1 hcells)
    have HFIN := hide hfin
    have HCHG := hide hchg
    clear hcut hrun hcells hfin hchg hq hb hbd hz0 hz1 hz2 hi0 hr hmax
    have HN : Hid (qs.length = i + 1) := by show _ = _; omega
    subst hce
    go_enter Try.func34, Try.ntmps34
    go_wp2_with fail
    refine wp_region_noPanic ?_
    refine wp_region_held_drew (S := (fun _ => True)) (by kernel_rfl) (trivial) (fun hHeld => ?_)
    refine wpAnyH_take (i := 0) (v := ?_) rfl (by kernel_rfl) (by kernel_rfl) (by kernel_rfl) (fun _ _ _ h => h) (Or.inl ⟨by rfl, ?_⟩) hHeld ?_
    rotate_left 1
    · (intro w hSw; (try dsimp only at hSw); go_simp; try with_reducible rfl)
    try simp only [Act.put, List.getElem_toArray, List.getElem_cons_zero, List.setIfInBounds_toArray, List.set_cons_zero, List.set_cons_succ]
    refine wpAnyH_take (i := 1) (v := ?_) rfl (by kernel_rfl) (by kernel_rfl) (by kernel_rfl) (fun _ _ _ h => h) (Or.inl ⟨by rfl, ?_⟩) hHeld ?_
    rotate_left 1
    · (intro w hSw; (try dsimp only at hSw); go_simp; try with_reducible rfl)
    try simp only [Act.put, List.getElem_toArray, List.getElem_cons_zero, List.getElem_cons_succ, List.setIfInBounds_toArray, List.set_cons_zero, List.set_cons_succ]
    refine wpAnyH_take (i := 2) (v := ?_) rfl (by kernel_rfl) (by kernel_rfl) (by kernel_rfl) (fun _ _ _ h => h) (Or.inl ⟨by rfl, ?_⟩) hHeld ?_
    rotate_left 1
    · (intro w hSw; (try dsimp only at hSw); go_simp; try with_reducible rfl)
    try simp only [Act.put, List.getElem_toArray, List.getElem_cons_zero, List.getElem_cons_succ, List.setIfInBounds_toArray, List.set_cons_zero, List.set_cons_succ]
    refine wpAnyH_take (i := 3) (v := ?_) rfl (by kernel_rfl) (by kernel_rfl) (by kernel_rfl) (fun _ _ _ h => h) (Or.inl ⟨by rfl, ?_⟩) hHeld ?_
    rotate_left 1
    · (intro w hSw; (try dsimp only at hSw); go_simp; try with_reducible rfl)
    try simp only [Act.put, List.getElem_toArray, List.getElem_cons_zero, List.getElem_cons_succ, List.setIfInBounds_toArray, List.set_cons_zero, List.set_cons_succ]
    refine wpAnyH_take (i := 4) (v := ?_) rfl (by kernel_rfl) (by kernel_rfl) (by kernel_rfl) (fun _ _ _ h => h) (Or.inl ⟨by rfl, ?_⟩) hHeld ?_
    rotate_left 1
    · (intro w hSw; (try dsimp only at hSw); go_simp; try with_reducible rfl)
    try simp only [Act.put, List.getElem_toArray, List.getElem_cons_zero, List.getElem_cons_succ, List.setIfInBounds_toArray, List.set_cons_zero, List.set_cons_succ]
    refine wpAnyH_take (i := 5) (v := ?_) rfl (by kernel_rfl) (by kernel_rfl) (by kernel_rfl) (fun _ _ _ h => h) (Or.inl ⟨by rfl, ?_⟩) hHeld ?_
    rotate_left 1
    · (intro w hSw; (try dsimp only at hSw); go_simp; try with_reducible rfl)
    try simp only [Act.put, List.getElem_toArray, List.getElem_cons_zero, List.getElem_cons_succ, List.setIfInBounds_toArray, List.set_cons_zero, List.set_cons_succ]
    refine wpAnyH_ready (rs := [6]) (by kernel_rfl) (by simp) (AllReadyH.cons rfl (fun K hK => ?_) AllReadyH.nil)
    clear hHeld
    refine (if_pos rfl).mpr ?_
    refine wp_of_exec (exec_append _ _ 56 rfl (.slice (some ⟨g, 0, none⟩) i (i + 1)) (.slice (some ⟨g, 0, none⟩) 0 0) rfl rfl 56 rfl HRUN.out) ?_
    refine hK.out _ _ (trivial) (fun hHeld => ?_)
    clear hK K
    try simp only [Act.put, List.getElem_toArray, List.getElem_cons_zero, List.getElem_cons_succ, List.setIfInBounds_toArray, List.set_cons_zero, List.set_cons_succ]
    refine wpAnyH_take (i := 7) (v := ?_) rfl (by kernel_rfl) (by kernel_rfl) (by kernel_rfl) (fun _ _ _ h => h) (Or.inl ⟨by rfl, ?_⟩) hHeld ?_
    rotate_left 1
    · (intro w hSw; (try dsimp only at hSw); go_simp; try with_reducible rfl)
    try simp only [Act.put, List.getElem_toArray, List.getElem_cons_zero, List.getElem_cons_succ, List.setIfInBounds_toArray, List.set_cons_zero]
    refine wpAnyH_done (by kernel_rfl) ?_ _
    refine NoPanic.normal ?_
    have g1 : ¬ ((qs.length : Int) < ((qs.length - 1 : Nat) : Int)) := by omega
    have g2 : ¬ (((i + 1 : Nat) : Int) < qs.length) := by omega
    have g3 : ¬ (i + 1 = qs.length - 1) := by omega
    have g4 : qs.length - (qs.length - 1) = 1 := by omega
    go_wp2_with fail
    rw [HCLR.out]
    go_wp2_with fail
    go_ret
    exact ⟨_, rfl, HFIN.out, HCHG.out.mono (fun k e => by rw [e]; rfl), rfl⟩
  · obtain ⟨w1, hrun, hcells, hfin, hchg⟩ := cut_key (P := Try.prog) (zs := [I 0, I 0]) Try.underlying56 hi0 hz1 rfl hq hi ⟨g, (i + 1) * 2, none⟩ (cap - (i + 1)) (fun j u hj => by
      have hjl := (List.getElem?_eq_some_iff.1 hj).1
      have e : eQ.fl qs = eQ.fl (qs.take (i + 1)) ++ eQ.fl (qs.drop (i + 1)) := by rw [← Enc.app, List.take_append_drop]
      have hlt : (eQ.fl (qs.take (i + 1))).length = (i + 1) * 2 := by rw [Enc.len, List.length_take, Nat.min_eq_left (by omega)]
      rw [Addr.add_mid, hbd.cell, e, List.append_assoc, List.getElem?_append_right (by omega), List.getElem?_append_left (by omega), hlt, Nat.add_sub_cancel_left]
      exact hj)
    have HRUN := hide hrun
    have HCLR := hide (hcut w1 hcells)
    have HFIN := hide hfin
    have HCHG := hide hchg
    clear hcut hrun hcells hfin hchg hq hb hbd hz0 hz1 hz2 hi0 hr hmax
    go_enter Try.func34, Try.ntmps34
    go_wp2_with fail
    refine wp_region_noPanic ?_
    refine wp_region_held_drew (S := (fun _ => True)) (by kernel_rfl) (trivial) (fun hHeld => ?_)
    refine wpAnyH_take (i := 0) (v := ?_) rfl (by kernel_rfl) (by kernel_rfl) (by kernel_rfl) (fun _ _ _ h => h) (Or.inl ⟨by rfl, ?_⟩) hHeld ?_
    rotate_left 1
    · (intro w hSw; (try dsimp only at hSw); go_simp; try with_reducible rfl)
    try simp only [Act.put, List.getElem_toArray, List.getElem_cons_zero, List.setIfInBounds_toArray, List.set_cons_zero, List.set_cons_succ]
    refine wpAnyH_take (i := 1) (v := ?_) rfl (by kernel_rfl) (by kernel_rfl) (by kernel_rfl) (fun _ _ _ h => h) (Or.inl ⟨by rfl, ?_⟩) hHeld ?_
    rotate_left 1
    · (intro w hSw; (try dsimp only at hSw); go_simp; try with_reducible rfl)
    try simp only [Act.put, List.getElem_toArray, List.getElem_cons_zero, List.getElem_cons_succ, List.setIfInBounds_toArray, List.set_cons_zero, List.set_cons_succ]
    refine wpAnyH_take (i := 2) (v := ?_) rfl (by kernel_rfl) (by kernel_rfl) (by kernel_rfl) (fun _ _ _ h => h) (Or.inl ⟨by rfl, ?_⟩) hHeld ?_
    rotate_left 1
    · (intro w hSw; (try dsimp only at hSw); go_simp; try with_reducible rfl)
    try simp only [Act.put, List.getElem_toArray, List.getElem_cons_zero, List.getElem_cons_succ, List.setIfInBounds_toArray, List.set_cons_zero, List.set_cons_succ]
    refine wpAnyH_take (i := 3) (v := ?_) rfl (by kernel_rfl) (by kernel_rfl) (by kernel_rfl) (fun _ _ _ h => h) (Or.inl ⟨by rfl, ?_⟩) hHeld ?_
    rotate_left 1
    · (intro w hSw; (try dsimp only at hSw); go_simp; try with_reducible rfl)
    try simp only [Act.put, List.getElem_toArray, List.getElem_cons_zero, List.getElem_cons_succ, List.setIfInBounds_toArray, List.set_cons_zero, List.set_cons_succ]
    refine wpAnyH_take (i := 4) (v := ?_) rfl (by kernel_rfl) (by kernel_rfl) (by kernel_rfl) (fun _ _ _ h => h) (Or.inl ⟨by rfl, ?_⟩) hHeld ?_
    rotate_left 1
    · (intro w hSw; (try dsimp only at hSw); go_simp; try with_reducible rfl)
    try simp only [Act.put, List.getElem_toArray, List.getElem_cons_zero, List.getElem_cons_succ, List.setIfInBounds_toArray, List.set_cons_zero, List.set_cons_succ]
    refine wpAnyH_take (i := 5) (v := ?_) rfl (by kernel_rfl) (by kernel_rfl) (by kernel_rfl) (fun _ _ _ h => h) (Or.inl ⟨by rfl, ?_⟩) hHeld ?_
    rotate_left 1
    · (intro w hSw; (try dsimp only at hSw); go_simp; try with_reducible rfl)
    try simp only [Act.put, List.getElem_toArray, List.getElem_cons_zero, List.getElem_cons_succ, List.setIfInBounds_toArray, List.set_cons_zero, List.set_cons_succ]
    refine wpAnyH_ready (rs := [6]) (by kernel_rfl) (by simp) (AllReadyH.cons rfl (fun K hK => ?_) AllReadyH.nil)
    clear hHeld
    refine (if_pos rfl).mpr ?_
    refine wp_of_exec (exec_append _ _ 56 rfl (.slice (some ⟨g, 0, none⟩) i cap) (.slice (some ⟨g, (i + 1) * 2, none⟩) (qs.length - (i + 1)) (cap - (i + 1))) rfl rfl 56 rfl HRUN.out) ?_
    refine hK.out _ _ (trivial) (fun hHeld => ?_)
    clear hK K
    try simp only [Act.put, List.getElem_toArray, List.getElem_cons_zero, List.getElem_cons_succ, List.setIfInBounds_toArray, List.set_cons_zero, List.set_cons_succ]
    refine wpAnyH_take (i := 7) (v := ?_) rfl (by kernel_rfl) (by kernel_rfl) (by kernel_rfl) (fun _ _ _ h => h) (Or.inl ⟨by rfl, ?_⟩) hHeld ?_
    rotate_left 1
    · (intro w hSw; (try dsimp only at hSw); go_simp; try with_reducible rfl)
    try simp only [Act.put, List.getElem_toArray, List.getElem_cons_zero, List.getElem_cons_succ, List.setIfInBounds_toArray, List.set_cons_zero]
    refine wpAnyH_done (by kernel_rfl) ?_ _
    refine NoPanic.normal ?_
    have g1 : ¬ ((qs.length : Int) < ((qs.length - 1 : Nat) : Int)) := by omega
    have g3 : ¬ (cap = qs.length - 1) := by omega
    have g4 : qs.length - (qs.length - 1) = 1 := by omega
    go_wp2_with fail
    rw [HCLR.out]
    go_wp2_with fail
    go_ret
    exact ⟨_, rfl, HFIN.out, HCHG.out.mono (fun k e => by rw [e]; rfl), rfl⟩
set_option maxRecDepth 100000 in
set_option maxHeartbeats 1000000 in
theorem delI (qs : List Int) (v : Value) (i : Nat) (w : World) (hq : SwI w v qs) (hi : i < qs.length) (hlen : qs.length ≤ 1000) :
    Calls Try.prog 39 #[v, I (i : Int), I ((i : Int) + 1)] w fun e w' => ∃ v', e = .returned v' ∧ SwI w' v' (cutL qs i) ∧ Chg (fun k => v.ownBlock = some k) w w' ∧ v'.ownBlock = v.ownBlock := by
  obtain ⟨g, cap, rfl⟩ := hq.slice (by omega)
  obtain ⟨-, rest, hb, hr, hcl, hmax⟩ := hq.open
  obtain ⟨i0, hi0, hz0, hz1, hz2⟩ := info_I
  have hbd : Blk w.drew g 3 (eI.fl qs ++ rest) := hb.drew
  have hcut : ∀ w1 : World, (∀ j, j < ([I 0] : List Value).length → (w1.cell? ⟨g, (qs.length - 1) * 1 + j, none⟩).isSome = true ∧ w1.frozen? ⟨g, (qs.length - 1) * 1 + j, none⟩ = false) → (∀ ty, (Builtin.clear_ #[33] ty #[.slice (some ⟨g, (qs.length - 1), none⟩) 1 (cap - (qs.length - 1))]).run Try.prog w1 = .ok (.tuple #[]) (w1.setCells g ((qs.length - 1) * 1) [I 0])) := fun w1 h ty => by
    have h2 := run_clear Try.prog 33 ty 3 [I 0] (I 0) w1 g ((qs.length - 1) * 1) (cap - (qs.length - 1)) Try.underlying33 (Try.zeroValue3 w1) (by kernel_rfl) (fun u hu => by simp at hu; subst hu; rfl) h
    rw [Nat.mul_one] at h2 ⊢; exact h2
  have f1 : (i : Int) < qs.length := by omega
  have f2 : ¬ ((qs.length : Int) < (i : Int) + 1) := by omega
  have f3 : ¬ ((cap : Int) < qs.length) := by omega
  have f4 : ¬ ((i : Int) + 1 < i) := by omega
  have f5 : ¬ ((i : Int) < 0) := by omega
  have f6 : ((i : Int) == (i : Int) + 1) = false := beq_eq_false_iff_ne.2 (by omega)
  have f7 : ¬ ((cap : Int) < i) := by omega
  have f8 : (0 : Int) ≤ (i : Int) + 1 := by omega
  by_cases hce : cap = i + 1
  · obtain ⟨w1, hrun, hcells, hfin, hchg⟩ := cut_key (P := Try.prog) (zs := [I 0]) Try.underlying33 hi0 hz1 rfl hq hi ⟨g, 0, none⟩ 0 (fun j u hj => by
      have := (List.getElem?_eq_some_iff.1 hj).1
      rw [Enc.len, List.length_drop] at this
      have h0 : qs.length - (i + 1) = 0 := by omega
      rw [h0] at this
      omega)
    rw [show qs.length - (i + 1) = 0 by omega] at hrun
    have HRUN := hide hrun
    have HCLR := hide (hcut w1 hcells)
    rw [Nat.mul_one] at hfin hchg
    have HFIN := hide hfin
    have HCHG := hide hchg
    clear hcut hrun hcells hfin hchg hq hb hbd hz0 hz1 hz2 hi0 hr hmax
    have HN : Hid (qs.length = i + 1) := by show _ = _; omega
    subst hce
    go_enter Try.func39, Try.ntmps39
    go_wp2_with fail
    refine wp_region_noPanic ?_
    refine wp_region_held_drew (S := (fun _ => True)) (by kernel_rfl) (trivial) (fun hHeld => ?_)
    refine wpAnyH_take (i := 0) (v := ?_) rfl (by kernel_rfl) (by kernel_rfl) (by kernel_rfl) (fun _ _ _ h => h) (Or.inl ⟨by rfl, ?_⟩) hHeld ?_
    rotate_left 1
    · (intro w hSw; (try dsimp only at hSw); go_simp; try with_reducible rfl)
    try simp only [Act.put, List.getElem_toArray, List.getElem_cons_zero, List.setIfInBounds_toArray, List.set_cons_zero, List.set_cons_succ]
    refine wpAnyH_take (i := 1) (v := ?_) rfl (by kernel_rfl) (by kernel_rfl) (by kernel_rfl) (fun _ _ _ h => h) (Or.inl ⟨by rfl, ?_⟩) hHeld ?_
    rotate_left 1
    · (intro w hSw; (try dsimp only at hSw); go_simp; try with_reducible rfl)
    try simp only [Act.put, List.getElem_toArray, List.getElem_cons_zero, List.getElem_cons_succ, List.setIfInBounds_toArray, List.set_cons_zero, List.set_cons_succ]
    refine wpAnyH_take (i := 2) (v := ?_) rfl (by kernel_rfl) (by kernel_rfl) (by kernel_rfl) (fun _ _ _ h => h) (Or.inl ⟨by rfl, ?_⟩) hHeld ?_
    rotate_left 1
    · (intro w hSw; (try dsimp only at hSw); go_simp; try with_reducible rfl)
    try simp only [Act.put, List.getElem_toArray, List.getElem_cons_zero, List.getElem_cons_succ, List.setIfInBounds_toArray, List.set_cons_zero, List.set_cons_succ]
    refine wpAnyH_take (i := 3) (v := ?_) rfl (by kernel_rfl) (by kernel_rfl) (by kernel_rfl) (fun _ _ _ h => h) (Or.inl ⟨by rfl, ?_⟩) hHeld ?_
    rotate_left 1
    · (intro w hSw; (try dsimp only at hSw); go_simp; try with_reducible rfl)
    try simp only [Act.put, List.getElem_toArray, List.getElem_cons_zero, List.getElem_cons_succ, List.setIfInBounds_toArray, List.set_cons_zero, List.set_cons_succ]
    refine wpAnyH_take (i := 4) (v := ?_) rfl (by kernel_rfl) (by kernel_rfl) (by kernel_rfl) (fun _ _ _ h => h) (Or.inl ⟨by rfl, ?_⟩) hHeld ?_
    rotate_left 1
    · (intro w hSw; (try dsimp only at hSw); go_simp; try with_reducible rfl)
    try simp only [Act.put, List.getElem_toArray, List.getElem_cons_zero, List.getElem_cons_succ, List.setIfInBounds_toArray, List.set_cons_zero, List.set_cons_succ]
    refine wpAnyH_take (i := 5) (v := ?_) rfl (by kernel_rfl) (by kernel_rfl) (by kernel_rfl) (fun _ _ _ h => h) (Or.inl ⟨by rfl, ?_⟩) hHeld ?_
    rotate_left 1
    · (intro w hSw; (try dsimp only at hSw); go_simp; try with_reducible rfl)
    try simp only [Act.put, List.getElem_toArray, List.getElem_cons_zero, List.getElem_cons_succ, List.setIfInBounds_toArray, List.set_cons_zero, List.set_cons_succ]
    refine wpAnyH_ready (rs := [6]) (by kernel_rfl) (by simp) (AllReadyH.cons rfl (fun K hK => ?_) AllReadyH.nil)
    clear hHeld
    refine (if_pos rfl).mpr ?_
    refine wp_of_exec (exec_append _ _ 33 rfl (.slice (some ⟨g, 0, none⟩) i (i + 1)) (.slice (some ⟨g, 0, none⟩) 0 0) rfl rfl 33 rfl HRUN.out) ?_
    refine hK.out _ _ (trivial) (fun hHeld => ?_)
    clear hK K
    try simp only [Act.put, List.getElem_toArray, List.getElem_cons_zero, List.getElem_cons_succ, List.setIfInBounds_toArray, List.set_cons_zero, List.set_cons_succ]
    refine wpAnyH_take (i := 7) (v := ?_) rfl (by kernel_rfl) (by kernel_rfl) (by kernel_rfl) (fun _ _ _ h => h) (Or.inl ⟨by rfl, ?_⟩) hHeld ?_
    rotate_left 1
    · (intro w hSw; (try dsimp only at hSw); go_simp; try with_reducible rfl)
    try simp only [Act.put, List.getElem_toArray, List.getElem_cons_zero, List.getElem_cons_succ, List.setIfInBounds_toArray, List.set_cons_zero]
    refine wpAnyH_done (by kernel_rfl) ?_ _
    refine NoPanic.normal ?_
    have g1 : ¬ ((qs.length : Int) < ((qs.length - 1 : Nat) : Int)) := by omega
    have g2 : ¬ (((i + 1 : Nat) : Int) < qs.length) := by omega
    have g3 : ¬ (i + 1 = qs.length - 1) := by omega
    have g4 : qs.length - (qs.length - 1) = 1 := by omega
    go_wp2_with fail
    rw [HCLR.out]
    go_wp2_with fail
    go_ret
    exact ⟨_, rfl, HFIN.out, HCHG.out.mono (fun k e => by rw [e]; rfl), rfl⟩
  · obtain ⟨w1, hrun, hcells, hfin, hchg⟩ := cut_key (P := Try.prog) (zs := [I 0]) Try.underlying33 hi0 hz1 rfl hq hi ⟨g, (i + 1), none⟩ (cap - (i + 1)) (fun j u hj => by
      have hjl := (List.getElem?_eq_some_iff.1 hj).1
      have e : eI.fl qs = eI.fl (qs.take (i + 1)) ++ eI.fl (qs.drop (i + 1)) := by rw [← Enc.app, List.take_append_drop]
      have hlt : (eI.fl (qs.take (i + 1))).length = (i + 1) := by rw [Enc.len, List.length_take, Nat.min_eq_left (by omega)]; exact Nat.mul_one _
      rw [Addr.add_mid, hbd.cell, e, List.append_assoc, List.getElem?_append_right (by omega), List.getElem?_append_left (by omega), hlt, Nat.add_sub_cancel_left]
      exact hj)
    have HRUN := hide hrun
    have HCLR := hide (hcut w1 hcells)
    rw [Nat.mul_one] at hfin hchg
    have HFIN := hide hfin
    have HCHG := hide hchg
    clear hcut hrun hcells hfin hchg hq hb hbd hz0 hz1 hz2 hi0 hr hmax
    go_enter Try.func39, Try.ntmps39
    go_wp2_with fail
    refine wp_region_noPanic ?_
    refine wp_region_held_drew (S := (fun _ => True)) (by kernel_rfl) (trivial) (fun hHeld => ?_)
    refine wpAnyH_take (i := 0) (v := ?_) rfl (by kernel_rfl) (by kernel_rfl) (by kernel_rfl) (fun _ _ _ h => h) (Or.inl ⟨by rfl, ?_⟩) hHeld ?_
    rotate_left 1
    · (intro w hSw; (try dsimp only at hSw); go_simp; try with_reducible rfl)
    try simp only [Act.put, List.getElem_toArray, List.getElem_cons_zero, List.setIfInBounds_toArray, List.set_cons_zero, List.set_cons_succ]
    refine wpAnyH_take (i := 1) (v := ?_) rfl (by kernel_rfl) (by kernel_rfl) (by kernel_rfl) (fun _ _ _ h => h) (Or.inl ⟨by rfl, ?_⟩) hHeld ?_
    rotate_left 1
    · (intro w hSw; (try dsimp only at hSw); go_simp; try with_reducible rfl)
    try simp only [Act.put, List.getElem_toArray, List.getElem_cons_zero, List.getElem_cons_succ, List.setIfInBounds_toArray, List.set_cons_zero, List.set_cons_succ]
    refine wpAnyH_take (i := 2) (v := ?_) rfl (by kernel_rfl) (by kernel_rfl) (by kernel_rfl) (fun _ _ _ h => h) (Or.inl ⟨by rfl, ?_⟩) hHeld ?_
    rotate_left 1
    · (intro w hSw; (try dsimp only at hSw); go_simp; try with_reducible rfl)
    try simp only [Act.put, List.getElem_toArray, List.getElem_cons_zero, List.getElem_cons_succ, List.setIfInBounds_toArray, List.set_cons_zero, List.set_cons_succ]
    refine wpAnyH_take (i := 3) (v := ?_) rfl (by kernel_rfl) (by kernel_rfl) (by kernel_rfl) (fun _ _ _ h => h) (Or.inl ⟨by rfl, ?_⟩) hHeld ?_
    rotate_left 1
    · (intro w hSw; (try dsimp only at hSw); go_simp; try with_reducible rfl)
    try simp only [Act.put, List.getElem_toArray, List.getElem_cons_zero, List.getElem_cons_succ, List.setIfInBounds_toArray, List.set_cons_zero, List.set_cons_succ]
    refine wpAnyH_take (i := 4) (v := ?_) rfl (by kernel_rfl) (by kernel_rfl) (by kernel_rfl) (fun _ _ _ h => h) (Or.inl ⟨by rfl, ?_⟩) hHeld ?_
    rotate_left 1
    · (intro w hSw; (try dsimp only at hSw); go_simp; try with_reducible rfl)
    try simp only [Act.put, List.getElem_toArray, List.getElem_cons_zero, List.getElem_cons_succ, List.setIfInBounds_toArray, List.set_cons_zero, List.set_cons_succ]
    refine wpAnyH_take (i := 5) (v := ?_) rfl (by kernel_rfl) (by kernel_rfl) (by kernel_rfl) (fun _ _ _ h => h) (Or.inl ⟨by rfl, ?_⟩) hHeld ?_
    rotate_left 1
    · (intro w hSw; (try dsimp only at hSw); go_simp; try with_reducible rfl)
    try simp only [Act.put, List.getElem_toArray, List.getElem_cons_zero, List.getElem_cons_succ, List.setIfInBounds_toArray, List.set_cons_zero, List.set_cons_succ]
    refine wpAnyH_ready (rs := [6]) (by kernel_rfl) (by simp) (AllReadyH.cons rfl (fun K hK => ?_) AllReadyH.nil)
    clear hHeld
    refine (if_pos rfl).mpr ?_
    refine wp_of_exec (exec_append _ _ 33 rfl (.slice (some ⟨g, 0, none⟩) i cap) (.slice (some ⟨g, (i + 1), none⟩) (qs.length - (i + 1)) (cap - (i + 1))) rfl rfl 33 rfl HRUN.out) ?_
    refine hK.out _ _ (trivial) (fun hHeld => ?_)
    clear hK K
    try simp only [Act.put, List.getElem_toArray, List.getElem_cons_zero, List.getElem_cons_succ, List.setIfInBounds_toArray, List.set_cons_zero, List.set_cons_succ]
    refine wpAnyH_take (i := 7) (v := ?_) rfl (by kernel_rfl) (by kernel_rfl) (by kernel_rfl) (fun _ _ _ h => h) (Or.inl ⟨by rfl, ?_⟩) hHeld ?_
    rotate_left 1
    · (intro w hSw; (try dsimp only at hSw); go_simp; try with_reducible rfl)
    try simp only [Act.put, List.getElem_toArray, List.getElem_cons_zero, List.getElem_cons_succ, List.setIfInBounds_toArray, List.set_cons_zero]
    refine wpAnyH_done (by kernel_rfl) ?_ _
    refine NoPanic.normal ?_
    have g1 : ¬ ((qs.length : Int) < ((qs.length - 1 : Nat) : Int)) := by omega
    have g3 : ¬ (cap = qs.length - 1) := by omega
    have g4 : qs.length - (qs.length - 1) = 1 := by omega
    go_wp2_with fail
    rw [HCLR.out]
    go_wp2_with fail
    go_ret
    exact ⟨_, rfl, HFIN.out, HCHG.out.mono (fun k e => by rw [e]; rfl), rfl⟩
end Go.Proofs.Ytmclbnhbioficac
