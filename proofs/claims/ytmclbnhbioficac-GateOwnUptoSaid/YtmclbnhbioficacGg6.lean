/- Gate: Stat. -/
import Derived.Test.YtmclbnhbioficacGg5
namespace Go.Proofs.Ytmclbnhbioficac
open Go.RowKit Go.MuLone

/-- While Stat lays its answer in block R: what is known at each world. -/
structure SR (W : World) (R b : Nat) (m : GM) (KO : Nat → Prop) (vq vi v v4 v6 : Value) (l : List It) (x : World) (cs : List Value) : Prop where
  r : Blk x R 39 cs
  p : PGx x b 1 m KO vq vi v l
  c : Chg KO W x
  s4 : SwI x v4 m.ids
  s6 : SwI x v6 m.qids
theorem SR.set {W : World} {R b : Nat} {m : GM} {KO : Nat → Prop} {vq vi v v4 v6 : Value} {l : List It} {x : World} {cs : List Value} (h : SR W R b m KO vq vi v v4 v6 l x cs) (hk : ¬ KO R) (hR : W.heap.size ≤ R) (o : Nat) (u : Value) : SR W R b m KO vq vi v v4 v6 l (x.setCell ⟨R, o, none⟩ u) (cs.set o u) :=
  ⟨h.r.set o u, h.p.keep (by simp) (fun k hkk => Below.heap_setCell _ _ _ _ (fun e => hk (by rw [← show k = R from e]; exact hkk))),
    ⟨h.c.os, h.c.tape, h.c.output, by simpa using h.c.size, fun k hk2 hn => (Below.heap_setCell _ _ _ _ (fun e => by have : k = R := e; omega)).trans (h.c.block k hk2 hn)⟩,
    h.s4.off (h.s4.ne h.r (by decide)), h.s6.off (h.s6.ne h.r (by decide))⟩
set_option maxRecDepth 100000 in
set_option maxHeartbeats 2000000 in
theorem stat_any (b : Nat) (m : GM) (KO : Nat → Prop) (W : World) (h : PG W b 0 m KO) (hv : Iv m) :
    Calls Try.prog 11 #[ptr b] W fun e W' => ∃ v4 v6, e = .returned (.agg #[v4, v6, I m.lg, I m.un, I m.mo]) ∧ SwI W' v4 m.ids ∧ SwI W' v6 m.qids ∧ Fresh W v4 ∧ Fresh W v6 ∧ (∀ k, v4.ownBlock = some k → v6.ownBlock ≠ some k) ∧ ∃ KO', PG W' b 0 m KO' ∧ Ste KO W KO' W' ∧ (∀ k, v4.ownBlock = some k ∨ v6.ownBlock = some k → ¬ KO' k) := by
  have hA := (G.refl W).alloc (.cells #[.slice none 0 0, .slice none 0 0, I 0, I 0, I 0] 39)
  have h0 := h.G hA
  have c0 := h0.c0
  have f0 := h0.f0
  have HKR : Hid (¬ KO W.heap.size) := fun q => Nat.lt_irrefl _ (h.lt _ q)
  have hX := Blk.new W [.slice none 0 0, .slice none 0 0, I 0, I 0, I 0] 39
  go_enter_defers Try.func11, Try.ntmps11
  go_wp2_with (first | (go_at_call 14; refine Hid.out ?_) | fail)
  unfold Hid
  refine (lock_free muLib ⟨b, 0, none⟩ _ c0 f0).mono ?_
  rintro e w0 ⟨rfl, rfl⟩
  have H1 := hide (h0.lock 1)
  have HB : Hid (Blk ((W.alloc (.cells #[.slice none 0 0, .slice none 0 0, I 0, I 0, I 0] 39)).setCell ⟨b, 0, none⟩ (.int .i32 1)) W.heap.size 39 [.slice none 0 0, .slice none 0 0, I 0, I 0, I 0]) := hX.off (fun e => by
    have : W.heap.size = b := e
    exact HKR.out (by rw [this]; obtain ⟨_, _, _, _, q⟩ := h; exact q.kb))
  have HC3 : Hid (Chg KO W ((W.alloc (.cells #[.slice none 0 0, .slice none 0 0, I 0, I 0, I 0] 39)).setCell ⟨b, 0, none⟩ (.int .i32 1))) := hA.chg.trans (h0.lock 1).2.chg
  clear c0 f0 h0 hA hX
  generalize (W.alloc (.cells #[.slice none 0 0, .slice none 0 0, I 0, I 0, I 0] 39)).setCell ⟨b, 0, none⟩ (.int .i32 1) = w3 at H1 HB HC3 ⊢
  obtain ⟨⟨vq, vi, v, l, h1⟩, hs1⟩ := H1.out
  have hcr := hv.crowd
  have hil : m.ids.length = m.ins.length := List.length_map _
  have HH := hide h1
  have KC : Hid (∀ V, G w3 V → Calls Try.prog 29 #[vi] V fun e W' => ∃ v', e = .returned v' ∧ SwI W' v' m.ids ∧ G V W' ∧ Fresh w3 v') := fun V hV => (clone_any m.ids vi V (h1.i.G hV) (by omega)).mono (by
    rintro e w ⟨v', q1, q2, q3, q4⟩
    exact ⟨v', q1, q2, q3, fun k e => Nat.le_trans hV.size (q4 k e)⟩)
  have KQ : Hid (∀ V, G w3 V → Calls Try.prog 30 #[ptr b] V fun e W' => ∃ v', e = .returned v' ∧ SwI W' v' (m.q.map (·.1)) ∧ G V W' ∧ Fresh V v') := fun V hV => qnums_any b _ v l m.q V (h1.hp.G hV) (h1.q.G hV) (by omega)
  clear h1 hs1 h hv hcr hil H1
  go_wp2_with fail
  refine wp_region_noPanic ?_
  refine wp_region_held_drew (S := (fun V => (∀ o, V.cell? ⟨b, o, none⟩ = ([.int .i32 1, .int .u32 0, I m.mo, I m.un, I m.sp, vq, vi, I m.lg, I m.ck, v] : List Value)[o]?))) (by kernel_rfl) (HH.out.G (G.drew (G.refl _)) |>.hp.cells) (fun hHeld => ?_)
  refine wpAnyH_take (i := 0) (v := ?_) rfl (by kernel_rfl) (by kernel_rfl) (by kernel_rfl) (fun _ _ _ h => h) (Or.inl ⟨by rfl, ?_⟩) hHeld ?_
  rotate_left 1
  · (intro w hSw; (try dsimp only at hSw); go_simp; try with_reducible rfl)
  try simp only [Act.put, List.getElem_toArray, List.getElem_cons_zero, List.setIfInBounds_toArray, List.set_cons_zero, List.set_cons_succ]
  refine wpAnyH_take (i := 1) (v := ?_) rfl (by kernel_rfl) (by kernel_rfl) (by kernel_rfl) (fun _ _ _ h => h) (Or.inl ⟨by rfl, ?_⟩) hHeld ?_
  rotate_left 1
  · (intro w hSw; (try dsimp only at hSw); go_simp; try with_reducible rfl)
  try simp only [Act.put, List.getElem_toArray, List.getElem_cons_zero, List.getElem_cons_succ, List.setIfInBounds_toArray, List.set_cons_zero, List.set_cons_succ]
  refine wpAnyH_take (i := 2) (v := ?_) rfl (by kernel_rfl) (by kernel_rfl) (by kernel_rfl) (fun _ _ _ h => h) (Or.inl ⟨by rfl, ?_⟩) hHeld ?_
  rotate_left 1
  · (intro w hSw; (try dsimp only at hSw); go_simp; try with_reducible rfl)
  try simp only [Act.put, List.getElem_toArray, List.getElem_cons_zero, List.getElem_cons_succ, List.setIfInBounds_toArray, List.set_cons_zero, List.set_cons_succ]
  refine wpAnyH_take (i := 3) (v := ?_) rfl (by kernel_rfl) (by kernel_rfl) (by kernel_rfl) (fun _ _ _ h => h) (Or.inl ⟨by rfl, ?_⟩) hHeld ?_
  rotate_left 1
  · (intro w hSw; have q1 := hSw; go_simp; try with_reducible rfl)
  try simp only [Act.put, List.getElem_toArray, List.getElem_cons_zero, List.getElem_cons_succ, List.setIfInBounds_toArray, List.set_cons_zero, List.set_cons_succ]
  refine wpAnyH_take (i := 5) (v := ?_) rfl (by kernel_rfl) (by kernel_rfl) (by kernel_rfl) (fun _ _ _ h => h) (Or.inl ⟨by rfl, ?_⟩) hHeld ?_
  rotate_left 1
  · (intro w hSw; (try dsimp only at hSw); go_simp; try with_reducible rfl)
  try simp only [Act.put, List.getElem_toArray, List.getElem_cons_zero, List.getElem_cons_succ, List.setIfInBounds_toArray, List.set_cons_zero, List.set_cons_succ]
  refine wpAnyH_take (i := 7) (v := ?_) rfl (by kernel_rfl) (by kernel_rfl) (by kernel_rfl) (fun _ _ _ h => h) (Or.inl ⟨by rfl, ?_⟩) hHeld ?_
  rotate_left 1
  · (intro w hSw; (try dsimp only at hSw); go_simp; try with_reducible rfl)
  try simp only [Act.put, List.getElem_toArray, List.getElem_cons_zero, List.getElem_cons_succ, List.setIfInBounds_toArray, List.set_cons_zero, List.set_cons_succ]
  refine wpAnyH_take (i := 8) (v := ?_) rfl (by kernel_rfl) (by kernel_rfl) (by kernel_rfl) (fun _ _ _ h => h) (Or.inl ⟨by rfl, ?_⟩) hHeld ?_
  rotate_left 1
  · (intro w hSw; (try dsimp only at hSw); go_simp; try with_reducible rfl)
  try simp only [Act.put, List.getElem_toArray, List.getElem_cons_zero, List.getElem_cons_succ, List.setIfInBounds_toArray, List.set_cons_zero, List.set_cons_succ]
  refine wpAnyH_take (i := 9) (v := ?_) rfl (by kernel_rfl) (by kernel_rfl) (by kernel_rfl) (fun _ _ _ h => h) (Or.inl ⟨by rfl, ?_⟩) hHeld ?_
  rotate_left 1
  · (intro w hSw; (try dsimp only at hSw); go_simp; try with_reducible rfl)
  try simp only [Act.put, List.getElem_toArray, List.getElem_cons_zero, List.getElem_cons_succ, List.setIfInBounds_toArray, List.set_cons_zero, List.set_cons_succ]
  refine wpAnyH_take (i := 10) (v := ?_) rfl (by kernel_rfl) (by kernel_rfl) (by kernel_rfl) (fun _ _ _ h => h) (Or.inl ⟨by rfl, ?_⟩) hHeld ?_
  rotate_left 1
  · (intro w hSw; have q1 := hSw; go_simp; try with_reducible rfl)
  try simp only [Act.put, List.getElem_toArray, List.getElem_cons_zero, List.getElem_cons_succ, List.setIfInBounds_toArray, List.set_cons_zero, List.set_cons_succ]
  refine wpAnyH_take (i := 11) (v := ?_) rfl (by kernel_rfl) (by kernel_rfl) (by kernel_rfl) (fun _ _ _ h => h) (Or.inl ⟨by rfl, ?_⟩) hHeld ?_
  rotate_left 1
  · (intro w hSw; (try dsimp only at hSw); go_simp; try with_reducible rfl)
  try simp only [Act.put, List.getElem_toArray, List.getElem_cons_zero, List.getElem_cons_succ, List.setIfInBounds_toArray, List.set_cons_zero, List.set_cons_succ]
  refine wpAnyH_take (i := 12) (v := ?_) rfl (by kernel_rfl) (by kernel_rfl) (by kernel_rfl) (fun _ _ _ h => h) (Or.inl ⟨by rfl, ?_⟩) hHeld ?_
  rotate_left 1
  · (intro w hSw; (try dsimp only at hSw); go_simp; try with_reducible rfl)
  try simp only [Act.put, List.getElem_toArray, List.getElem_cons_zero, List.getElem_cons_succ, List.setIfInBounds_toArray, List.set_cons_zero, List.set_cons_succ]
  refine wpAnyH_take (i := 13) (v := ?_) rfl (by kernel_rfl) (by kernel_rfl) (by kernel_rfl) (fun _ _ _ h => h) (Or.inl ⟨by rfl, ?_⟩) hHeld ?_
  rotate_left 1
  · (intro w hSw; (try dsimp only at hSw); go_simp; try with_reducible rfl)
  try simp only [Act.put, List.getElem_toArray, List.getElem_cons_zero, List.getElem_cons_succ, List.setIfInBounds_toArray, List.set_cons_zero, List.set_cons_succ]
  refine wpAnyH_take (i := 14) (v := ?_) rfl (by kernel_rfl) (by kernel_rfl) (by kernel_rfl) (fun _ _ _ h => h) (Or.inl ⟨by rfl, ?_⟩) hHeld ?_
  rotate_left 1
  · (intro w hSw; have q1 := hSw; go_simp; try with_reducible rfl)
  try simp only [Act.put, List.getElem_toArray, List.getElem_cons_zero, List.getElem_cons_succ, List.setIfInBounds_toArray, List.set_cons_zero, List.set_cons_succ]
  refine wpAnyH_take (i := 15) (v := ?_) rfl (by kernel_rfl) (by kernel_rfl) (by kernel_rfl) (fun _ _ _ h => h) (Or.inl ⟨by rfl, ?_⟩) hHeld ?_
  rotate_left 1
  · (intro w hSw; (try dsimp only at hSw); go_simp; try with_reducible rfl)
  try simp only [Act.put, List.getElem_toArray, List.getElem_cons_zero, List.getElem_cons_succ, List.setIfInBounds_toArray, List.set_cons_zero, List.set_cons_succ]
  refine wpAnyH_take (i := 16) (v := ?_) rfl (by kernel_rfl) (by kernel_rfl) (by kernel_rfl) (fun _ _ _ h => h) (Or.inl ⟨by rfl, ?_⟩) hHeld ?_
  rotate_left 1
  · (intro w hSw; (try dsimp only at hSw); go_simp; try with_reducible rfl)
  try simp only [Act.put, List.getElem_toArray, List.getElem_cons_zero, List.getElem_cons_succ, List.setIfInBounds_toArray, List.set_cons_zero, List.set_cons_succ]
  refine wpAnyH_take (i := 17) (v := ?_) rfl (by kernel_rfl) (by kernel_rfl) (by kernel_rfl) (fun _ _ _ h => h) (Or.inl ⟨by rfl, ?_⟩) hHeld ?_
  rotate_left 1
  · (intro w hSw; (try dsimp only at hSw); go_simp; try with_reducible rfl)
  try simp only [Act.put, List.getElem_toArray, List.getElem_cons_zero, List.getElem_cons_succ, List.setIfInBounds_toArray, List.set_cons_zero, List.set_cons_succ]
  refine wpAnyH_take (i := 18) (v := ?_) rfl (by kernel_rfl) (by kernel_rfl) (by kernel_rfl) (fun _ _ _ h => h) (Or.inl ⟨by rfl, ?_⟩) hHeld ?_
  rotate_left 1
  · (intro w hSw; have q1 := hSw; go_simp; try with_reducible rfl)
  try simp only [Act.put, List.getElem_toArray, List.getElem_cons_zero, List.getElem_cons_succ, List.setIfInBounds_toArray, List.set_cons_zero, List.set_cons_succ]
  refine wpAnyH_ready (rs := [4]) (by kernel_rfl) (by simp) (AllReadyH.cons rfl (fun K hK => ?_) AllReadyH.nil)
  clear hHeld
  go_simp
  refine (KC.out _ (G.drew (G.refl _))).mono ?_
  rintro e w4 ⟨v4, rfl, hs4, hg4, hf4⟩
  obtain ⟨a4, c4, e4⟩ := hs4.form
  generalize m.ids.length = n4 at e4
  subst e4
  have HS4 := hide hs4
  have HG4 := hide (G.trans (G.drew (G.refl w3)) hg4)
  have HF4 := hide hf4
  clear hs4 hg4 hf4
  go_wp2_with fail
  refine hK.out _ _ ((HH.out.G HG4.out).hp.cells) (fun hHeld => ?_)
  clear hK K
  try simp only [Act.put, List.getElem_toArray, List.getElem_cons_zero, List.getElem_cons_succ, List.setIfInBounds_toArray, List.set_cons_zero, List.set_cons_succ]
  refine wpAnyH_ready (rs := [6]) (by kernel_rfl) (by simp) (AllReadyH.cons rfl (fun K hK => ?_) AllReadyH.nil)
  clear hHeld
  go_simp
  refine (KQ.out w4 HG4.out).mono ?_
  rintro e w6 ⟨v6, rfl, hs6, hg6, hf6⟩
  obtain ⟨a6, c6, e6⟩ := hs6.form
  generalize (m.q.map (·.1)).length = n6 at e6
  subst e6
  have HG6 := hide (HG4.out.trans hg6)
  have HQ0 : Hid (SR W W.heap.size b m KO vq vi v (Value.slice a4 n4 c4) (Value.slice a6 n6 c6) l w6 [.slice none 0 0, .slice none 0 0, I 0, I 0, I 0]) := ⟨HB.out.G HG6.out, HH.out.G HG6.out, HC3.out.trans HG6.out.chg, HS4.out.G hg6, hs6⟩
  have HF6 : Hid (Fresh W (Value.slice a6 n6 c6)) := fun k e => Nat.le_trans (Nat.le_trans HC3.out.size HG4.out.size) (hf6 k e)
  have HF5 : Hid (Fresh W (Value.slice a4 n4 c4)) := fun k e => Nat.le_trans HC3.out.size (HF4.out k e)
  have HAP : Hid (∀ k, (Value.slice a4 n4 c4).ownBlock = some k → (Value.slice a6 n6 c6).ownBlock ≠ some k) := fun k e q => Nat.not_le.2 (HS4.out.lt e) (hf6 k q)
  have HNK : Hid (∀ k, (Value.slice a4 n4 c4).ownBlock = some k ∨ (Value.slice a6 n6 c6).ownBlock = some k → ¬ KO k) := fun k e q => e.elim (fun r => Nat.not_le.2 (HH.out.lt k q) (HF4.out k r)) (fun r => Nat.not_le.2 ((HH.out.G HG4.out).lt k q) (hf6 k r))
  clear hs6 hg6 hf6 HS4 HF4
  go_wp2_with fail
  refine hK.out _ _ (HQ0.out.p.hp.cells) (fun hHeld => ?_)
  clear hK K
  try simp only [Act.put, List.getElem_toArray, List.getElem_cons_zero, List.getElem_cons_succ, List.setIfInBounds_toArray, List.set_cons_zero, List.set_cons_succ]
  refine wpAnyH_ready (rs := [19]) (by kernel_rfl) (by simp) (AllReadyH.cons rfl (fun K hK => ?_) AllReadyH.nil)
  clear hHeld
  have hcR : ∀ o, w6.cell? ⟨W.heap.size, o, none⟩ = _ := HQ0.out.r.cell
  have hzR := HQ0.out.r.frozen
  go_simp
  have HQ1 : Hid (SR W W.heap.size b m KO vq vi v (Value.slice a4 n4 c4) (Value.slice a6 n6 c6) l (((((w6.setCell ⟨W.heap.size, 0, none⟩ (.slice none 0 0)).setCell ⟨W.heap.size, 1, none⟩ (.slice none 0 0)).setCell ⟨W.heap.size, 2, none⟩ (I 0)).setCell ⟨W.heap.size, 3, none⟩ (I 0)).setCell ⟨W.heap.size, 4, none⟩ (I 0)) [.slice none 0 0, .slice none 0 0, I 0, I 0, I 0]) := (((((HQ0.out.set HKR.out (Nat.le_refl _) 0 (.slice none 0 0)).set HKR.out (Nat.le_refl _) 1 (.slice none 0 0)).set HKR.out (Nat.le_refl _) 2 (I 0)).set HKR.out (Nat.le_refl _) 3 (I 0)).set HKR.out (Nat.le_refl _) 4 (I 0))
  clear hcR hzR
  generalize (((((w6.setCell ⟨W.heap.size, 0, none⟩ (.slice none 0 0)).setCell ⟨W.heap.size, 1, none⟩ (.slice none 0 0)).setCell ⟨W.heap.size, 2, none⟩ (I 0)).setCell ⟨W.heap.size, 3, none⟩ (I 0)).setCell ⟨W.heap.size, 4, none⟩ (I 0)) = x1 at HQ1 ⊢
  refine hK.out _ _ (HQ1.out.p.hp.cells) (fun hHeld => ?_)
  clear hK K
  try simp only [Act.put, List.getElem_toArray, List.getElem_cons_zero, List.getElem_cons_succ, List.setIfInBounds_toArray, List.set_cons_zero, List.set_cons_succ]
  refine wpAnyH_take (i := 20) (v := ?_) rfl (by kernel_rfl) (by kernel_rfl) (by kernel_rfl) (fun _ _ _ h => h) (Or.inl ⟨by rfl, ?_⟩) hHeld ?_
  rotate_left 1
  · (intro w hSw; (try dsimp only at hSw); go_simp; try with_reducible rfl)
  try simp only [Act.put, List.getElem_toArray, List.getElem_cons_zero, List.getElem_cons_succ, List.setIfInBounds_toArray, List.set_cons_zero, List.set_cons_succ]
  refine wpAnyH_ready (rs := [21]) (by kernel_rfl) (by simp) (AllReadyH.cons rfl (fun K hK => ?_) AllReadyH.nil)
  clear hHeld
  have hcR : ∀ o, x1.cell? ⟨W.heap.size, o, none⟩ = _ := HQ1.out.r.cell
  have hzR := HQ1.out.r.frozen
  go_simp
  have HQ2 : Hid (SR W W.heap.size b m KO vq vi v (Value.slice a4 n4 c4) (Value.slice a6 n6 c6) l (x1.setCell ⟨W.heap.size, 0, none⟩ (Value.slice a4 n4 c4)) [(Value.slice a4 n4 c4), .slice none 0 0, I 0, I 0, I 0]) := (HQ1.out.set HKR.out (Nat.le_refl _) 0 (Value.slice a4 n4 c4))
  clear hcR hzR
  generalize (x1.setCell ⟨W.heap.size, 0, none⟩ (Value.slice a4 n4 c4)) = x2 at HQ2 ⊢
  refine hK.out _ _ (HQ2.out.p.hp.cells) (fun hHeld => ?_)
  clear hK K
  try simp only [Act.put, List.getElem_toArray, List.getElem_cons_zero, List.getElem_cons_succ, List.setIfInBounds_toArray, List.set_cons_zero, List.set_cons_succ]
  refine wpAnyH_take (i := 22) (v := ?_) rfl (by kernel_rfl) (by kernel_rfl) (by kernel_rfl) (fun _ _ _ h => h) (Or.inl ⟨by rfl, ?_⟩) hHeld ?_
  rotate_left 1
  · (intro w hSw; (try dsimp only at hSw); go_simp; try with_reducible rfl)
  try simp only [Act.put, List.getElem_toArray, List.getElem_cons_zero, List.getElem_cons_succ, List.setIfInBounds_toArray, List.set_cons_zero, List.set_cons_succ]
  refine wpAnyH_ready (rs := [23]) (by kernel_rfl) (by simp) (AllReadyH.cons rfl (fun K hK => ?_) AllReadyH.nil)
  clear hHeld
  have hcR : ∀ o, x2.cell? ⟨W.heap.size, o, none⟩ = _ := HQ2.out.r.cell
  have hzR := HQ2.out.r.frozen
  go_simp
  have HQ3 : Hid (SR W W.heap.size b m KO vq vi v (Value.slice a4 n4 c4) (Value.slice a6 n6 c6) l (x2.setCell ⟨W.heap.size, 1, none⟩ (Value.slice a6 n6 c6)) [(Value.slice a4 n4 c4), (Value.slice a6 n6 c6), I 0, I 0, I 0]) := (HQ2.out.set HKR.out (Nat.le_refl _) 1 (Value.slice a6 n6 c6))
  clear hcR hzR
  generalize (x2.setCell ⟨W.heap.size, 1, none⟩ (Value.slice a6 n6 c6)) = x3 at HQ3 ⊢
  refine hK.out _ _ (HQ3.out.p.hp.cells) (fun hHeld => ?_)
  clear hK K
  try simp only [Act.put, List.getElem_toArray, List.getElem_cons_zero, List.getElem_cons_succ, List.setIfInBounds_toArray, List.set_cons_zero, List.set_cons_succ]
  refine wpAnyH_take (i := 24) (v := ?_) rfl (by kernel_rfl) (by kernel_rfl) (by kernel_rfl) (fun _ _ _ h => h) (Or.inl ⟨by rfl, ?_⟩) hHeld ?_
  rotate_left 1
  · (intro w hSw; (try dsimp only at hSw); go_simp; try with_reducible rfl)
  try simp only [Act.put, List.getElem_toArray, List.getElem_cons_zero, List.getElem_cons_succ, List.setIfInBounds_toArray, List.set_cons_zero, List.set_cons_succ]
  refine wpAnyH_ready (rs := [25]) (by kernel_rfl) (by simp) (AllReadyH.cons rfl (fun K hK => ?_) AllReadyH.nil)
  clear hHeld
  have hcR : ∀ o, x3.cell? ⟨W.heap.size, o, none⟩ = _ := HQ3.out.r.cell
  have hzR := HQ3.out.r.frozen
  go_simp
  have HQ4 : Hid (SR W W.heap.size b m KO vq vi v (Value.slice a4 n4 c4) (Value.slice a6 n6 c6) l (x3.setCell ⟨W.heap.size, 2, none⟩ (I m.lg)) [(Value.slice a4 n4 c4), (Value.slice a6 n6 c6), I m.lg, I 0, I 0]) := (HQ3.out.set HKR.out (Nat.le_refl _) 2 (I m.lg))
  clear hcR hzR
  generalize (x3.setCell ⟨W.heap.size, 2, none⟩ (I m.lg)) = x4 at HQ4 ⊢
  refine hK.out _ _ (HQ4.out.p.hp.cells) (fun hHeld => ?_)
  clear hK K
  try simp only [Act.put, List.getElem_toArray, List.getElem_cons_zero, List.getElem_cons_succ, List.setIfInBounds_toArray, List.set_cons_zero, List.set_cons_succ]
  refine wpAnyH_take (i := 26) (v := ?_) rfl (by kernel_rfl) (by kernel_rfl) (by kernel_rfl) (fun _ _ _ h => h) (Or.inl ⟨by rfl, ?_⟩) hHeld ?_
  rotate_left 1
  · (intro w hSw; (try dsimp only at hSw); go_simp; try with_reducible rfl)
  try simp only [Act.put, List.getElem_toArray, List.getElem_cons_zero, List.getElem_cons_succ, List.setIfInBounds_toArray, List.set_cons_zero, List.set_cons_succ]
  refine wpAnyH_ready (rs := [27]) (by kernel_rfl) (by simp) (AllReadyH.cons rfl (fun K hK => ?_) AllReadyH.nil)
  clear hHeld
  have hcR : ∀ o, x4.cell? ⟨W.heap.size, o, none⟩ = _ := HQ4.out.r.cell
  have hzR := HQ4.out.r.frozen
  go_simp
  have HQ5 : Hid (SR W W.heap.size b m KO vq vi v (Value.slice a4 n4 c4) (Value.slice a6 n6 c6) l (x4.setCell ⟨W.heap.size, 3, none⟩ (I m.un)) [(Value.slice a4 n4 c4), (Value.slice a6 n6 c6), I m.lg, I m.un, I 0]) := (HQ4.out.set HKR.out (Nat.le_refl _) 3 (I m.un))
  clear hcR hzR
  generalize (x4.setCell ⟨W.heap.size, 3, none⟩ (I m.un)) = x5 at HQ5 ⊢
  refine hK.out _ _ (HQ5.out.p.hp.cells) (fun hHeld => ?_)
  clear hK K
  try simp only [Act.put, List.getElem_toArray, List.getElem_cons_zero, List.getElem_cons_succ, List.setIfInBounds_toArray, List.set_cons_zero, List.set_cons_succ]
  refine wpAnyH_take (i := 28) (v := ?_) rfl (by kernel_rfl) (by kernel_rfl) (by kernel_rfl) (fun _ _ _ h => h) (Or.inl ⟨by rfl, ?_⟩) hHeld ?_
  rotate_left 1
  · (intro w hSw; (try dsimp only at hSw); go_simp; try with_reducible rfl)
  try simp only [Act.put, List.getElem_toArray, List.getElem_cons_zero, List.getElem_cons_succ, List.setIfInBounds_toArray, List.set_cons_zero, List.set_cons_succ]
  refine wpAnyH_ready (rs := [29]) (by kernel_rfl) (by simp) (AllReadyH.cons rfl (fun K hK => ?_) AllReadyH.nil)
  clear hHeld
  have hcR : ∀ o, x5.cell? ⟨W.heap.size, o, none⟩ = _ := HQ5.out.r.cell
  have hzR := HQ5.out.r.frozen
  go_simp
  have HQ6 : Hid (SR W W.heap.size b m KO vq vi v (Value.slice a4 n4 c4) (Value.slice a6 n6 c6) l (x5.setCell ⟨W.heap.size, 4, none⟩ (I m.mo)) [(Value.slice a4 n4 c4), (Value.slice a6 n6 c6), I m.lg, I m.un, I m.mo]) := (HQ5.out.set HKR.out (Nat.le_refl _) 4 (I m.mo))
  clear hcR hzR
  generalize (x5.setCell ⟨W.heap.size, 4, none⟩ (I m.mo)) = x6 at HQ6 ⊢
  refine hK.out _ _ (HQ6.out.p.hp.cells) (fun hHeld => ?_)
  clear hK K
  try simp only [Act.put, List.getElem_toArray, List.getElem_cons_zero, List.getElem_cons_succ, List.setIfInBounds_toArray, List.set_cons_zero, List.set_cons_succ]
  refine wpAnyH_done (by kernel_rfl) ?_ _
  refine NoPanic.normal ?_
  have H9 : Hid (PG x6 b 1 m KO) := ⟨vq, vi, v, l, HQ6.out.p⟩
  go_wp2_with fail
  refine leaves_cons (f := 15) (args := #[.pointer (some ⟨b, 0, none⟩)]) (by simp) (by simp [go_sem]) ?_
  refine (unlock_deferred muLib ⟨b, 0, none⟩ .returning _ H9.out.c0 H9.out.f0).mono ?_
  rintro e u' w'' ⟨rfl, rfl, rfl⟩
  have hR9 : Blk (x6.setCell ⟨b, 0, none⟩ (.int .i32 0)) W.heap.size 39 [(Value.slice a4 n4 c4), (Value.slice a6 n6 c6), I m.lg, I m.un, I m.mo] := HQ6.out.r.off (fun e => HKR.out (by rw [show W.heap.size = b from e]; exact HQ6.out.p.kb))
  refine ⟨_, results_cell_row Try.results11 _ _ W.heap.size 39 _ (0, 0) _ rfl hR9.h Try.underlying39 rfl (by kernel_rfl), (Value.slice a4 n4 c4), (Value.slice a6 n6 c6), rfl, ?_, ?_, HF5.out, HF6.out, HAP.out, KO, (H9.out.lock 0).1, ⟨HQ6.out.c.trans (H9.out.lock 0).2.chg, fun _ q => .inl q⟩, HNK.out⟩
  · exact HQ6.out.s4.off (fun e => HNK.out b (.inl e) HQ6.out.p.kb)
  · exact HQ6.out.s6.off (fun e => HNK.out b (.inr e) HQ6.out.p.kb)
end Go.Proofs.Ytmclbnhbioficac
