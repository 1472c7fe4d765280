/- Gate: stat of both. -/
import Derived.Test.YtmclbnhbioficacGr2
namespace Go.Proofs.Ytmclbnhbioficac
open Go.RowKit
set_option maxRecDepth 100000 in
set_option maxHeartbeats 1000000 in
theorem stat_same (b : Nat) (m : GM) (K : Nat → Prop) (v4 v6 : Value) (W : World) (h : RG W b m K) (hv : Iv m) (h4 : SwI W v4 m.ids) (h6 : SwI W v6 m.qids) :
    Calls Try.prog 12 #[.agg #[v4, v6, I m.lg, I m.un, I m.mo], ptr b] W fun e W' => e = .returned (.bool true) ∧ G W W' := by
  obtain ⟨vq, vi, h⟩ := h
  obtain ⟨a4, c4, e4⟩ := h4.form
  obtain ⟨a6, c6, e6⟩ := h6.form
  have hil : m.ids.length = m.ins.length := List.length_map _
  have hqil : m.qids.length = m.q.length := List.length_map _
  generalize hn4 : m.ids.length = n4 at e4
  generalize hn6 : m.qids.length = n6 at e6
  subst e4 e6
  have hA := (G.refl W).alloc (.cells #[.slice a4 n4 c4, .slice a6 n6 c6, I m.lg, I m.un, I m.mo] 39)
  have hX := Blk.new W ([.slice a4 n4 c4, .slice a6 n6 c6, I m.lg, I m.un, I m.mo] : List Value) 39
  have hcr := hv.crowd
  have hql := qO_len m
  have hc1 : ∀ o, (W.alloc (.cells #[.slice a4 n4 c4, .slice a6 n6 c6, I m.lg, I m.un, I m.mo] 39)).cell? ⟨b, o, none⟩ = ([I m.mo, I m.un, I m.lg, I m.ck, I m.sw, I m.sp, vq, vi] : List Value)[o]? := (h.G hA).cells
  have hcx : ∀ o, (W.alloc (.cells #[.slice a4 n4 c4, .slice a6 n6 c6, I m.lg, I m.un, I m.mo] 39)).cell? ⟨W.heap.size, o, none⟩ = ([.slice a4 n4 c4, .slice a6 n6 c6, I m.lg, I m.un, I m.mo] : List Value)[o]? := hX.cell
  have h0 := h.G hA
  have h40 := h4.G hA
  have h60 := h6.G hA
  have HG0 := hide hA
  clear hA
  go_enter Try.func12, Try.ntmps12
  go_wp2_with fail
  generalize W.alloc (.cells #[.slice a4 n4 c4, .slice a6 n6 c6, I m.lg, I m.un, I m.mo] 39) = w0 at h0 hX h40 h60 HG0 hc1 hcx ⊢
  go_quiet (fail)
  generalize hw1 : World.drewN w0 _ = w1
  have hg1 : G w0 w1 := by rw [← hw1]; exact (G.refl _).drewN _
  clear hw1
  have HS0 : Hid (∀ V, G w1 V → (fun V => (∀ o, V.cell? ⟨b, o, none⟩ = ([I m.mo, I m.un, I m.lg, I m.ck, I m.sw, I m.sp, vq, vi] : List Value)[o]?) ∧ (∀ o, V.cell? ⟨W.heap.size, o, none⟩ = ([.slice a4 n4 c4, .slice a6 n6 c6, I m.lg, I m.un, I m.mo] : List Value)[o]?)) V) := fun V hV => ⟨(h0.G (hg1.trans hV)).cells, (hX.G (hg1.trans hV)).cell⟩
  have KI : Hid (∀ V, G w1 V → Calls Try.prog 31 #[vi] V fun e W' => ∃ v', e = .returned v' ∧ SwI W' v' (m.ins.map (·.1.1)) ∧ G V W' ∧ Fresh V v') := fun V hV => ids_any m.ins vi V (h0.i.G (hg1.trans hV)) (by omega)
  have KQ : Hid (∀ V, G w1 V → Calls Try.prog 31 #[vq] V fun e W' => ∃ v', e = .returned v' ∧ SwI W' v' (m.qO.map (·.1.1)) ∧ G V W' ∧ Fresh V v') := fun V hV => ids_any m.qO vq V (h0.q.G (hg1.trans hV)) (by omega)
  have KS : Hid (∀ V u, G w1 V → SwI V u (m.ins.map (·.1.1)) → Calls Try.prog 7 #[.slice a4 n4 c4, u] V fun e W' => e = .returned (.bool true) ∧ G V W') := fun V u hV hu => same_any m.ids _ u V (h40.G (hg1.trans hV)) hu (by omega)
  have KT : Hid (∀ V u, G w1 V → SwI V u (m.qO.map (·.1.1)) → Calls Try.prog 7 #[.slice a6 n6 c6, u] V fun e W' => e = .returned (.bool true) ∧ G V W') := fun V u hV hu => same_any m.qids _ u V (h60.G (hg1.trans hV)) (by rw [qO_ids] at hu; exact hu) (by omega)
  have HG1 := hide (HG0.out.trans hg1)
  clear h0 hX h40 h60 hg1 HG0 h h4 h6 hv hcr hil hqil hql hc1 hcx hn4 hn6
  go_wp2_with fail
  refine wp_region_noPanic ?_
  refine wp_region_held_drew (S := (fun V => (∀ o, V.cell? ⟨b, o, none⟩ = ([I m.mo, I m.un, I m.lg, I m.ck, I m.sw, I m.sp, vq, vi] : List Value)[o]?) ∧ (∀ o, V.cell? ⟨W.heap.size, o, none⟩ = ([.slice a4 n4 c4, .slice a6 n6 c6, I m.lg, I m.un, I m.mo] : List Value)[o]?))) (by kernel_rfl) (HS0.out _ (G.drew (G.refl _))) (fun hHeld => ?_)
  refine wpAnyH_take (i := 0) (v := ?_) rfl (by kernel_rfl) (by kernel_rfl) (by kernel_rfl) (fun _ _ _ h => h) (Or.inl ⟨by rfl, ?_⟩) hHeld ?_
  rotate_left 1
  · (intro w hSw; (try dsimp only at hSw); go_simp; try with_reducible rfl)
  try simp only [Act.put, List.getElem_toArray, List.getElem_cons_zero, List.setIfInBounds_toArray, List.set_cons_zero, List.set_cons_succ]
  refine wpAnyH_take (i := 1) (v := ?_) rfl (by kernel_rfl) (by kernel_rfl) (by kernel_rfl) (fun _ _ _ h => h) (Or.inl ⟨by rfl, ?_⟩) hHeld ?_
  rotate_left 1
  · (intro w hSw; obtain ⟨s1, s2⟩ := hSw; go_simp; try with_reducible rfl)
  try simp only [Act.put, List.getElem_toArray, List.getElem_cons_zero, List.getElem_cons_succ, List.setIfInBounds_toArray, List.set_cons_zero, List.set_cons_succ]
  refine wpAnyH_take (i := 2) (v := ?_) rfl (by kernel_rfl) (by kernel_rfl) (by kernel_rfl) (fun _ _ _ h => h) (Or.inl ⟨by rfl, ?_⟩) hHeld ?_
  rotate_left 1
  · (intro w hSw; (try dsimp only at hSw); go_simp; try with_reducible rfl)
  try simp only [Act.put, List.getElem_toArray, List.getElem_cons_zero, List.getElem_cons_succ, List.setIfInBounds_toArray, List.set_cons_zero, List.set_cons_succ]
  refine wpAnyH_take (i := 3) (v := ?_) rfl (by kernel_rfl) (by kernel_rfl) (by kernel_rfl) (fun _ _ _ h => h) (Or.inl ⟨by rfl, ?_⟩) hHeld ?_
  rotate_left 1
  · (intro w hSw; (try dsimp only at hSw); go_simp; try with_reducible rfl)
  try simp only [Act.put, List.getElem_toArray, List.getElem_cons_zero, List.getElem_cons_succ, List.setIfInBounds_toArray, List.set_cons_zero, List.set_cons_succ]
  refine wpAnyH_take (i := 4) (v := ?_) rfl (by kernel_rfl) (by kernel_rfl) (by kernel_rfl) (fun _ _ _ h => h) (Or.inl ⟨by rfl, ?_⟩) hHeld ?_
  rotate_left 1
  · (intro w hSw; (try dsimp only at hSw); go_simp; try with_reducible rfl)
  try simp only [Act.put, List.getElem_toArray, List.getElem_cons_zero, List.getElem_cons_succ, List.setIfInBounds_toArray, List.set_cons_zero, List.set_cons_succ]
  refine wpAnyH_take (i := 5) (v := ?_) rfl (by kernel_rfl) (by kernel_rfl) (by kernel_rfl) (fun _ _ _ h => h) (Or.inl ⟨by rfl, ?_⟩) hHeld ?_
  rotate_left 1
  · (intro w hSw; obtain ⟨s1, s2⟩ := hSw; go_simp; try with_reducible rfl)
  try simp only [Act.put, List.getElem_toArray, List.getElem_cons_zero, List.getElem_cons_succ, List.setIfInBounds_toArray, List.set_cons_zero, List.set_cons_succ]
  refine wpAnyH_ready (rs := [6]) (by kernel_rfl) (by simp) (AllReadyH.cons rfl (fun K hK => ?_) AllReadyH.nil)
  clear hHeld
  go_simp
  refine (KI.out _ (G.drew (G.refl _))).mono ?_
  rintro e w6 ⟨v60, rfl, hs6, hg6, hf6⟩
  have HS6 := hide hs6
  have HG6 := hide (G.trans (G.drew (G.refl _)) hg6)
  clear hs6 hg6 hf6
  go_wp2_with fail
  refine hK.out _ _ (HS0.out _ HG6.out) (fun hHeld => ?_)
  clear hK K
  try simp only [Act.put, List.getElem_toArray, List.getElem_cons_zero, List.getElem_cons_succ, List.setIfInBounds_toArray, List.set_cons_zero, List.set_cons_succ]
  refine wpAnyH_ready (rs := [7]) (by kernel_rfl) (by simp) (AllReadyH.cons rfl (fun K hK => ?_) AllReadyH.nil)
  clear hHeld
  go_simp
  refine (KS.out _ _ HG6.out HS6.out).mono ?_
  rintro e w7 ⟨rfl, hg7⟩
  have HG7 := hide (G.trans HG6.out hg7)
  clear hg7
  go_wp2_with fail
  refine hK.out _ _ (HS0.out _ HG7.out) (fun hHeld => ?_)
  clear hK K
  try simp only [Act.put, List.getElem_toArray, List.getElem_cons_zero, List.getElem_cons_succ, List.setIfInBounds_toArray, List.set_cons_zero, List.set_cons_succ]
  refine wpAnyH_take (i := 8) (v := ?_) rfl (by kernel_rfl) (by kernel_rfl) (by kernel_rfl) (fun _ _ _ h => h) (Or.inl ⟨by rfl, ?_⟩) hHeld ?_
  rotate_left 1
  · (intro w hSw; (try dsimp only at hSw); go_simp; try with_reducible rfl)
  try simp only [Act.put, List.getElem_toArray, List.getElem_cons_zero, List.getElem_cons_succ, List.setIfInBounds_toArray, List.set_cons_zero, List.set_cons_succ]
  refine wpAnyH_take (i := 9) (v := ?_) rfl (by kernel_rfl) (by kernel_rfl) (by kernel_rfl) (fun _ _ _ h => h) (Or.inl ⟨by rfl, ?_⟩) hHeld ?_
  rotate_left 1
  · (intro w hSw; (try dsimp only at hSw); go_simp; try with_reducible rfl)
  try simp only [Act.put, List.getElem_toArray, List.getElem_cons_zero, List.getElem_cons_succ, List.setIfInBounds_toArray, List.set_cons_zero, List.set_cons_succ]
  refine wpAnyH_take (i := 10) (v := ?_) rfl (by kernel_rfl) (by kernel_rfl) (by kernel_rfl) (fun _ _ _ h => h) (Or.inl ⟨by rfl, ?_⟩) hHeld ?_
  rotate_left 1
  · (intro w hSw; obtain ⟨s1, s2⟩ := hSw; go_simp; try with_reducible rfl)
  try simp only [Act.put, List.getElem_toArray, List.getElem_cons_zero, List.getElem_cons_succ, List.setIfInBounds_toArray, List.set_cons_zero, List.set_cons_succ]
  refine wpAnyH_take (i := 11) (v := ?_) rfl (by kernel_rfl) (by kernel_rfl) (by kernel_rfl) (fun _ _ _ h => h) (Or.inl ⟨by rfl, ?_⟩) hHeld ?_
  rotate_left 1
  · (intro w hSw; (try dsimp only at hSw); go_simp; try with_reducible rfl)
  try simp only [Act.put, List.getElem_toArray, List.getElem_cons_zero, List.getElem_cons_succ, List.setIfInBounds_toArray, List.set_cons_zero, List.set_cons_succ]
  refine wpAnyH_take (i := 12) (v := ?_) rfl (by kernel_rfl) (by kernel_rfl) (by kernel_rfl) (fun _ _ _ h => h) (Or.inl ⟨by rfl, ?_⟩) hHeld ?_
  rotate_left 1
  · (intro w hSw; (try dsimp only at hSw); go_simp; try with_reducible rfl)
  try simp only [Act.put, List.getElem_toArray, List.getElem_cons_zero, List.getElem_cons_succ, List.setIfInBounds_toArray, List.set_cons_zero, List.set_cons_succ]
  refine wpAnyH_take (i := 13) (v := ?_) rfl (by kernel_rfl) (by kernel_rfl) (by kernel_rfl) (fun _ _ _ h => h) (Or.inl ⟨by rfl, ?_⟩) hHeld ?_
  rotate_left 1
  · (intro w hSw; (try dsimp only at hSw); go_simp; try with_reducible rfl)
  try simp only [Act.put, List.getElem_toArray, List.getElem_cons_zero, List.getElem_cons_succ, List.setIfInBounds_toArray, List.set_cons_zero, List.set_cons_succ]
  refine wpAnyH_take (i := 14) (v := ?_) rfl (by kernel_rfl) (by kernel_rfl) (by kernel_rfl) (fun _ _ _ h => h) (Or.inl ⟨by rfl, ?_⟩) hHeld ?_
  rotate_left 1
  · (intro w hSw; obtain ⟨s1, s2⟩ := hSw; go_simp; try with_reducible rfl)
  try simp only [Act.put, List.getElem_toArray, List.getElem_cons_zero, List.getElem_cons_succ, List.setIfInBounds_toArray, List.set_cons_zero, List.set_cons_succ]
  refine wpAnyH_ready (rs := [15]) (by kernel_rfl) (by simp) (AllReadyH.cons rfl (fun K hK => ?_) AllReadyH.nil)
  clear hHeld
  go_simp
  refine (KQ.out _ HG7.out).mono ?_
  rintro e w15 ⟨v150, rfl, hs15, hg15, hf15⟩
  have HS15 := hide hs15
  have HG15 := hide (G.trans HG7.out hg15)
  clear hs15 hg15 hf15
  go_wp2_with fail
  refine hK.out _ _ (HS0.out _ HG15.out) (fun hHeld => ?_)
  clear hK K
  try simp only [Act.put, List.getElem_toArray, List.getElem_cons_zero, List.getElem_cons_succ, List.setIfInBounds_toArray, List.set_cons_zero, List.set_cons_succ]
  refine wpAnyH_ready (rs := [16]) (by kernel_rfl) (by simp) (AllReadyH.cons rfl (fun K hK => ?_) AllReadyH.nil)
  clear hHeld
  go_simp
  refine (KT.out _ _ HG15.out HS15.out).mono ?_
  rintro e w16 ⟨rfl, hg16⟩
  have HG16 := hide (G.trans HG15.out hg16)
  clear hg16
  go_wp2_with fail
  refine hK.out _ _ (HS0.out _ HG16.out) (fun hHeld => ?_)
  clear hK K
  try simp only [Act.put, List.getElem_toArray, List.getElem_cons_zero, List.getElem_cons_succ, List.setIfInBounds_toArray, List.set_cons_zero, List.set_cons_succ]
  refine wpAnyH_take (i := 17) (v := ?_) rfl (by kernel_rfl) (by kernel_rfl) (by kernel_rfl) (fun _ _ _ h => h) (Or.inl ⟨by rfl, ?_⟩) hHeld ?_
  rotate_left 1
  · (intro w hSw; (try dsimp only at hSw); go_simp; try with_reducible rfl)
  try simp only [Act.put, List.getElem_toArray, List.getElem_cons_zero, List.getElem_cons_succ, List.setIfInBounds_toArray, List.set_cons_zero, List.set_cons_succ]
  refine wpAnyH_take (i := 18) (v := ?_) rfl (by kernel_rfl) (by kernel_rfl) (by kernel_rfl) (fun _ _ _ h => h) (Or.inl ⟨by rfl, ?_⟩) hHeld ?_
  rotate_left 1
  · (intro w hSw; (try dsimp only at hSw); go_simp; try with_reducible rfl)
  try simp only [Act.put, List.getElem_toArray, List.getElem_cons_zero, List.getElem_cons_succ, List.setIfInBounds_toArray, List.set_cons_zero, List.set_cons_succ]
  refine wpAnyH_done (by kernel_rfl) ?_ _
  refine NoPanic.normal ?_
  go_wp2_with fail
  go_ret
  exact ⟨rfl, HG1.out.trans HG16.out⟩
end Go.Proofs.Ytmclbnhbioficac
