/- Paths: ahead, over what orders the heap. -/
import Derived.Test.YtemkilffagjmcaaDoorPi1
import Derived.BigRegion
import Derived.BigQuiet
namespace Go.Proofs.YtemkilffagjmcaaDoor
open Go.RowKit
set_option maxRecDepth 100000 in
set_option maxHeartbeats 1000000 in
theorem ah_s (B : Nat) (K : World → Prop) (D : Int → Prop) (lt : Int → Int → Bool) (hKG : ∀ W W', K W → G W W' → K W') (hlt : ∀ (a b : Int) (W : World), K W → D a → D b → Calls Tryd.prog 37 #[I a, I b, ptr B] W fun e W' => e = .returned (.bool (lt a b)) ∧ G W W') : AhOk K D (.func (.func 37) #[] #[ptr B]) lt := by
  intro W h v l t i j hK hp hD hi hj hm
  obtain ⟨x, hx⟩ : ∃ x, l[i]? = some x := ⟨_, List.getElem?_eq_getElem hi⟩
  obtain ⟨y, hy⟩ : ∃ y, l[j]? = some y := ⟨_, List.getElem?_eq_getElem hj⟩
  have ex : l[i]! = x := by simp [hx]
  have ey : l[j]! = y := by simp [hy]
  rw [ex, ey]
  have HD1 := hide (hD x (List.mem_of_getElem? hx))
  have HD2 := hide (hD y (List.mem_of_getElem? hy))
  have hc := hp.blk.cell
  obtain ⟨g, cap, rfl⟩ : ∃ g cap, v = .slice (some ⟨g, 0, none⟩) l.length cap := by
    rcases hp.sl with ⟨_, rfl⟩ | ⟨g, cap, rest, rfl, _⟩
    · simp at hi
    · exact ⟨g, cap, rfl⟩
  obtain ⟨x1, x2⟩ := hp.sl.at hx
  obtain ⟨y1, y2⟩ := hp.sl.at hy
  have hgl : g < W.heap.size := hp.sl.lt rfl
  have hhl := hp.blk.lt
  have n1 : h < W.heap.size + 1 := by omega
  have n2 : g < W.heap.size + 1 := by omega
  obtain ⟨k, u⟩ := x
  obtain ⟨k', u'⟩ := y
  have KL := hide hlt
  have HKG : Hid (∀ W', G W W' → K W') := fun W' q => hKG W W' hK q
  clear hp hx hy ex ey hlt hKG hK hD
  by_cases hu : u < u'
  · go_enter Tryd.func50, Tryd.ntmps50
    go_wp2_with fail
    go_region
    · go_wp2_with fail
      generalize hW2 : World.drew _ = W2
      have hz : W2.heap.size = W.heap.size + 2 := by rw [← hW2]; simp
      have hgW : G W W2 := by rw [← hW2]; exact (((G.refl W).alloc _).alloc _).drew
      have hb1 : ∀ o, W2.cell? ⟨W.heap.size, o, none⟩ = [I k, I u][o]? := fun o => by rw [← hW2]; first | (simp; done) | simp [World.cell?_alloc_lt]
      have hb2 : ∀ o, W2.cell? ⟨W.heap.size + 1, o, none⟩ = [I k', I u'][o]? := fun o => by rw [← hW2]; first | (simp; done) | simp [World.cell?_alloc_lt]
      have hh2 := hgW.cells hc hhl
      have HS : Hid (∀ V, G W2 V → (fun V => (∀ o, V.cell? ⟨h, o, none⟩ = [.func (.func 37) #[] #[ptr B], .slice (some ⟨g, 0, none⟩) l.length cap, I t][o]?) ∧ (∀ o, V.cell? ⟨W.heap.size, o, none⟩ = [I k, I u][o]?) ∧ (∀ o, V.cell? ⟨W.heap.size + 1, o, none⟩ = [I k', I u'][o]?)) V) := fun V q => ⟨q.cells hh2 (by omega), q.cells hb1 (by omega), q.cells hb2 (by omega)⟩
      have HG2 := hide hgW
      have HG3 := hide (HKG.out _ hgW.drew)
      clear hW2 hb1 hb2 hh2 hc hgW hz
      refine wp_region_noPanic ?_
      refine wp_region_held_drew (S := fun V => (∀ o, V.cell? ⟨h, o, none⟩ = [.func (.func 37) #[] #[ptr B], .slice (some ⟨g, 0, none⟩) l.length cap, I t][o]?) ∧ (∀ o, V.cell? ⟨W.heap.size, o, none⟩ = [I k, I u][o]?) ∧ (∀ o, V.cell? ⟨W.heap.size + 1, o, none⟩ = [I k', I u'][o]?)) (by kernel_rfl) (HS.out _ (G.drew (G.refl _))) (fun hHeld => ?_)
      refine wpAnyH_take (i := 0) (v := ?_) rfl (by kernel_rfl) (by kernel_rfl) (by kernel_rfl) (fun _ _ _ h => h) (Or.inl ⟨by rfl, ?_⟩) hHeld ?_
      rotate_left 1
      · (intro w hSw; (try dsimp only at hSw); go_simp; try with_reducible rfl)
      try simp only [Act.put, List.getElem_toArray, List.getElem_cons_zero, List.setIfInBounds_toArray, List.set_cons_zero, List.set_cons_succ]
      refine wpAnyH_take (i := 1) (v := ?_) rfl (by kernel_rfl) (by kernel_rfl) (by kernel_rfl) (fun _ _ _ h => h) (Or.inl ⟨by rfl, ?_⟩) hHeld ?_
      rotate_left 1
      · (intro w hSw; (try dsimp only at hSw); go_simp; try with_reducible rfl)
      try simp only [Act.put, List.getElem_toArray, List.getElem_cons_zero, List.getElem_cons_succ, List.setIfInBounds_toArray, List.set_cons_zero, List.set_cons_succ]
      refine wpAnyH_take (i := 2) (v := ?_) rfl (by kernel_rfl) (by kernel_rfl) (by kernel_rfl) (fun _ _ _ h => h) (Or.inl ⟨by rfl, ?_⟩) hHeld ?_
      rotate_left 1
      · (intro w hSw; (try dsimp only at hSw); go_simp; try with_reducible rfl)
      try simp only [Act.put, List.getElem_toArray, List.getElem_cons_zero, List.getElem_cons_succ, List.setIfInBounds_toArray, List.set_cons_zero, List.set_cons_succ]
      refine wpAnyH_take (i := 3) (v := ?_) rfl (by kernel_rfl) (by kernel_rfl) (by kernel_rfl) (fun _ _ _ h => h) (Or.inl ⟨by rfl, ?_⟩) hHeld ?_
      rotate_left 1
      · (intro w hSw; obtain ⟨s1, s2, s3⟩ := hSw; go_simp; try with_reducible rfl)
      try simp only [Act.put, List.getElem_toArray, List.getElem_cons_zero, List.getElem_cons_succ, List.setIfInBounds_toArray, List.set_cons_zero, List.set_cons_succ]
      refine wpAnyH_take (i := 4) (v := ?_) rfl (by kernel_rfl) (by kernel_rfl) (by kernel_rfl) (fun _ _ _ h => h) (Or.inl ⟨by rfl, ?_⟩) hHeld ?_
      rotate_left 1
      · (intro w hSw; (try dsimp only at hSw); go_simp; try with_reducible rfl)
      try simp only [Act.put, List.getElem_toArray, List.getElem_cons_zero, List.getElem_cons_succ, List.setIfInBounds_toArray, List.set_cons_zero, List.set_cons_succ]
      refine wpAnyH_take (i := 5) (v := ?_) rfl (by kernel_rfl) (by kernel_rfl) (by kernel_rfl) (fun _ _ _ h => h) (Or.inl ⟨by rfl, ?_⟩) hHeld ?_
      rotate_left 1
      · (intro w hSw; obtain ⟨s1, s2, s3⟩ := hSw; go_simp; try with_reducible rfl)
      try simp only [Act.put, List.getElem_toArray, List.getElem_cons_zero, List.getElem_cons_succ, List.setIfInBounds_toArray, List.set_cons_zero, List.set_cons_succ]
      refine wpAnyH_take (i := 6) (v := ?_) rfl (by kernel_rfl) (by kernel_rfl) (by kernel_rfl) (fun _ _ _ h => h) (Or.inl ⟨by rfl, ?_⟩) hHeld ?_
      rotate_left 1
      · (intro w hSw; (try dsimp only at hSw); go_simp; try with_reducible rfl)
      try simp only [Act.put, List.getElem_toArray, List.getElem_cons_zero, List.getElem_cons_succ, List.setIfInBounds_toArray, List.set_cons_zero, List.set_cons_succ]
      refine wpAnyH_take (i := 7) (v := ?_) rfl (by kernel_rfl) (by kernel_rfl) (by kernel_rfl) (fun _ _ _ h => h) (Or.inl ⟨by rfl, ?_⟩) hHeld ?_
      rotate_left 1
      · (intro w hSw; obtain ⟨s1, s2, s3⟩ := hSw; go_simp; try with_reducible rfl)
      try simp only [Act.put, List.getElem_toArray, List.getElem_cons_zero, List.getElem_cons_succ, List.setIfInBounds_toArray, List.set_cons_zero, List.set_cons_succ]
      refine wpAnyH_ready (rs := [8]) (by kernel_rfl) (by simp) (AllReadyH.cons rfl (fun K hK => ?_) AllReadyH.nil)
      clear hHeld
      go_simp
      refine (KL.out k' k _ HG3.out HD2.out HD1.out).mono ?_
      rintro e w6 ⟨rfl, hb⟩
      have HGB := hide (G.trans (G.drew (G.refl W2)) hb)
      clear hb
      go_wp2_with fail
      refine hK.out _ _ (HS.out _ HGB.out) (fun hHeld => ?_)
      clear hK K
      try simp only [Act.put, List.getElem_toArray, List.getElem_cons_zero, List.getElem_cons_succ, List.setIfInBounds_toArray, List.set_cons_zero, List.set_cons_succ]
      refine wpAnyH_take (i := 9) (v := ?_) rfl (by kernel_rfl) (by kernel_rfl) (by kernel_rfl) (fun _ _ _ h => h) (Or.inl ⟨by rfl, ?_⟩) hHeld ?_
      rotate_left 1
      · (intro w hSw; (try dsimp only at hSw); go_simp; try with_reducible rfl)
      try simp only [Act.put, List.getElem_toArray, List.getElem_cons_zero, List.getElem_cons_succ, List.setIfInBounds_toArray, List.set_cons_zero, List.set_cons_succ]
      refine wpAnyH_take (i := 10) (v := ?_) rfl (by kernel_rfl) (by kernel_rfl) (by kernel_rfl) (fun _ _ _ h => h) (Or.inl ⟨by rfl, ?_⟩) hHeld ?_
      rotate_left 1
      · (intro w hSw; (try dsimp only at hSw); go_simp; try with_reducible rfl)
      try simp only [Act.put, List.getElem_toArray, List.getElem_cons_zero, List.getElem_cons_succ, List.setIfInBounds_toArray, List.set_cons_zero, List.set_cons_succ]
      refine wpAnyH_done (by kernel_rfl) ?_ _
      refine NoPanic.normal ?_
      clear HS HG3 x1 x2 y1 y2 KL
      go_wp2_with fail
      go_ret
      exact ⟨by simp [Hp.ah, hu], HG2.out.trans HGB.out⟩
    · go_wp2_with fail
      generalize hW2 : World.drew _ = W2
      have hz : W2.heap.size = W.heap.size + 2 := by rw [← hW2]; simp
      have hgW : G W W2 := by rw [← hW2]; exact (((G.refl W).alloc _).alloc _).drew
      have hb1 : ∀ o, W2.cell? ⟨W.heap.size + 1, o, none⟩ = [I k, I u][o]? := fun o => by rw [← hW2]; first | (simp; done) | simp [World.cell?_alloc_lt]
      have hb2 : ∀ o, W2.cell? ⟨W.heap.size, o, none⟩ = [I k', I u'][o]? := fun o => by rw [← hW2]; first | (simp; done) | simp [World.cell?_alloc_lt]
      have hh2 := hgW.cells hc hhl
      have HS : Hid (∀ V, G W2 V → (fun V => (∀ o, V.cell? ⟨h, o, none⟩ = [.func (.func 37) #[] #[ptr B], .slice (some ⟨g, 0, none⟩) l.length cap, I t][o]?) ∧ (∀ o, V.cell? ⟨W.heap.size + 1, o, none⟩ = [I k, I u][o]?) ∧ (∀ o, V.cell? ⟨W.heap.size, o, none⟩ = [I k', I u'][o]?)) V) := fun V q => ⟨q.cells hh2 (by omega), q.cells hb1 (by omega), q.cells hb2 (by omega)⟩
      have HG2 := hide hgW
      have HG3 := hide (HKG.out _ hgW.drew)
      clear hW2 hb1 hb2 hh2 hc hgW hz
      refine wp_region_noPanic ?_
      refine wp_region_held_drew (S := fun V => (∀ o, V.cell? ⟨h, o, none⟩ = [.func (.func 37) #[] #[ptr B], .slice (some ⟨g, 0, none⟩) l.length cap, I t][o]?) ∧ (∀ o, V.cell? ⟨W.heap.size + 1, o, none⟩ = [I k, I u][o]?) ∧ (∀ o, V.cell? ⟨W.heap.size, o, none⟩ = [I k', I u'][o]?)) (by kernel_rfl) (HS.out _ (G.drew (G.refl _))) (fun hHeld => ?_)
      refine wpAnyH_take (i := 0) (v := ?_) rfl (by kernel_rfl) (by kernel_rfl) (by kernel_rfl) (fun _ _ _ h => h) (Or.inl ⟨by rfl, ?_⟩) hHeld ?_
      rotate_left 1
      · (intro w hSw; (try dsimp only at hSw); go_simp; try with_reducible rfl)
      try simp only [Act.put, List.getElem_toArray, List.getElem_cons_zero, List.setIfInBounds_toArray, List.set_cons_zero, List.set_cons_succ]
      refine wpAnyH_take (i := 1) (v := ?_) rfl (by kernel_rfl) (by kernel_rfl) (by kernel_rfl) (fun _ _ _ h => h) (Or.inl ⟨by rfl, ?_⟩) hHeld ?_
      rotate_left 1
      · (intro w hSw; (try dsimp only at hSw); go_simp; try with_reducible rfl)
      try simp only [Act.put, List.getElem_toArray, List.getElem_cons_zero, List.getElem_cons_succ, List.setIfInBounds_toArray, List.set_cons_zero, List.set_cons_succ]
      refine wpAnyH_take (i := 2) (v := ?_) rfl (by kernel_rfl) (by kernel_rfl) (by kernel_rfl) (fun _ _ _ h => h) (Or.inl ⟨by rfl, ?_⟩) hHeld ?_
      rotate_left 1
      · (intro w hSw; (try dsimp only at hSw); go_simp; try with_reducible rfl)
      try simp only [Act.put, List.getElem_toArray, List.getElem_cons_zero, List.getElem_cons_succ, List.setIfInBounds_toArray, List.set_cons_zero, List.set_cons_succ]
      refine wpAnyH_take (i := 3) (v := ?_) rfl (by kernel_rfl) (by kernel_rfl) (by kernel_rfl) (fun _ _ _ h => h) (Or.inl ⟨by rfl, ?_⟩) hHeld ?_
      rotate_left 1
      · (intro w hSw; obtain ⟨s1, s2, s3⟩ := hSw; go_simp; try with_reducible rfl)
      try simp only [Act.put, List.getElem_toArray, List.getElem_cons_zero, List.getElem_cons_succ, List.setIfInBounds_toArray, List.set_cons_zero, List.set_cons_succ]
      refine wpAnyH_take (i := 4) (v := ?_) rfl (by kernel_rfl) (by kernel_rfl) (by kernel_rfl) (fun _ _ _ h => h) (Or.inl ⟨by rfl, ?_⟩) hHeld ?_
      rotate_left 1
      · (intro w hSw; (try dsimp only at hSw); go_simp; try with_reducible rfl)
      try simp only [Act.put, List.getElem_toArray, List.getElem_cons_zero, List.getElem_cons_succ, List.setIfInBounds_toArray, List.set_cons_zero, List.set_cons_succ]
      refine wpAnyH_take (i := 5) (v := ?_) rfl (by kernel_rfl) (by kernel_rfl) (by kernel_rfl) (fun _ _ _ h => h) (Or.inl ⟨by rfl, ?_⟩) hHeld ?_
      rotate_left 1
      · (intro w hSw; obtain ⟨s1, s2, s3⟩ := hSw; go_simp; try with_reducible rfl)
      try simp only [Act.put, List.getElem_toArray, List.getElem_cons_zero, List.getElem_cons_succ, List.setIfInBounds_toArray, List.set_cons_zero, List.set_cons_succ]
      refine wpAnyH_take (i := 6) (v := ?_) rfl (by kernel_rfl) (by kernel_rfl) (by kernel_rfl) (fun _ _ _ h => h) (Or.inl ⟨by rfl, ?_⟩) hHeld ?_
      rotate_left 1
      · (intro w hSw; (try dsimp only at hSw); go_simp; try with_reducible rfl)
      try simp only [Act.put, List.getElem_toArray, List.getElem_cons_zero, List.getElem_cons_succ, List.setIfInBounds_toArray, List.set_cons_zero, List.set_cons_succ]
      refine wpAnyH_take (i := 7) (v := ?_) rfl (by kernel_rfl) (by kernel_rfl) (by kernel_rfl) (fun _ _ _ h => h) (Or.inl ⟨by rfl, ?_⟩) hHeld ?_
      rotate_left 1
      · (intro w hSw; obtain ⟨s1, s2, s3⟩ := hSw; go_simp; try with_reducible rfl)
      try simp only [Act.put, List.getElem_toArray, List.getElem_cons_zero, List.getElem_cons_succ, List.setIfInBounds_toArray, List.set_cons_zero, List.set_cons_succ]
      refine wpAnyH_ready (rs := [8]) (by kernel_rfl) (by simp) (AllReadyH.cons rfl (fun K hK => ?_) AllReadyH.nil)
      clear hHeld
      go_simp
      refine (KL.out k' k _ HG3.out HD2.out HD1.out).mono ?_
      rintro e w6 ⟨rfl, hb⟩
      have HGB := hide (G.trans (G.drew (G.refl W2)) hb)
      clear hb
      go_wp2_with fail
      refine hK.out _ _ (HS.out _ HGB.out) (fun hHeld => ?_)
      clear hK K
      try simp only [Act.put, List.getElem_toArray, List.getElem_cons_zero, List.getElem_cons_succ, List.setIfInBounds_toArray, List.set_cons_zero, List.set_cons_succ]
      refine wpAnyH_take (i := 9) (v := ?_) rfl (by kernel_rfl) (by kernel_rfl) (by kernel_rfl) (fun _ _ _ h => h) (Or.inl ⟨by rfl, ?_⟩) hHeld ?_
      rotate_left 1
      · (intro w hSw; (try dsimp only at hSw); go_simp; try with_reducible rfl)
      try simp only [Act.put, List.getElem_toArray, List.getElem_cons_zero, List.getElem_cons_succ, List.setIfInBounds_toArray, List.set_cons_zero, List.set_cons_succ]
      refine wpAnyH_take (i := 10) (v := ?_) rfl (by kernel_rfl) (by kernel_rfl) (by kernel_rfl) (fun _ _ _ h => h) (Or.inl ⟨by rfl, ?_⟩) hHeld ?_
      rotate_left 1
      · (intro w hSw; (try dsimp only at hSw); go_simp; try with_reducible rfl)
      try simp only [Act.put, List.getElem_toArray, List.getElem_cons_zero, List.getElem_cons_succ, List.setIfInBounds_toArray, List.set_cons_zero, List.set_cons_succ]
      refine wpAnyH_done (by kernel_rfl) ?_ _
      refine NoPanic.normal ?_
      clear HS HG3 x1 x2 y1 y2 KL
      go_wp2_with fail
      go_ret
      exact ⟨by simp [Hp.ah, hu], HG2.out.trans HGB.out⟩
  · go_enter Tryd.func50, Tryd.ntmps50
    go_wp2_with fail
    go_region
    · go_wp2_with fail
      generalize hW2 : World.drew _ = W2
      have hz : W2.heap.size = W.heap.size + 2 := by rw [← hW2]; simp
      have hgW : G W W2 := by rw [← hW2]; exact (((G.refl W).alloc _).alloc _).drew
      have hb1 : ∀ o, W2.cell? ⟨W.heap.size, o, none⟩ = [I k, I u][o]? := fun o => by rw [← hW2]; first | (simp; done) | simp [World.cell?_alloc_lt]
      have hb2 : ∀ o, W2.cell? ⟨W.heap.size + 1, o, none⟩ = [I k', I u'][o]? := fun o => by rw [← hW2]; first | (simp; done) | simp [World.cell?_alloc_lt]
      have hh2 := hgW.cells hc hhl
      have HS : Hid (∀ V, G W2 V → (fun V => (∀ o, V.cell? ⟨h, o, none⟩ = [.func (.func 37) #[] #[ptr B], .slice (some ⟨g, 0, none⟩) l.length cap, I t][o]?) ∧ (∀ o, V.cell? ⟨W.heap.size, o, none⟩ = [I k, I u][o]?) ∧ (∀ o, V.cell? ⟨W.heap.size + 1, o, none⟩ = [I k', I u'][o]?)) V) := fun V q => ⟨q.cells hh2 (by omega), q.cells hb1 (by omega), q.cells hb2 (by omega)⟩
      have HG2 := hide hgW
      have HG3 := hide (HKG.out _ hgW.drew)
      clear hW2 hb1 hb2 hh2 hc hgW hz
      refine wp_region_noPanic ?_
      refine wp_region_held_drew (S := fun V => (∀ o, V.cell? ⟨h, o, none⟩ = [.func (.func 37) #[] #[ptr B], .slice (some ⟨g, 0, none⟩) l.length cap, I t][o]?) ∧ (∀ o, V.cell? ⟨W.heap.size, o, none⟩ = [I k, I u][o]?) ∧ (∀ o, V.cell? ⟨W.heap.size + 1, o, none⟩ = [I k', I u'][o]?)) (by kernel_rfl) (HS.out _ (G.drew (G.refl _))) (fun hHeld => ?_)
      refine wpAnyH_take (i := 0) (v := ?_) rfl (by kernel_rfl) (by kernel_rfl) (by kernel_rfl) (fun _ _ _ h => h) (Or.inl ⟨by rfl, ?_⟩) hHeld ?_
      rotate_left 1
      · (intro w hSw; (try dsimp only at hSw); go_simp; try with_reducible rfl)
      try simp only [Act.put, List.getElem_toArray, List.getElem_cons_zero, List.setIfInBounds_toArray, List.set_cons_zero, List.set_cons_succ]
      refine wpAnyH_take (i := 1) (v := ?_) rfl (by kernel_rfl) (by kernel_rfl) (by kernel_rfl) (fun _ _ _ h => h) (Or.inl ⟨by rfl, ?_⟩) hHeld ?_
      rotate_left 1
      · (intro w hSw; (try dsimp only at hSw); go_simp; try with_reducible rfl)
      try simp only [Act.put, List.getElem_toArray, List.getElem_cons_zero, List.getElem_cons_succ, List.setIfInBounds_toArray, List.set_cons_zero, List.set_cons_succ]
      refine wpAnyH_take (i := 2) (v := ?_) rfl (by kernel_rfl) (by kernel_rfl) (by kernel_rfl) (fun _ _ _ h => h) (Or.inl ⟨by rfl, ?_⟩) hHeld ?_
      rotate_left 1
      · (intro w hSw; (try dsimp only at hSw); go_simp; try with_reducible rfl)
      try simp only [Act.put, List.getElem_toArray, List.getElem_cons_zero, List.getElem_cons_succ, List.setIfInBounds_toArray, List.set_cons_zero, List.set_cons_succ]
      refine wpAnyH_take (i := 3) (v := ?_) rfl (by kernel_rfl) (by kernel_rfl) (by kernel_rfl) (fun _ _ _ h => h) (Or.inl ⟨by rfl, ?_⟩) hHeld ?_
      rotate_left 1
      · (intro w hSw; obtain ⟨s1, s2, s3⟩ := hSw; go_simp; try with_reducible rfl)
      try simp only [Act.put, List.getElem_toArray, List.getElem_cons_zero, List.getElem_cons_succ, List.setIfInBounds_toArray, List.set_cons_zero, List.set_cons_succ]
      refine wpAnyH_take (i := 4) (v := ?_) rfl (by kernel_rfl) (by kernel_rfl) (by kernel_rfl) (fun _ _ _ h => h) (Or.inl ⟨by rfl, ?_⟩) hHeld ?_
      rotate_left 1
      · (intro w hSw; (try dsimp only at hSw); go_simp; try with_reducible rfl)
      try simp only [Act.put, List.getElem_toArray, List.getElem_cons_zero, List.getElem_cons_succ, List.setIfInBounds_toArray, List.set_cons_zero, List.set_cons_succ]
      refine wpAnyH_take (i := 5) (v := ?_) rfl (by kernel_rfl) (by kernel_rfl) (by kernel_rfl) (fun _ _ _ h => h) (Or.inl ⟨by rfl, ?_⟩) hHeld ?_
      rotate_left 1
      · (intro w hSw; obtain ⟨s1, s2, s3⟩ := hSw; go_simp; try with_reducible rfl)
      try simp only [Act.put, List.getElem_toArray, List.getElem_cons_zero, List.getElem_cons_succ, List.setIfInBounds_toArray, List.set_cons_zero, List.set_cons_succ]
      refine wpAnyH_take (i := 6) (v := ?_) rfl (by kernel_rfl) (by kernel_rfl) (by kernel_rfl) (fun _ _ _ h => h) (Or.inl ⟨by rfl, ?_⟩) hHeld ?_
      rotate_left 1
      · (intro w hSw; (try dsimp only at hSw); go_simp; try with_reducible rfl)
      try simp only [Act.put, List.getElem_toArray, List.getElem_cons_zero, List.getElem_cons_succ, List.setIfInBounds_toArray, List.set_cons_zero, List.set_cons_succ]
      refine wpAnyH_take (i := 7) (v := ?_) rfl (by kernel_rfl) (by kernel_rfl) (by kernel_rfl) (fun _ _ _ h => h) (Or.inl ⟨by rfl, ?_⟩) hHeld ?_
      rotate_left 1
      · (intro w hSw; obtain ⟨s1, s2, s3⟩ := hSw; go_simp; try with_reducible rfl)
      try simp only [Act.put, List.getElem_toArray, List.getElem_cons_zero, List.getElem_cons_succ, List.setIfInBounds_toArray, List.set_cons_zero, List.set_cons_succ]
      refine wpAnyH_ready (rs := [8]) (by kernel_rfl) (by simp) (AllReadyH.cons rfl (fun K hK => ?_) AllReadyH.nil)
      clear hHeld
      go_simp
      refine (KL.out k k' _ HG3.out HD1.out HD2.out).mono ?_
      rintro e w6 ⟨rfl, hb⟩
      have HGB := hide (G.trans (G.drew (G.refl W2)) hb)
      clear hb
      go_wp2_with fail
      refine hK.out _ _ (HS.out _ HGB.out) (fun hHeld => ?_)
      clear hK K
      try simp only [Act.put, List.getElem_toArray, List.getElem_cons_zero, List.getElem_cons_succ, List.setIfInBounds_toArray, List.set_cons_zero, List.set_cons_succ]
      refine wpAnyH_take (i := 9) (v := ?_) rfl (by kernel_rfl) (by kernel_rfl) (by kernel_rfl) (fun _ _ _ h => h) (Or.inl ⟨by rfl, ?_⟩) hHeld ?_
      rotate_left 1
      · (intro w hSw; (try dsimp only at hSw); go_simp; try with_reducible rfl)
      try simp only [Act.put, List.getElem_toArray, List.getElem_cons_zero, List.getElem_cons_succ, List.setIfInBounds_toArray, List.set_cons_zero, List.set_cons_succ]
      refine wpAnyH_done (by kernel_rfl) ?_ _
      refine NoPanic.normal ?_
      clear HS HG3 x1 x2 y1 y2 KL
      go_wp2_with fail
      go_ret
      have e9 : Hp.ah lt (k, u) (k', u') = lt k k' := by simp only [Hp.ah]; rw [if_neg (by omega)]
      exact ⟨by rw [e9]; rfl, HG2.out.trans HGB.out⟩
    · go_wp2_with fail
      generalize hW2 : World.drew _ = W2
      have hz : W2.heap.size = W.heap.size + 2 := by rw [← hW2]; simp
      have hgW : G W W2 := by rw [← hW2]; exact (((G.refl W).alloc _).alloc _).drew
      have hb1 : ∀ o, W2.cell? ⟨W.heap.size + 1, o, none⟩ = [I k, I u][o]? := fun o => by rw [← hW2]; first | (simp; done) | simp [World.cell?_alloc_lt]
      have hb2 : ∀ o, W2.cell? ⟨W.heap.size, o, none⟩ = [I k', I u'][o]? := fun o => by rw [← hW2]; first | (simp; done) | simp [World.cell?_alloc_lt]
      have hh2 := hgW.cells hc hhl
      have HS : Hid (∀ V, G W2 V → (fun V => (∀ o, V.cell? ⟨h, o, none⟩ = [.func (.func 37) #[] #[ptr B], .slice (some ⟨g, 0, none⟩) l.length cap, I t][o]?) ∧ (∀ o, V.cell? ⟨W.heap.size + 1, o, none⟩ = [I k, I u][o]?) ∧ (∀ o, V.cell? ⟨W.heap.size, o, none⟩ = [I k', I u'][o]?)) V) := fun V q => ⟨q.cells hh2 (by omega), q.cells hb1 (by omega), q.cells hb2 (by omega)⟩
      have HG2 := hide hgW
      have HG3 := hide (HKG.out _ hgW.drew)
      clear hW2 hb1 hb2 hh2 hc hgW hz
      refine wp_region_noPanic ?_
      refine wp_region_held_drew (S := fun V => (∀ o, V.cell? ⟨h, o, none⟩ = [.func (.func 37) #[] #[ptr B], .slice (some ⟨g, 0, none⟩) l.length cap, I t][o]?) ∧ (∀ o, V.cell? ⟨W.heap.size + 1, o, none⟩ = [I k, I u][o]?) ∧ (∀ o, V.cell? ⟨W.heap.size, o, none⟩ = [I k', I u'][o]?)) (by kernel_rfl) (HS.out _ (G.drew (G.refl _))) (fun hHeld => ?_)
      refine wpAnyH_take (i := 0) (v := ?_) rfl (by kernel_rfl) (by kernel_rfl) (by kernel_rfl) (fun _ _ _ h => h) (Or.inl ⟨by rfl, ?_⟩) hHeld ?_
      rotate_left 1
      · (intro w hSw; (try dsimp only at hSw); go_simp; try with_reducible rfl)
      try simp only [Act.put, List.getElem_toArray, List.getElem_cons_zero, List.setIfInBounds_toArray, List.set_cons_zero, List.set_cons_succ]
      refine wpAnyH_take (i := 1) (v := ?_) rfl (by kernel_rfl) (by kernel_rfl) (by kernel_rfl) (fun _ _ _ h => h) (Or.inl ⟨by rfl, ?_⟩) hHeld ?_
      rotate_left 1
      · (intro w hSw; (try dsimp only at hSw); go_simp; try with_reducible rfl)
      try simp only [Act.put, List.getElem_toArray, List.getElem_cons_zero, List.getElem_cons_succ, List.setIfInBounds_toArray, List.set_cons_zero, List.set_cons_succ]
      refine wpAnyH_take (i := 2) (v := ?_) rfl (by kernel_rfl) (by kernel_rfl) (by kernel_rfl) (fun _ _ _ h => h) (Or.inl ⟨by rfl, ?_⟩) hHeld ?_
      rotate_left 1
      · (intro w hSw; (try dsimp only at hSw); go_simp; try with_reducible rfl)
      try simp only [Act.put, List.getElem_toArray, List.getElem_cons_zero, List.getElem_cons_succ, List.setIfInBounds_toArray, List.set_cons_zero, List.set_cons_succ]
      refine wpAnyH_take (i := 3) (v := ?_) rfl (by kernel_rfl) (by kernel_rfl) (by kernel_rfl) (fun _ _ _ h => h) (Or.inl ⟨by rfl, ?_⟩) hHeld ?_
      rotate_left 1
      · (intro w hSw; obtain ⟨s1, s2, s3⟩ := hSw; go_simp; try with_reducible rfl)
      try simp only [Act.put, List.getElem_toArray, List.getElem_cons_zero, List.getElem_cons_succ, List.setIfInBounds_toArray, List.set_cons_zero, List.set_cons_succ]
      refine wpAnyH_take (i := 4) (v := ?_) rfl (by kernel_rfl) (by kernel_rfl) (by kernel_rfl) (fun _ _ _ h => h) (Or.inl ⟨by rfl, ?_⟩) hHeld ?_
      rotate_left 1
      · (intro w hSw; (try dsimp only at hSw); go_simp; try with_reducible rfl)
      try simp only [Act.put, List.getElem_toArray, List.getElem_cons_zero, List.getElem_cons_succ, List.setIfInBounds_toArray, List.set_cons_zero, List.set_cons_succ]
      refine wpAnyH_take (i := 5) (v := ?_) rfl (by kernel_rfl) (by kernel_rfl) (by kernel_rfl) (fun _ _ _ h => h) (Or.inl ⟨by rfl, ?_⟩) hHeld ?_
      rotate_left 1
      · (intro w hSw; obtain ⟨s1, s2, s3⟩ := hSw; go_simp; try with_reducible rfl)
      try simp only [Act.put, List.getElem_toArray, List.getElem_cons_zero, List.getElem_cons_succ, List.setIfInBounds_toArray, List.set_cons_zero, List.set_cons_succ]
      refine wpAnyH_take (i := 6) (v := ?_) rfl (by kernel_rfl) (by kernel_rfl) (by kernel_rfl) (fun _ _ _ h => h) (Or.inl ⟨by rfl, ?_⟩) hHeld ?_
      rotate_left 1
      · (intro w hSw; (try dsimp only at hSw); go_simp; try with_reducible rfl)
      try simp only [Act.put, List.getElem_toArray, List.getElem_cons_zero, List.getElem_cons_succ, List.setIfInBounds_toArray, List.set_cons_zero, List.set_cons_succ]
      refine wpAnyH_take (i := 7) (v := ?_) rfl (by kernel_rfl) (by kernel_rfl) (by kernel_rfl) (fun _ _ _ h => h) (Or.inl ⟨by rfl, ?_⟩) hHeld ?_
      rotate_left 1
      · (intro w hSw; obtain ⟨s1, s2, s3⟩ := hSw; go_simp; try with_reducible rfl)
      try simp only [Act.put, List.getElem_toArray, List.getElem_cons_zero, List.getElem_cons_succ, List.setIfInBounds_toArray, List.set_cons_zero, List.set_cons_succ]
      refine wpAnyH_ready (rs := [8]) (by kernel_rfl) (by simp) (AllReadyH.cons rfl (fun K hK => ?_) AllReadyH.nil)
      clear hHeld
      go_simp
      refine (KL.out k k' _ HG3.out HD1.out HD2.out).mono ?_
      rintro e w6 ⟨rfl, hb⟩
      have HGB := hide (G.trans (G.drew (G.refl W2)) hb)
      clear hb
      go_wp2_with fail
      refine hK.out _ _ (HS.out _ HGB.out) (fun hHeld => ?_)
      clear hK K
      try simp only [Act.put, List.getElem_toArray, List.getElem_cons_zero, List.getElem_cons_succ, List.setIfInBounds_toArray, List.set_cons_zero, List.set_cons_succ]
      refine wpAnyH_take (i := 9) (v := ?_) rfl (by kernel_rfl) (by kernel_rfl) (by kernel_rfl) (fun _ _ _ h => h) (Or.inl ⟨by rfl, ?_⟩) hHeld ?_
      rotate_left 1
      · (intro w hSw; (try dsimp only at hSw); go_simp; try with_reducible rfl)
      try simp only [Act.put, List.getElem_toArray, List.getElem_cons_zero, List.getElem_cons_succ, List.setIfInBounds_toArray, List.set_cons_zero, List.set_cons_succ]
      refine wpAnyH_done (by kernel_rfl) ?_ _
      refine NoPanic.normal ?_
      clear HS HG3 x1 x2 y1 y2 KL
      go_wp2_with fail
      go_ret
      have e9 : Hp.ah lt (k, u) (k', u') = lt k k' := by simp only [Hp.ah]; rw [if_neg (by omega)]
      exact ⟨by rw [e9]; rfl, HG2.out.trans HGB.out⟩
end Go.Proofs.YtemkilffagjmcaaDoor
