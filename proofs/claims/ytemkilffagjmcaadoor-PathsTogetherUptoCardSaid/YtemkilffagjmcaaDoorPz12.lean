/- Paths: what orders the heap of a piece. -/
import Derived.Test.YtemkilffagjmcaaDoorPz11
import Derived.Test.YtemkilffagjmcaaDoorPi6
import Derived.Test.YtemkilffagjmcaaDoorPj3
import Derived.BigRegion
import Derived.BigQuiet
namespace Go.Proofs.YtemkilffagjmcaaDoor
open Go.RowKit
set_option maxRecDepth 100000 in
set_option maxHeartbeats 1000000 in
theorem ah_o (B : Nat) (K : World → Prop) (D : Int → Prop) (lt : Int → Int → Bool) (hKG : ∀ W W', K W → G W W' → K W') (hlt : ∀ (a b : Int) (W : World), K W → D a → D b → Calls Tryd.prog 32 #[I a, I b, ptr B] W fun e W' => e = .returned (.bool (lt a b)) ∧ G W W') : AhOk K D (.func (.func 32) #[] #[ptr B]) lt := by
  intro W h v l t i j hK hp hD hi hj hm
  obtain ⟨x, hx⟩ : ∃ x, l[i]? = some x := ⟨_, List.getElem?_eq_getElem hi⟩
  obtain ⟨y, hy⟩ : ∃ y, l[j]? = some y := ⟨_, List.getElem?_eq_getElem hj⟩
  have ex : l[i]! = x := by simp [hx]
  have ey : l[j]! = y := by simp [hy]
  rw [ex, ey]
  have HD1 := hide (hD x (List.mem_of_getElem? hx))
  have HD2 := hide (hD y (List.mem_of_getElem? hy))
  have hc := hp.blk.cell
  obtain ⟨g, cap, rfl⟩ : ∃ g cap, v = .slice (some ⟨g, 0, none⟩) l.length cap := by
    rcases hp.sl with ⟨_, rfl⟩ | ⟨g, cap, rest, rfl, _⟩
    · simp at hi
    · exact ⟨g, cap, rfl⟩
  obtain ⟨x1, x2⟩ := hp.sl.at hx
  obtain ⟨y1, y2⟩ := hp.sl.at hy
  have hgl : g < W.heap.size := hp.sl.lt rfl
  have hhl := hp.blk.lt
  have n1 : h < W.heap.size + 1 := by omega
  have n2 : g < W.heap.size + 1 := by omega
  obtain ⟨k, u⟩ := x
  obtain ⟨k', u'⟩ := y
  have KL := hide hlt
  have HKG : Hid (∀ W', G W W' → K W') := fun W' q => hKG W W' hK q
  clear hp hx hy ex ey hlt hKG hK hD
  by_cases hu : u < u'
  · go_enter Tryd.func50, Tryd.ntmps50
    go_wp2_with fail
    go_region
    · go_wp2_with fail
      generalize hW2 : World.drew _ = W2
      have hz : W2.heap.size = W.heap.size + 2 := by rw [← hW2]; simp
      have hgW : G W W2 := by rw [← hW2]; exact (((G.refl W).alloc _).alloc _).drew
      have hb1 : ∀ o, W2.cell? ⟨W.heap.size, o, none⟩ = [I k, I u][o]? := fun o => by rw [← hW2]; first | (simp; done) | simp [World.cell?_alloc_lt]
      have hb2 : ∀ o, W2.cell? ⟨W.heap.size + 1, o, none⟩ = [I k', I u'][o]? := fun o => by rw [← hW2]; first | (simp; done) | simp [World.cell?_alloc_lt]
      have hh2 := hgW.cells hc hhl
      have HS : Hid (∀ V, G W2 V → (fun V => (∀ o, V.cell? ⟨h, o, none⟩ = [.func (.func 32) #[] #[ptr B], .slice (some ⟨g, 0, none⟩) l.length cap, I t][o]?) ∧ (∀ o, V.cell? ⟨W.heap.size, o, none⟩ = [I k, I u][o]?) ∧ (∀ o, V.cell? ⟨W.heap.size + 1, o, none⟩ = [I k', I u'][o]?)) V) := fun V q => ⟨q.cells hh2 (by omega), q.cells hb1 (by omega), q.cells hb2 (by omega)⟩
      have HG2 := hide hgW
      have HG3 := hide (HKG.out _ hgW.drew)
      clear hW2 hb1 hb2 hh2 hc hgW hz
      refine wp_region_noPanic ?_
      refine wp_region_held_drew (S := fun V => (∀ o, V.cell? ⟨h, o, none⟩ = [.func (.func 32) #[] #[ptr B], .slice (some ⟨g, 0, none⟩) l.length cap, I t][o]?) ∧ (∀ o, V.cell? ⟨W.heap.size, o, none⟩ = [I k, I u][o]?) ∧ (∀ o, V.cell? ⟨W.heap.size + 1, o, none⟩ = [I k', I u'][o]?)) (by kernel_rfl) (HS.out _ (G.drew (G.refl _))) (fun hHeld => ?_)
      refine wpAnyH_take (i := 0) (v := ?_) rfl (by kernel_rfl) (by kernel_rfl) (by kernel_rfl) (fun _ _ _ h => h) (Or.inl ⟨by rfl, ?_⟩) hHeld ?_
      rotate_left 1
      · (intro w hSw; (try dsimp only at hSw); go_simp; try with_reducible rfl)
      try simp only [Act.put, List.getElem_toArray, List.getElem_cons_zero, List.setIfInBounds_toArray, List.set_cons_zero, List.set_cons_succ]
      refine wpAnyH_take (i := 1) (v := ?_) rfl (by kernel_rfl) (by kernel_rfl) (by kernel_rfl) (fun _ _ _ h => h) (Or.inl ⟨by rfl, ?_⟩) hHeld ?_
      rotate_left 1
      · (intro w hSw; (try dsimp only at hSw); go_simp; try with_reducible rfl)
      try simp only [Act.put, List.getElem_toArray, List.getElem_cons_zero, List.getElem_cons_succ, List.setIfInBounds_toArray, List.set_cons_zero, List.set_cons_succ]
      refine wpAnyH_take (i := 2) (v := ?_) rfl (by kernel_rfl) (by kernel_rfl) (by kernel_rfl) (fun _ _ _ h => h) (Or.inl ⟨by rfl, ?_⟩) hHeld ?_
      rotate_left 1
      · (intro w hSw; (try dsimp only at hSw); go_simp; try with_reducible rfl)
      try simp only [Act.put, List.getElem_toArray, List.getElem_cons_zero, List.getElem_cons_succ, List.setIfInBounds_toArray, List.set_cons_zero, List.set_cons_succ]
      refine wpAnyH_take (i := 3) (v := ?_) rfl (by kernel_rfl) (by kernel_rfl) (by kernel_rfl) (fun _ _ _ h => h) (Or.inl ⟨by rfl, ?_⟩) hHeld ?_
      rotate_left 1
      · (intro w hSw; obtain ⟨s1, s2, s3⟩ := hSw; go_simp; try with_reducible rfl)
      try simp only [Act.put, List.getElem_toArray, List.getElem_cons_zero, List.getElem_cons_succ, List.setIfInBounds_toArray, List.set_cons_zero, List.set_cons_succ]
      refine wpAnyH_take (i := 4) (v := ?_) rfl (by kernel_rfl) (by kernel_rfl) (by kernel_rfl) (fun _ _ _ h => h) (Or.inl ⟨by rfl, ?_⟩) hHeld ?_
      rotate_left 1
      · (intro w hSw; (try dsimp only at hSw); go_simp; try with_reducible rfl)
      try simp only [Act.put, List.getElem_toArray, List.getElem_cons_zero, List.getElem_cons_succ, List.setIfInBounds_toArray, List.set_cons_zero, List.set_cons_succ]
      refine wpAnyH_take (i := 5) (v := ?_) rfl (by kernel_rfl) (by kernel_rfl) (by kernel_rfl) (fun _ _ _ h => h) (Or.inl ⟨by rfl, ?_⟩) hHeld ?_
      rotate_left 1
      · (intro w hSw; obtain ⟨s1, s2, s3⟩ := hSw; go_simp; try with_reducible rfl)
      try simp only [Act.put, List.getElem_toArray, List.getElem_cons_zero, List.getElem_cons_succ, List.setIfInBounds_toArray, List.set_cons_zero, List.set_cons_succ]
      refine wpAnyH_take (i := 6) (v := ?_) rfl (by kernel_rfl) (by kernel_rfl) (by kernel_rfl) (fun _ _ _ h => h) (Or.inl ⟨by rfl, ?_⟩) hHeld ?_
      rotate_left 1
      · (intro w hSw; (try dsimp only at hSw); go_simp; try with_reducible rfl)
      try simp only [Act.put, List.getElem_toArray, List.getElem_cons_zero, List.getElem_cons_succ, List.setIfInBounds_toArray, List.set_cons_zero, List.set_cons_succ]
      refine wpAnyH_take (i := 7) (v := ?_) rfl (by kernel_rfl) (by kernel_rfl) (by kernel_rfl) (fun _ _ _ h => h) (Or.inl ⟨by rfl, ?_⟩) hHeld ?_
      rotate_left 1
      · (intro w hSw; obtain ⟨s1, s2, s3⟩ := hSw; go_simp; try with_reducible rfl)
      try simp only [Act.put, List.getElem_toArray, List.getElem_cons_zero, List.getElem_cons_succ, List.setIfInBounds_toArray, List.set_cons_zero, List.set_cons_succ]
      refine wpAnyH_ready (rs := [8]) (by kernel_rfl) (by simp) (AllReadyH.cons rfl (fun K hK => ?_) AllReadyH.nil)
      clear hHeld
      go_simp
      refine (KL.out k' k _ HG3.out HD2.out HD1.out).mono ?_
      rintro e w6 ⟨rfl, hb⟩
      have HGB := hide (G.trans (G.drew (G.refl W2)) hb)
      clear hb
      go_wp2_with fail
      refine hK.out _ _ (HS.out _ HGB.out) (fun hHeld => ?_)
      clear hK K
      try simp only [Act.put, List.getElem_toArray, List.getElem_cons_zero, List.getElem_cons_succ, List.setIfInBounds_toArray, List.set_cons_zero, List.set_cons_succ]
      refine wpAnyH_take (i := 9) (v := ?_) rfl (by kernel_rfl) (by kernel_rfl) (by kernel_rfl) (fun _ _ _ h => h) (Or.inl ⟨by rfl, ?_⟩) hHeld ?_
      rotate_left 1
      · (intro w hSw; (try dsimp only at hSw); go_simp; try with_reducible rfl)
      try simp only [Act.put, List.getElem_toArray, List.getElem_cons_zero, List.getElem_cons_succ, List.setIfInBounds_toArray, List.set_cons_zero, List.set_cons_succ]
      refine wpAnyH_take (i := 10) (v := ?_) rfl (by kernel_rfl) (by kernel_rfl) (by kernel_rfl) (fun _ _ _ h => h) (Or.inl ⟨by rfl, ?_⟩) hHeld ?_
      rotate_left 1
      · (intro w hSw; (try dsimp only at hSw); go_simp; try with_reducible rfl)
      try simp only [Act.put, List.getElem_toArray, List.getElem_cons_zero, List.getElem_cons_succ, List.setIfInBounds_toArray, List.set_cons_zero, List.set_cons_succ]
      refine wpAnyH_done (by kernel_rfl) ?_ _
      refine NoPanic.normal ?_
      clear HS HG3 x1 x2 y1 y2 KL
      go_wp2_with fail
      go_ret
      exact ⟨by simp [Hp.ah, hu], HG2.out.trans HGB.out⟩
    · go_wp2_with fail
      generalize hW2 : World.drew _ = W2
      have hz : W2.heap.size = W.heap.size + 2 := by rw [← hW2]; simp
      have hgW : G W W2 := by rw [← hW2]; exact (((G.refl W).alloc _).alloc _).drew
      have hb1 : ∀ o, W2.cell? ⟨W.heap.size + 1, o, none⟩ = [I k, I u][o]? := fun o => by rw [← hW2]; first | (simp; done) | simp [World.cell?_alloc_lt]
      have hb2 : ∀ o, W2.cell? ⟨W.heap.size, o, none⟩ = [I k', I u'][o]? := fun o => by rw [← hW2]; first | (simp; done) | simp [World.cell?_alloc_lt]
      have hh2 := hgW.cells hc hhl
      have HS : Hid (∀ V, G W2 V → (fun V => (∀ o, V.cell? ⟨h, o, none⟩ = [.func (.func 32) #[] #[ptr B], .slice (some ⟨g, 0, none⟩) l.length cap, I t][o]?) ∧ (∀ o, V.cell? ⟨W.heap.size + 1, o, none⟩ = [I k, I u][o]?) ∧ (∀ o, V.cell? ⟨W.heap.size, o, none⟩ = [I k', I u'][o]?)) V) := fun V q => ⟨q.cells hh2 (by omega), q.cells hb1 (by omega), q.cells hb2 (by omega)⟩
      have HG2 := hide hgW
      have HG3 := hide (HKG.out _ hgW.drew)
      clear hW2 hb1 hb2 hh2 hc hgW hz
      refine wp_region_noPanic ?_
      refine wp_region_held_drew (S := fun V => (∀ o, V.cell? ⟨h, o, none⟩ = [.func (.func 32) #[] #[ptr B], .slice (some ⟨g, 0, none⟩) l.length cap, I t][o]?) ∧ (∀ o, V.cell? ⟨W.heap.size + 1, o, none⟩ = [I k, I u][o]?) ∧ (∀ o, V.cell? ⟨W.heap.size, o, none⟩ = [I k', I u'][o]?)) (by kernel_rfl) (HS.out _ (G.drew (G.refl _))) (fun hHeld => ?_)
      refine wpAnyH_take (i := 0) (v := ?_) rfl (by kernel_rfl) (by kernel_rfl) (by kernel_rfl) (fun _ _ _ h => h) (Or.inl ⟨by rfl, ?_⟩) hHeld ?_
      rotate_left 1
      · (intro w hSw; (try dsimp only at hSw); go_simp; try with_reducible rfl)
      try simp only [Act.put, List.getElem_toArray, List.getElem_cons_zero, List.setIfInBounds_toArray, List.set_cons_zero, List.set_cons_succ]
      refine wpAnyH_take (i := 1) (v := ?_) rfl (by kernel_rfl) (by kernel_rfl) (by kernel_rfl) (fun _ _ _ h => h) (Or.inl ⟨by rfl, ?_⟩) hHeld ?_
      rotate_left 1
      · (intro w hSw; (try dsimp only at hSw); go_simp; try with_reducible rfl)
      try simp only [Act.put, List.getElem_toArray, List.getElem_cons_zero, List.getElem_cons_succ, List.setIfInBounds_toArray, List.set_cons_zero, List.set_cons_succ]
      refine wpAnyH_take (i := 2) (v := ?_) rfl (by kernel_rfl) (by kernel_rfl) (by kernel_rfl) (fun _ _ _ h => h) (Or.inl ⟨by rfl, ?_⟩) hHeld ?_
      rotate_left 1
      · (intro w hSw; (try dsimp only at hSw); go_simp; try with_reducible rfl)
      try simp only [Act.put, List.getElem_toArray, List.getElem_cons_zero, List.getElem_cons_succ, List.setIfInBounds_toArray, List.set_cons_zero, List.set_cons_succ]
      refine wpAnyH_take (i := 3) (v := ?_) rfl (by kernel_rfl) (by kernel_rfl) (by kernel_rfl) (fun _ _ _ h => h) (Or.inl ⟨by rfl, ?_⟩) hHeld ?_
      rotate_left 1
      · (intro w hSw; obtain ⟨s1, s2, s3⟩ := hSw; go_simp; try with_reducible rfl)
      try simp only [Act.put, List.getElem_toArray, List.getElem_cons_zero, List.getElem_cons_succ, List.setIfInBounds_toArray, List.set_cons_zero, List.set_cons_succ]
      refine wpAnyH_take (i := 4) (v := ?_) rfl (by kernel_rfl) (by kernel_rfl) (by kernel_rfl) (fun _ _ _ h => h) (Or.inl ⟨by rfl, ?_⟩) hHeld ?_
      rotate_left 1
      · (intro w hSw; (try dsimp only at hSw); go_simp; try with_reducible rfl)
      try simp only [Act.put, List.getElem_toArray, List.getElem_cons_zero, List.getElem_cons_succ, List.setIfInBounds_toArray, List.set_cons_zero, List.set_cons_succ]
      refine wpAnyH_take (i := 5) (v := ?_) rfl (by kernel_rfl) (by kernel_rfl) (by kernel_rfl) (fun _ _ _ h => h) (Or.inl ⟨by rfl, ?_⟩) hHeld ?_
      rotate_left 1
      · (intro w hSw; obtain ⟨s1, s2, s3⟩ := hSw; go_simp; try with_reducible rfl)
      try simp only [Act.put, List.getElem_toArray, List.getElem_cons_zero, List.getElem_cons_succ, List.setIfInBounds_toArray, List.set_cons_zero, List.set_cons_succ]
      refine wpAnyH_take (i := 6) (v := ?_) rfl (by kernel_rfl) (by kernel_rfl) (by kernel_rfl) (fun _ _ _ h => h) (Or.inl ⟨by rfl, ?_⟩) hHeld ?_
      rotate_left 1
      · (intro w hSw; (try dsimp only at hSw); go_simp; try with_reducible rfl)
      try simp only [Act.put, List.getElem_toArray, List.getElem_cons_zero, List.getElem_cons_succ, List.setIfInBounds_toArray, List.set_cons_zero, List.set_cons_succ]
      refine wpAnyH_take (i := 7) (v := ?_) rfl (by kernel_rfl) (by kernel_rfl) (by kernel_rfl) (fun _ _ _ h => h) (Or.inl ⟨by rfl, ?_⟩) hHeld ?_
      rotate_left 1
      · (intro w hSw; obtain ⟨s1, s2, s3⟩ := hSw; go_simp; try with_reducible rfl)
      try simp only [Act.put, List.getElem_toArray, List.getElem_cons_zero, List.getElem_cons_succ, List.setIfInBounds_toArray, List.set_cons_zero, List.set_cons_succ]
      refine wpAnyH_ready (rs := [8]) (by kernel_rfl) (by simp) (AllReadyH.cons rfl (fun K hK => ?_) AllReadyH.nil)
      clear hHeld
      go_simp
      refine (KL.out k' k _ HG3.out HD2.out HD1.out).mono ?_
      rintro e w6 ⟨rfl, hb⟩
      have HGB := hide (G.trans (G.drew (G.refl W2)) hb)
      clear hb
      go_wp2_with fail
      refine hK.out _ _ (HS.out _ HGB.out) (fun hHeld => ?_)
      clear hK K
      try simp only [Act.put, List.getElem_toArray, List.getElem_cons_zero, List.getElem_cons_succ, List.setIfInBounds_toArray, List.set_cons_zero, List.set_cons_succ]
      refine wpAnyH_take (i := 9) (v := ?_) rfl (by kernel_rfl) (by kernel_rfl) (by kernel_rfl) (fun _ _ _ h => h) (Or.inl ⟨by rfl, ?_⟩) hHeld ?_
      rotate_left 1
      · (intro w hSw; (try dsimp only at hSw); go_simp; try with_reducible rfl)
      try simp only [Act.put, List.getElem_toArray, List.getElem_cons_zero, List.getElem_cons_succ, List.setIfInBounds_toArray, List.set_cons_zero, List.set_cons_succ]
      refine wpAnyH_take (i := 10) (v := ?_) rfl (by kernel_rfl) (by kernel_rfl) (by kernel_rfl) (fun _ _ _ h => h) (Or.inl ⟨by rfl, ?_⟩) hHeld ?_
      rotate_left 1
      · (intro w hSw; (try dsimp only at hSw); go_simp; try with_reducible rfl)
      try simp only [Act.put, List.getElem_toArray, List.getElem_cons_zero, List.getElem_cons_succ, List.setIfInBounds_toArray, List.set_cons_zero, List.set_cons_succ]
      refine wpAnyH_done (by kernel_rfl) ?_ _
      refine NoPanic.normal ?_
      clear HS HG3 x1 x2 y1 y2 KL
      go_wp2_with fail
      go_ret
      exact ⟨by simp [Hp.ah, hu], HG2.out.trans HGB.out⟩
  · go_enter Tryd.func50, Tryd.ntmps50
    go_wp2_with fail
    go_region
    · go_wp2_with fail
      generalize hW2 : World.drew _ = W2
      have hz : W2.heap.size = W.heap.size + 2 := by rw [← hW2]; simp
      have hgW : G W W2 := by rw [← hW2]; exact (((G.refl W).alloc _).alloc _).drew
      have hb1 : ∀ o, W2.cell? ⟨W.heap.size, o, none⟩ = [I k, I u][o]? := fun o => by rw [← hW2]; first | (simp; done) | simp [World.cell?_alloc_lt]
      have hb2 : ∀ o, W2.cell? ⟨W.heap.size + 1, o, none⟩ = [I k', I u'][o]? := fun o => by rw [← hW2]; first | (simp; done) | simp [World.cell?_alloc_lt]
      have hh2 := hgW.cells hc hhl
      have HS : Hid (∀ V, G W2 V → (fun V => (∀ o, V.cell? ⟨h, o, none⟩ = [.func (.func 32) #[] #[ptr B], .slice (some ⟨g, 0, none⟩) l.length cap, I t][o]?) ∧ (∀ o, V.cell? ⟨W.heap.size, o, none⟩ = [I k, I u][o]?) ∧ (∀ o, V.cell? ⟨W.heap.size + 1, o, none⟩ = [I k', I u'][o]?)) V) := fun V q => ⟨q.cells hh2 (by omega), q.cells hb1 (by omega), q.cells hb2 (by omega)⟩
      have HG2 := hide hgW
      have HG3 := hide (HKG.out _ hgW.drew)
      clear hW2 hb1 hb2 hh2 hc hgW hz
      refine wp_region_noPanic ?_
      refine wp_region_held_drew (S := fun V => (∀ o, V.cell? ⟨h, o, none⟩ = [.func (.func 32) #[] #[ptr B], .slice (some ⟨g, 0, none⟩) l.length cap, I t][o]?) ∧ (∀ o, V.cell? ⟨W.heap.size, o, none⟩ = [I k, I u][o]?) ∧ (∀ o, V.cell? ⟨W.heap.size + 1, o, none⟩ = [I k', I u'][o]?)) (by kernel_rfl) (HS.out _ (G.drew (G.refl _))) (fun hHeld => ?_)
      refine wpAnyH_take (i := 0) (v := ?_) rfl (by kernel_rfl) (by kernel_rfl) (by kernel_rfl) (fun _ _ _ h => h) (Or.inl ⟨by rfl, ?_⟩) hHeld ?_
      rotate_left 1
      · (intro w hSw; (try dsimp only at hSw); go_simp; try with_reducible rfl)
      try simp only [Act.put, List.getElem_toArray, List.getElem_cons_zero, List.setIfInBounds_toArray, List.set_cons_zero, List.set_cons_succ]
      refine wpAnyH_take (i := 1) (v := ?_) rfl (by kernel_rfl) (by kernel_rfl) (by kernel_rfl) (fun _ _ _ h => h) (Or.inl ⟨by rfl, ?_⟩) hHeld ?_
      rotate_left 1
      · (intro w hSw; (try dsimp only at hSw); go_simp; try with_reducible rfl)
      try simp only [Act.put, List.getElem_toArray, List.getElem_cons_zero, List.getElem_cons_succ, List.setIfInBounds_toArray, List.set_cons_zero, List.set_cons_succ]
      refine wpAnyH_take (i := 2) (v := ?_) rfl (by kernel_rfl) (by kernel_rfl) (by kernel_rfl) (fun _ _ _ h => h) (Or.inl ⟨by rfl, ?_⟩) hHeld ?_
      rotate_left 1
      · (intro w hSw; (try dsimp only at hSw); go_simp; try with_reducible rfl)
      try simp only [Act.put, List.getElem_toArray, List.getElem_cons_zero, List.getElem_cons_succ, List.setIfInBounds_toArray, List.set_cons_zero, List.set_cons_succ]
      refine wpAnyH_take (i := 3) (v := ?_) rfl (by kernel_rfl) (by kernel_rfl) (by kernel_rfl) (fun _ _ _ h => h) (Or.inl ⟨by rfl, ?_⟩) hHeld ?_
      rotate_left 1
      · (intro w hSw; obtain ⟨s1, s2, s3⟩ := hSw; go_simp; try with_reducible rfl)
      try simp only [Act.put, List.getElem_toArray, List.getElem_cons_zero, List.getElem_cons_succ, List.setIfInBounds_toArray, List.set_cons_zero, List.set_cons_succ]
      refine wpAnyH_take (i := 4) (v := ?_) rfl (by kernel_rfl) (by kernel_rfl) (by kernel_rfl) (fun _ _ _ h => h) (Or.inl ⟨by rfl, ?_⟩) hHeld ?_
      rotate_left 1
      · (intro w hSw; (try dsimp only at hSw); go_simp; try with_reducible rfl)
      try simp only [Act.put, List.getElem_toArray, List.getElem_cons_zero, List.getElem_cons_succ, List.setIfInBounds_toArray, List.set_cons_zero, List.set_cons_succ]
      refine wpAnyH_take (i := 5) (v := ?_) rfl (by kernel_rfl) (by kernel_rfl) (by kernel_rfl) (fun _ _ _ h => h) (Or.inl ⟨by rfl, ?_⟩) hHeld ?_
      rotate_left 1
      · (intro w hSw; obtain ⟨s1, s2, s3⟩ := hSw; go_simp; try with_reducible rfl)
      try simp only [Act.put, List.getElem_toArray, List.getElem_cons_zero, List.getElem_cons_succ, List.setIfInBounds_toArray, List.set_cons_zero, List.set_cons_succ]
      refine wpAnyH_take (i := 6) (v := ?_) rfl (by kernel_rfl) (by kernel_rfl) (by kernel_rfl) (fun _ _ _ h => h) (Or.inl ⟨by rfl, ?_⟩) hHeld ?_
      rotate_left 1
      · (intro w hSw; (try dsimp only at hSw); go_simp; try with_reducible rfl)
      try simp only [Act.put, List.getElem_toArray, List.getElem_cons_zero, List.getElem_cons_succ, List.setIfInBounds_toArray, List.set_cons_zero, List.set_cons_succ]
      refine wpAnyH_take (i := 7) (v := ?_) rfl (by kernel_rfl) (by kernel_rfl) (by kernel_rfl) (fun _ _ _ h => h) (Or.inl ⟨by rfl, ?_⟩) hHeld ?_
      rotate_left 1
      · (intro w hSw; obtain ⟨s1, s2, s3⟩ := hSw; go_simp; try with_reducible rfl)
      try simp only [Act.put, List.getElem_toArray, List.getElem_cons_zero, List.getElem_cons_succ, List.setIfInBounds_toArray, List.set_cons_zero, List.set_cons_succ]
      refine wpAnyH_ready (rs := [8]) (by kernel_rfl) (by simp) (AllReadyH.cons rfl (fun K hK => ?_) AllReadyH.nil)
      clear hHeld
      go_simp
      refine (KL.out k k' _ HG3.out HD1.out HD2.out).mono ?_
      rintro e w6 ⟨rfl, hb⟩
      have HGB := hide (G.trans (G.drew (G.refl W2)) hb)
      clear hb
      go_wp2_with fail
      refine hK.out _ _ (HS.out _ HGB.out) (fun hHeld => ?_)
      clear hK K
      try simp only [Act.put, List.getElem_toArray, List.getElem_cons_zero, List.getElem_cons_succ, List.setIfInBounds_toArray, List.set_cons_zero, List.set_cons_succ]
      refine wpAnyH_take (i := 9) (v := ?_) rfl (by kernel_rfl) (by kernel_rfl) (by kernel_rfl) (fun _ _ _ h => h) (Or.inl ⟨by rfl, ?_⟩) hHeld ?_
      rotate_left 1
      · (intro w hSw; (try dsimp only at hSw); go_simp; try with_reducible rfl)
      try simp only [Act.put, List.getElem_toArray, List.getElem_cons_zero, List.getElem_cons_succ, List.setIfInBounds_toArray, List.set_cons_zero, List.set_cons_succ]
      refine wpAnyH_done (by kernel_rfl) ?_ _
      refine NoPanic.normal ?_
      clear HS HG3 x1 x2 y1 y2 KL
      go_wp2_with fail
      go_ret
      have e9 : Hp.ah lt (k, u) (k', u') = lt k k' := by simp only [Hp.ah]; rw [if_neg (by omega)]
      exact ⟨by rw [e9]; rfl, HG2.out.trans HGB.out⟩
    · go_wp2_with fail
      generalize hW2 : World.drew _ = W2
      have hz : W2.heap.size = W.heap.size + 2 := by rw [← hW2]; simp
      have hgW : G W W2 := by rw [← hW2]; exact (((G.refl W).alloc _).alloc _).drew
      have hb1 : ∀ o, W2.cell? ⟨W.heap.size + 1, o, none⟩ = [I k, I u][o]? := fun o => by rw [← hW2]; first | (simp; done) | simp [World.cell?_alloc_lt]
      have hb2 : ∀ o, W2.cell? ⟨W.heap.size, o, none⟩ = [I k', I u'][o]? := fun o => by rw [← hW2]; first | (simp; done) | simp [World.cell?_alloc_lt]
      have hh2 := hgW.cells hc hhl
      have HS : Hid (∀ V, G W2 V → (fun V => (∀ o, V.cell? ⟨h, o, none⟩ = [.func (.func 32) #[] #[ptr B], .slice (some ⟨g, 0, none⟩) l.length cap, I t][o]?) ∧ (∀ o, V.cell? ⟨W.heap.size + 1, o, none⟩ = [I k, I u][o]?) ∧ (∀ o, V.cell? ⟨W.heap.size, o, none⟩ = [I k', I u'][o]?)) V) := fun V q => ⟨q.cells hh2 (by omega), q.cells hb1 (by omega), q.cells hb2 (by omega)⟩
      have HG2 := hide hgW
      have HG3 := hide (HKG.out _ hgW.drew)
      clear hW2 hb1 hb2 hh2 hc hgW hz
      refine wp_region_noPanic ?_
      refine wp_region_held_drew (S := fun V => (∀ o, V.cell? ⟨h, o, none⟩ = [.func (.func 32) #[] #[ptr B], .slice (some ⟨g, 0, none⟩) l.length cap, I t][o]?) ∧ (∀ o, V.cell? ⟨W.heap.size + 1, o, none⟩ = [I k, I u][o]?) ∧ (∀ o, V.cell? ⟨W.heap.size, o, none⟩ = [I k', I u'][o]?)) (by kernel_rfl) (HS.out _ (G.drew (G.refl _))) (fun hHeld => ?_)
      refine wpAnyH_take (i := 0) (v := ?_) rfl (by kernel_rfl) (by kernel_rfl) (by kernel_rfl) (fun _ _ _ h => h) (Or.inl ⟨by rfl, ?_⟩) hHeld ?_
      rotate_left 1
      · (intro w hSw; (try dsimp only at hSw); go_simp; try with_reducible rfl)
      try simp only [Act.put, List.getElem_toArray, List.getElem_cons_zero, List.setIfInBounds_toArray, List.set_cons_zero, List.set_cons_succ]
      refine wpAnyH_take (i := 1) (v := ?_) rfl (by kernel_rfl) (by kernel_rfl) (by kernel_rfl) (fun _ _ _ h => h) (Or.inl ⟨by rfl, ?_⟩) hHeld ?_
      rotate_left 1
      · (intro w hSw; (try dsimp only at hSw); go_simp; try with_reducible rfl)
      try simp only [Act.put, List.getElem_toArray, List.getElem_cons_zero, List.getElem_cons_succ, List.setIfInBounds_toArray, List.set_cons_zero, List.set_cons_succ]
      refine wpAnyH_take (i := 2) (v := ?_) rfl (by kernel_rfl) (by kernel_rfl) (by kernel_rfl) (fun _ _ _ h => h) (Or.inl ⟨by rfl, ?_⟩) hHeld ?_
      rotate_left 1
      · (intro w hSw; (try dsimp only at hSw); go_simp; try with_reducible rfl)
      try simp only [Act.put, List.getElem_toArray, List.getElem_cons_zero, List.getElem_cons_succ, List.setIfInBounds_toArray, List.set_cons_zero, List.set_cons_succ]
      refine wpAnyH_take (i := 3) (v := ?_) rfl (by kernel_rfl) (by kernel_rfl) (by kernel_rfl) (fun _ _ _ h => h) (Or.inl ⟨by rfl, ?_⟩) hHeld ?_
      rotate_left 1
      · (intro w hSw; obtain ⟨s1, s2, s3⟩ := hSw; go_simp; try with_reducible rfl)
      try simp only [Act.put, List.getElem_toArray, List.getElem_cons_zero, List.getElem_cons_succ, List.setIfInBounds_toArray, List.set_cons_zero, List.set_cons_succ]
      refine wpAnyH_take (i := 4) (v := ?_) rfl (by kernel_rfl) (by kernel_rfl) (by kernel_rfl) (fun _ _ _ h => h) (Or.inl ⟨by rfl, ?_⟩) hHeld ?_
      rotate_left 1
      · (intro w hSw; (try dsimp only at hSw); go_simp; try with_reducible rfl)
      try simp only [Act.put, List.getElem_toArray, List.getElem_cons_zero, List.getElem_cons_succ, List.setIfInBounds_toArray, List.set_cons_zero, List.set_cons_succ]
      refine wpAnyH_take (i := 5) (v := ?_) rfl (by kernel_rfl) (by kernel_rfl) (by kernel_rfl) (fun _ _ _ h => h) (Or.inl ⟨by rfl, ?_⟩) hHeld ?_
      rotate_left 1
      · (intro w hSw; obtain ⟨s1, s2, s3⟩ := hSw; go_simp; try with_reducible rfl)
      try simp only [Act.put, List.getElem_toArray, List.getElem_cons_zero, List.getElem_cons_succ, List.setIfInBounds_toArray, List.set_cons_zero, List.set_cons_succ]
      refine wpAnyH_take (i := 6) (v := ?_) rfl (by kernel_rfl) (by kernel_rfl) (by kernel_rfl) (fun _ _ _ h => h) (Or.inl ⟨by rfl, ?_⟩) hHeld ?_
      rotate_left 1
      · (intro w hSw; (try dsimp only at hSw); go_simp; try with_reducible rfl)
      try simp only [Act.put, List.getElem_toArray, List.getElem_cons_zero, List.getElem_cons_succ, List.setIfInBounds_toArray, List.set_cons_zero, List.set_cons_succ]
      refine wpAnyH_take (i := 7) (v := ?_) rfl (by kernel_rfl) (by kernel_rfl) (by kernel_rfl) (fun _ _ _ h => h) (Or.inl ⟨by rfl, ?_⟩) hHeld ?_
      rotate_left 1
      · (intro w hSw; obtain ⟨s1, s2, s3⟩ := hSw; go_simp; try with_reducible rfl)
      try simp only [Act.put, List.getElem_toArray, List.getElem_cons_zero, List.getElem_cons_succ, List.setIfInBounds_toArray, List.set_cons_zero, List.set_cons_succ]
      refine wpAnyH_ready (rs := [8]) (by kernel_rfl) (by simp) (AllReadyH.cons rfl (fun K hK => ?_) AllReadyH.nil)
      clear hHeld
      go_simp
      refine (KL.out k k' _ HG3.out HD1.out HD2.out).mono ?_
      rintro e w6 ⟨rfl, hb⟩
      have HGB := hide (G.trans (G.drew (G.refl W2)) hb)
      clear hb
      go_wp2_with fail
      refine hK.out _ _ (HS.out _ HGB.out) (fun hHeld => ?_)
      clear hK K
      try simp only [Act.put, List.getElem_toArray, List.getElem_cons_zero, List.getElem_cons_succ, List.setIfInBounds_toArray, List.set_cons_zero, List.set_cons_succ]
      refine wpAnyH_take (i := 9) (v := ?_) rfl (by kernel_rfl) (by kernel_rfl) (by kernel_rfl) (fun _ _ _ h => h) (Or.inl ⟨by rfl, ?_⟩) hHeld ?_
      rotate_left 1
      · (intro w hSw; (try dsimp only at hSw); go_simp; try with_reducible rfl)
      try simp only [Act.put, List.getElem_toArray, List.getElem_cons_zero, List.getElem_cons_succ, List.setIfInBounds_toArray, List.set_cons_zero, List.set_cons_succ]
      refine wpAnyH_done (by kernel_rfl) ?_ _
      refine NoPanic.normal ?_
      clear HS HG3 x1 x2 y1 y2 KL
      go_wp2_with fail
      go_ret
      have e9 : Hp.ah lt (k, u) (k', u') = lt k k' := by simp only [Hp.ah]; rw [if_neg (by omega)]
      exact ⟨by rw [e9]; rfl, HG2.out.trans HGB.out⟩

/-- By the ids. -/
def ltP (ids : List Int) (a b : Int) : Bool := decide (ids[a.toNat]! < ids[b.toNat]!)
/-- What the closure reads. -/
structure KP (B pb : Nat) (iv : Value) (lo : Nat) (ids : List Int) (W : World) : Prop where
  box : Blk W B 54 [ptr pb]
  blk : ∃ a b, Blk W pb 61 [iv, a, b]
  ids : Rw lo 2 1 W iv ids.length (ids.map I)
theorem KP.G {B pb : Nat} {iv : Value} {lo : Nat} {ids : List Int} {W W' : World} (h : KP B pb iv lo ids W) (g : Go.Proofs.YtemkilffagjmcaaDoor.G W W') : KP B pb iv lo ids W' := by
  obtain ⟨a, b, hb⟩ := h.blk
  exact ⟨h.box.G g, ⟨a, b, hb.G g⟩, Rw.G h.ids g⟩
set_option maxRecDepth 100000 in
set_option maxHeartbeats 1000000 in
theorem ltp_any (B pb : Nat) (iv : Value) (lo : Nat) (ids : List Int) (a b : Int) (W : World) (hk : KP B pb iv lo ids W) (ha : 0 ≤ a ∧ a < ids.length) (hb : 0 ≤ b ∧ b < ids.length) : Calls Tryd.prog 32 #[I a, I b, ptr B] W fun e W' => e = .returned (.bool (ltP ids a b)) ∧ G W W' := by
  obtain ⟨i, rfl⟩ : ∃ i : Nat, a = i := ⟨a.toNat, by omega⟩
  obtain ⟨j, rfl⟩ : ∃ j : Nat, b = j := ⟨b.toNat, by omega⟩
  have hi : i < ids.length := by omega
  have hj : j < ids.length := by omega
  obtain ⟨x, hx⟩ : ∃ x, ids[i]? = some x := ⟨_, List.getElem?_eq_getElem hi⟩
  obtain ⟨y, hy⟩ : ∃ y, ids[j]? = some y := ⟨_, List.getElem?_eq_getElem hj⟩
  have hlt : ltP ids i j = decide (x < y) := by
    have e1 : ids[i]! = x := by simp [hx]
    have e2 : ids[j]! = y := by simp [hy]
    simp only [ltP, Int.toNat_natCast, e1, e2]
  rw [hlt]
  obtain ⟨u1, u2, hpb⟩ := hk.blk
  obtain ⟨g, cap, rfl, -, hc, -⟩ := hk.ids.cell (by omega)
  have x1 : W.cell? ⟨g, i, none⟩ = some (I x) := by rw [hc i (by omega), List.getElem?_map, hx]; rfl
  have y1 : W.cell? ⟨g, j, none⟩ = some (I y) := by rw [hc j (by omega), List.getElem?_map, hy]; rfl
  have hB := hk.box.cell
  have hS := hpb.cell
  have i1 : (i : Int) < ids.length := ha.2
  have i2 : (j : Int) < ids.length := hb.2
  clear hlt hx hy hk hpb hc ha hb hi hj
  by_cases c1 : x < y
  · have d1 : decide (x < y) = true := decide_eq_true c1
    rw [d1]
    go_enter Tryd.func32, Tryd.ntmps32
    go_wp2_with fail
    go_quiet (fail)
    go_wp2_with fail
    go_ret
    exact ⟨by first | rfl | simp [d1], g_drewN _ _⟩
  · have d1 : decide (x < y) = false := decide_eq_false c1
    rw [d1]
    go_enter Tryd.func32, Tryd.ntmps32
    go_wp2_with fail
    go_quiet (fail)
    go_wp2_with fail
    go_ret
    exact ⟨by first | rfl | simp [d1], g_drewN _ _⟩
theorem ahP (B pb : Nat) (iv : Value) (lo : Nat) (ids : List Int) : AhOk (KP B pb iv lo ids) (fun a => 0 ≤ a ∧ a < ids.length) (.func (.func 32) #[] #[ptr B]) (ltP ids) :=
  ah_o B (KP B pb iv lo ids) (fun a => 0 ≤ a ∧ a < ids.length) (ltP ids) (fun _ _ h g => h.G g) (fun a b W h ha hb => ltp_any B pb iv lo ids a b W h ha hb)
set_option maxRecDepth 100000 in
set_option maxHeartbeats 1000000 in
theorem nho_any (B : Nat) (W : World) : Calls Tryd.prog 31 #[.func (.func 32) #[] #[ptr B]] W fun e W' => ∃ h, e = .returned (ptr h) ∧ HP W' h (.func (.func 32) #[] #[ptr B]) (.slice none 0 0) [] 0 ∧ G W W' ∧ W.heap.size ≤ h := by
  have hb := Blk.new W [.func (.func 32) #[] #[ptr B], .slice none 0 0, I 0] 95
  have q0 : ∀ w : World, (binOp .eql 83 (.func (.func 32) #[] #[ptr B]) .nilFunc).run Tryd.prog w = .ok (.bool false) w := fun w => by rfl
  go_enter Tryd.func31, Tryd.ntmps31
  go_wp2
  go_ret
  exact ⟨W.heap.size, rfl, ⟨hb, .inl ⟨rfl, rfl⟩⟩, (G.refl _).alloc _, Nat.le_refl _⟩
end Go.Proofs.YtemkilffagjmcaaDoor
