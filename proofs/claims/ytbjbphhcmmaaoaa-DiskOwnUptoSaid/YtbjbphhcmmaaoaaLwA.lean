/- The law's own: same, writes. -/
import Derived.Test.YtbjbphhcmmaaoaaDkU
import Derived.Deep.QuietTactic
import Derived.BigQuiet
namespace Go.Proofs.Ytbjbphhcmmaaoaa
open Go.RowKit

theorem G.drewN {a w : World} (h : G a w) (n : Nat) : G a (w.drewN n) := ⟨h.os, h.tape, h.output, h.size, h.block⟩
set_option maxRecDepth 100000 in
set_option maxHeartbeats 4000000 in
theorem same_true (x y : Value) (xs : List Nat) (hx : xs.length ≤ 4611686018427387904) (w : World) (h1 : Bytes w x xs) (h2 : Bytes w y xs) : Calls Try.prog 16 #[x, y] w fun e w' => e = .returned (.bool true) ∧ G w w' := by
  obtain ⟨xa, xc, rfl, hxc, hxl⟩ := h1
  obtain ⟨ya, yc, rfl, hyc, hyl⟩ := h2
  have HX := hide hxl
  have HY := hide hyl
  clear hxl hyl
  go_enter Try.func16, Try.ntmps16
  go_wp2
  go_loopw [5] (fun i W => ∃ k : Nat, k ≤ xs.length ∧ i = .int .i64 k ∧ G w W) (fun i _ => xs.length - (RowKit.intOf i).toNat)
  case atStart => exact ⟨0, by omega, rfl, G.refl _⟩
  case round =>
    obtain ⟨k, hk, rfl, hgw⟩ := hrel
    have HG := hide hgw
    by_cases hlt : k < xs.length
    · obtain ⟨a, ha⟩ : ∃ a, xs[k]? = some a := ⟨_, List.getElem?_eq_getElem hlt⟩
      have hne : xs ≠ [] := fun e => by rw [e] at hlt; simp at hlt
      obtain ⟨b1, o1, rfl, hl1⟩ := HX.out.resolve_left hne
      obtain ⟨b2, o2, rfl, hl2⟩ := HY.out.resolve_left hne
      have c1 := (hl1.G hgw) k a ha
      have c2 := (hl2.G hgw) k a ha
      rw [Addr.add_mid] at c1 c2
      have hkI : (k : Int) < (xs.length : Int) := by omega
      clear hl1 hl2 ha hne hgw
      go_wp2_with fail
      go_quiet (fail)
      clear c1 c2
      go_wp2
      go_roundw
      case rel => exact ⟨k + 1, by omega, by go_num, HG.out.drewN _⟩
      case measure => simp [RowKit.intOf]; omega
    · have hkI : ¬ (k : Int) < (xs.length : Int) := by omega
      clear hgw
      go_wp2
      go_ret
      exact ⟨rfl, HG.out⟩
set_option maxRecDepth 100000 in
set_option maxHeartbeats 4000000 in
theorem writes_true (x y : Value) (l : List (Nat × List Nat)) (F1 F2 N1 N2 : Nat → Prop) (hl : l.length ≤ 4611686018427387904) (h128 : ∀ e ∈ l, e.2.length = 128) (w : World) (h1 : RowW w x l F1 N1) (h2 : RowW w y l F2 N2) : Calls Try.prog 33 #[x, y] w fun e w' => e = .returned (.bool true) ∧ G w w' := by
  obtain ⟨xp, xc, rfl⟩ := h1.slice
  obtain ⟨yp, yc, rfl⟩ := h2.slice
  have HX := hide h1
  have HY := hide h2
  have H128 := hide h128
  clear h1 h2 h128
  go_enter Try.func33, Try.ntmps33
  go_wp2
  go_loopw [5] (fun i W => ∃ k : Nat, k ≤ l.length ∧ i = .int .i64 k ∧ G w W) (fun i _ => l.length - (RowKit.intOf i).toNat)
  case atStart => exact ⟨0, by omega, rfl, G.refl _⟩
  case round =>
    obtain ⟨k, hk, rfl, hgw⟩ := hrel
    have HG := hide hgw
    by_cases hlt : k < l.length
    · obtain ⟨e, he⟩ : ∃ e, l[k]? = some e := ⟨_, List.getElem?_eq_getElem hlt⟩
      obtain ⟨g1, d1, rfl, _, hc1, ha1, hd1, hb1, _⟩ := (HX.out.G hgw).ent he
      obtain ⟨g2, d2, rfl, _, hc2, ha2, hd2, hb2, _⟩ := (HY.out.G hgw).ent he
      have HE2 := hide (H128.out e (List.mem_of_getElem? he))
      have HS : Hid (∀ W, G wr W → (fun W => (W.cell? ⟨g1, k * 2, none⟩ = some (I e.1) ∧ W.cell? ⟨g1, k * 2 + 1, none⟩ = some (.slice (some ⟨d1, 0, none⟩) 128 128)) ∧ (W.cell? ⟨g2, k * 2, none⟩ = some (I e.1) ∧ W.cell? ⟨g2, k * 2 + 1, none⟩ = some (.slice (some ⟨d2, 0, none⟩) 128 128))) W) := fun W g => ⟨⟨cell_chg ha1 g.chg (F := fun _ => False) (fun h => h), cell_chg hd1 g.chg (F := fun _ => False) (fun h => h)⟩, cell_chg ha2 g.chg (F := fun _ => False) (fun h => h), cell_chg hd2 g.chg (F := fun _ => False) (fun h => h)⟩
      have HSA : Hid (Calls Try.prog 16 #[.slice (some ⟨d1, 0, none⟩) 128 128, .slice (some ⟨d2, 0, none⟩) 128 128] wr.drew fun e' w' => e' = .returned (.bool true) ∧ G wr.drew w') := by
        have q1 := hb1.drew.bytes
        have q2 := hb2.drew.bytes
        rw [HE2.out] at q1 q2
        exact same_true _ _ e.2 (by rw [HE2.out]; decide) _ q1 q2
      have hkI : (k : Int) < (l.length : Int) := by omega
      clear he hb1 hb2 hgw
      go_wp2_with fail
      clear ha1 hd1 ha2 hd2
      refine wp_region_noPanic ?_
      refine wp_region_held_drew (S := (fun W => (W.cell? ⟨g1, k * 2, none⟩ = some (I e.1) ∧ W.cell? ⟨g1, k * 2 + 1, none⟩ = some (.slice (some ⟨d1, 0, none⟩) 128 128)) ∧ (W.cell? ⟨g2, k * 2, none⟩ = some (I e.1) ∧ W.cell? ⟨g2, k * 2 + 1, none⟩ = some (.slice (some ⟨d2, 0, none⟩) 128 128)))) (by kernel_rfl) (HS.out _ (G.drew (G.refl _))) (fun hHeld => ?_)
      refine wpAnyH_take (i := 0) (v := ?_) rfl (by kernel_rfl) (by kernel_rfl) (by kernel_rfl) (fun _ _ _ h => h) (Or.inl ⟨by rfl, ?_⟩) hHeld ?_
      rotate_left 1
      · (intro w hSw; (try dsimp only at hSw); go_simp; try with_reducible rfl)
      try simp only [Act.put, List.getElem_toArray, List.getElem_cons_zero, List.setIfInBounds_toArray, List.set_cons_zero, List.set_cons_succ]
      refine wpAnyH_take (i := 1) (v := ?_) rfl (by kernel_rfl) (by kernel_rfl) (by kernel_rfl) (fun _ _ _ h => h) (Or.inl ⟨by rfl, ?_⟩) hHeld ?_
      rotate_left 1
      · (intro w hSw; (try dsimp only at hSw); go_simp; try with_reducible rfl)
      try simp only [Act.put, List.getElem_toArray, List.getElem_cons_zero, List.getElem_cons_succ, List.setIfInBounds_toArray, List.set_cons_zero, List.set_cons_succ]
      refine wpAnyH_take (i := 2) (v := ?_) rfl (by kernel_rfl) (by kernel_rfl) (by kernel_rfl) (fun _ _ _ h => h) (Or.inl ⟨by rfl, ?_⟩) hHeld ?_
      rotate_left 1
      · (intro w hSw; (try dsimp only at hSw); go_simp; try with_reducible rfl)
      try simp only [Act.put, List.getElem_toArray, List.getElem_cons_zero, List.getElem_cons_succ, List.setIfInBounds_toArray, List.set_cons_zero, List.set_cons_succ]
      refine wpAnyH_take (i := 3) (v := ?_) rfl (by kernel_rfl) (by kernel_rfl) (by kernel_rfl) (fun _ _ _ h => h) (Or.inl ⟨by rfl, ?_⟩) hHeld ?_
      rotate_left 1
      · (intro w hSw; (try dsimp only at hSw); go_simp; try with_reducible rfl)
      try simp only [Act.put, List.getElem_toArray, List.getElem_cons_zero, List.getElem_cons_succ, List.setIfInBounds_toArray, List.set_cons_zero, List.set_cons_succ]
      refine wpAnyH_take (i := 4) (v := ?_) rfl (by kernel_rfl) (by kernel_rfl) (by kernel_rfl) (fun _ _ _ h => h) (Or.inl ⟨by rfl, ?_⟩) hHeld ?_
      rotate_left 1
      · (intro w hSw; have hq := hSw.1.2; go_simp; try with_reducible rfl)
      try simp only [Act.put, List.getElem_toArray, List.getElem_cons_zero, List.getElem_cons_succ, List.setIfInBounds_toArray, List.set_cons_zero, List.set_cons_succ]
      refine wpAnyH_take (i := 5) (v := ?_) rfl (by kernel_rfl) (by kernel_rfl) (by kernel_rfl) (fun _ _ _ h => h) (Or.inl ⟨by rfl, ?_⟩) hHeld ?_
      rotate_left 1
      · (intro w hSw; (try dsimp only at hSw); go_simp; try with_reducible rfl)
      try simp only [Act.put, List.getElem_toArray, List.getElem_cons_zero, List.getElem_cons_succ, List.setIfInBounds_toArray, List.set_cons_zero, List.set_cons_succ]
      refine wpAnyH_take (i := 6) (v := ?_) rfl (by kernel_rfl) (by kernel_rfl) (by kernel_rfl) (fun _ _ _ h => h) (Or.inl ⟨by rfl, ?_⟩) hHeld ?_
      rotate_left 1
      · (intro w hSw; (try dsimp only at hSw); go_simp; try with_reducible rfl)
      try simp only [Act.put, List.getElem_toArray, List.getElem_cons_zero, List.getElem_cons_succ, List.setIfInBounds_toArray, List.set_cons_zero, List.set_cons_succ]
      refine wpAnyH_take (i := 7) (v := ?_) rfl (by kernel_rfl) (by kernel_rfl) (by kernel_rfl) (fun _ _ _ h => h) (Or.inl ⟨by rfl, ?_⟩) hHeld ?_
      rotate_left 1
      · (intro w hSw; (try dsimp only at hSw); go_simp; try with_reducible rfl)
      try simp only [Act.put, List.getElem_toArray, List.getElem_cons_zero, List.getElem_cons_succ, List.setIfInBounds_toArray, List.set_cons_zero, List.set_cons_succ]
      refine wpAnyH_take (i := 8) (v := ?_) rfl (by kernel_rfl) (by kernel_rfl) (by kernel_rfl) (fun _ _ _ h => h) (Or.inl ⟨by rfl, ?_⟩) hHeld ?_
      rotate_left 1
      · (intro w hSw; (try dsimp only at hSw); go_simp; try with_reducible rfl)
      try simp only [Act.put, List.getElem_toArray, List.getElem_cons_zero, List.getElem_cons_succ, List.setIfInBounds_toArray, List.set_cons_zero, List.set_cons_succ]
      refine wpAnyH_take (i := 9) (v := ?_) rfl (by kernel_rfl) (by kernel_rfl) (by kernel_rfl) (fun _ _ _ h => h) (Or.inl ⟨by rfl, ?_⟩) hHeld ?_
      rotate_left 1
      · (intro w hSw; have hq := hSw.2.2; go_simp; try with_reducible rfl)
      try simp only [Act.put, List.getElem_toArray, List.getElem_cons_zero, List.getElem_cons_succ, List.setIfInBounds_toArray, List.set_cons_zero, List.set_cons_succ]
      refine wpAnyH_ready (rs := [10]) (by kernel_rfl) (by simp) (AllReadyH.cons rfl (fun K hK => ?_) AllReadyH.nil)
      clear hHeld
      go_simp
      with_reducible refine HSA.out.mono ?_
      rintro e' w5 ⟨rfl, hb⟩
      have HG5 : Hid (G wr w5) := G.trans (G.drew (G.refl _)) hb
      clear hb
      go_wp2_with fail
      refine hK.out _ _ (HS.out _ HG5.out) (fun hHeld => ?_)
      clear hK K
      try simp only [Act.put, List.getElem_toArray, List.getElem_cons_zero, List.getElem_cons_succ, List.setIfInBounds_toArray, List.set_cons_zero, List.set_cons_succ]
      refine wpAnyH_take (i := 11) (v := ?_) rfl (by kernel_rfl) (by kernel_rfl) (by kernel_rfl) (fun _ _ _ h => h) (Or.inl ⟨by rfl, ?_⟩) hHeld ?_
      rotate_left 1
      · (intro w hSw; (try dsimp only at hSw); go_simp; try with_reducible rfl)
      try simp only [Act.put, List.getElem_toArray, List.getElem_cons_zero, List.getElem_cons_succ, List.setIfInBounds_toArray, List.set_cons_zero, List.set_cons_succ]
      refine wpAnyH_done (by kernel_rfl) ?_ _
      refine NoPanic.normal ?_
      obtain ⟨⟨ha1, _⟩, ha2, _⟩ := HS.out _ HG5.out
      go_wp2_with fail
      go_quiet (fail)
      clear ha1 ha2
      go_wp2
      go_roundw
      case rel => exact ⟨k + 1, by omega, by go_num, (HG.out.trans HG5.out).drewN _⟩
      case measure => simp [RowKit.intOf]; omega
    · have hkI : ¬ (k : Int) < (l.length : Int) := by omega
      clear hgw
      go_wp2
      go_ret
      exact ⟨rfl, HG.out⟩
end Go.Proofs.Ytbjbphhcmmaaoaa
