/- Graphs: the marks stand. -/
import Derived.Test.YtifioikdhfhljaaGreatDoorSh14
namespace Go.Proofs.YtifioikdhfhljaaGreatDoor
open Go.RowKit
set_option maxRecDepth 100000 in
set_option maxHeartbeats 1000000 in
theorem sstays_any (l : List Pv) (fv v : Value) (W : World) (h1 : Sw eP 101 W fv (rooms l)) (h2 : Row eP.rel W v l) (hl : l.length ≤ 1048576) : Calls Tryz.prog 35 #[fv, v] W fun e W' => e = .returned (.bool true) ∧ G W W' := by
  obtain ⟨p, cap, rfl⟩ := h2.form
  have hlr : (rooms l).length = l.length + 2 := by simp [rooms]
  obtain ⟨g, fc, rfl⟩ := h1.slice (by omega)
  obtain ⟨k, hk⟩ : ∃ k, k = l.length := ⟨_, rfl⟩
  obtain ⟨k1, hk1⟩ : ∃ k1, k1 = k + 1 := ⟨_, rfl⟩
  obtain ⟨n, hn⟩ : ∃ n, n = (rooms l).length := ⟨_, rfl⟩
  have hcap := h1.open.2.choose_spec.2.2.1
  rw [← hn] at h1 hcap ⊢
  have e1 : (rooms l)[k]? = some mk1 := by rw [hk]; simp [rooms]
  have e2 : (rooms l)[k1]? = some mk2 := by rw [hk1, hk]; simp [rooms]
  have ht := h1.take (m := k) (by omega)
  rw [hk, rooms_take, ← hk] at ht
  have KP := hide (sprops_any l _ _ W ht.toRow h2 (by omega))
  rw [← hk] at KP
  have i1 : (k : Int) < (n : Int) := by omega
  have i2 : (k1 : Int) < (n : Int) := by omega
  have i3 : (k : Int) ≤ (fc : Int) := by omega
  have hw1 : wrap64 ((k : Int) + 1) = (k1 : Int) := by unfold wrap64; omega
  have H1 := hide h1; have HEE := hide (And.intro e1 e2)
  rw [← hk] at *
  clear h1 h2 hl hlr hn hk hk1 hcap ht e1 e2
  go_enter Tryz.func35, Tryz.ntmps35
  go_wp2_with fail
  refine KP.out.mono ?_
  rintro e w3 ⟨rfl, hg3⟩
  obtain ⟨e1, e2⟩ := HEE.out
  have x1 : w3.cell? ⟨g, k * 5, none⟩ = some (.string { data := #[109, 97, 114, 107, 49] }) := (H1.out.G hg3).at e1 0 (by decide)
  have y1 : w3.cell? ⟨g, k1 * 5, none⟩ = some (.string { data := #[109, 97, 114, 107, 50] }) := (H1.out.G hg3).at e2 0 (by decide)
  have x2 : w3.cell? ⟨g, k * 5 + 1, none⟩ = some (I 0) := (H1.out.G hg3).at e1 1 (by decide)
  have y2 : w3.cell? ⟨g, k1 * 5 + 1, none⟩ = some (I 0) := (H1.out.G hg3).at e2 1 (by decide)
  have x3 : w3.cell? ⟨g, k * 5 + 2, none⟩ = some (I 0) := (H1.out.G hg3).at e1 2 (by decide)
  have y3 : w3.cell? ⟨g, k1 * 5 + 2, none⟩ = some (I 0) := (H1.out.G hg3).at e2 2 (by decide)
  have x4 : w3.cell? ⟨g, k * 5 + 3, none⟩ = some (I 0) := (H1.out.G hg3).at e1 3 (by decide)
  have y4 : w3.cell? ⟨g, k1 * 5 + 3, none⟩ = some (I 0) := (H1.out.G hg3).at e2 3 (by decide)
  have x5 : w3.cell? ⟨g, k * 5 + 4, none⟩ = some (.string { data := #[] }) := (H1.out.G hg3).at e1 4 (by decide)
  have y5 : w3.cell? ⟨g, k1 * 5 + 4, none⟩ = some (.string { data := #[] }) := (H1.out.G hg3).at e2 4 (by decide)
  have HG := hide hg3
  clear hg3 KP e1 e2
  go_wp2_with fail
  go_ret
  exact ⟨rfl, HG.out⟩
end Go.Proofs.YtifioikdhfhljaaGreatDoor
