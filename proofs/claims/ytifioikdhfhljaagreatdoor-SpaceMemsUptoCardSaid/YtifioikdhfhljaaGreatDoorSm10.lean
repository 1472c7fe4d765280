/- Graphs: the law's steps, as they are told. -/
import Derived.Test.YtifioikdhfhljaaGreatDoorSm9
namespace Go.Proofs.YtifioikdhfhljaaGreatDoor
open Go.RowKit Go.Maps

set_option maxRecDepth 100000 in
set_option maxHeartbeats 4000000 in
theorem scNodes (x : St) (pa : Option Addr) (pn pc : Nat) (W : World) : Calls Tryz.prog 18 #[.agg #[I 10, I x.id, I x.tt, .string x.name, .string x.key, I x.k, I x.a, I x.b, .string x.s, .slice pa pn pc, .bool x.flag, I x.n, I x.lv, .string x.lb, I x.rid, I x.md]] W fun e W' => e = .returned (.agg #[I 1, I 0, .string x.name, .string { data := #[] }, I 0, I 0, I 0, .string { data := #[] }, I 0, .string { data := #[] }, I 0, I 0]) ∧ G W W' := by
  obtain ⟨B1, hB1⟩ : ∃ B1, B1 = W.heap.size := ⟨_, rfl⟩
  obtain ⟨B2, hB2⟩ : ∃ B2, B2 = B1 + 1 := ⟨_, rfl⟩
  obtain ⟨B3, hB3⟩ : ∃ B3, B3 = B2 + 1 := ⟨_, rfl⟩
  obtain ⟨w3, hw3⟩ : ∃ w3, w3 = (((W.alloc (.cells #[I 10, I x.id, I x.tt, .string x.name, .string x.key, I x.k, I x.a, I x.b, .string x.s, .slice pa pn pc, .bool x.flag, I x.n, I x.lv, .string x.lb, I x.rid, I x.md] 46)).alloc (.cells #[I 0, I 0, .string { data := #[] }, .string { data := #[] }, I 0, I 0, I 0, .string { data := #[] }, I 0, .string { data := #[] }, I 0, I 0] 49)).alloc (.cells #[I 1, I 0, .string { data := #[] }, .string { data := #[] }, I 0, I 0, I 0, .string { data := #[] }, I 0, .string { data := #[] }, I 0, I 0] 49)) := ⟨_, rfl⟩
  have hg3 : G W w3 := by rw [hw3]; exact (((G.refl W).alloc _).alloc _).alloc _
  have hb1 : Blk w3 B1 46 [I 10, I x.id, I x.tt, .string x.name, .string x.key, I x.k, I x.a, I x.b, .string x.s, .slice pa pn pc, .bool x.flag, I x.n, I x.lv, .string x.lb, I x.rid, I x.md] := by rw [hw3, hB1]; exact (Blk.new W [I 10, I x.id, I x.tt, .string x.name, .string x.key, I x.k, I x.a, I x.b, .string x.s, .slice pa pn pc, .bool x.flag, I x.n, I x.lv, .string x.lb, I x.rid, I x.md] 46).G (((G.refl _).alloc _).alloc _)
  have hb2 : Blk w3 B2 49 [I 0, I 0, .string { data := #[] }, .string { data := #[] }, I 0, I 0, I 0, .string { data := #[] }, I 0, .string { data := #[] }, I 0, I 0] := by
    have := (Blk.new (W.alloc (.cells #[I 10, I x.id, I x.tt, .string x.name, .string x.key, I x.k, I x.a, I x.b, .string x.s, .slice pa pn pc, .bool x.flag, I x.n, I x.lv, .string x.lb, I x.rid, I x.md] 46)) [I 0, I 0, .string { data := #[] }, .string { data := #[] }, I 0, I 0, I 0, .string { data := #[] }, I 0, .string { data := #[] }, I 0, I 0] 49).G ((G.refl _).alloc (.cells #[I 1, I 0, .string { data := #[] }, .string { data := #[] }, I 0, I 0, I 0, .string { data := #[] }, I 0, .string { data := #[] }, I 0, I 0] 49))
    rw [hw3, hB2, hB1]
    simpa using this
  have hb3 : Blk w3 B3 49 [I 1, I 0, .string { data := #[] }, .string { data := #[] }, I 0, I 0, I 0, .string { data := #[] }, I 0, .string { data := #[] }, I 0, I 0] := by
    have := Blk.new ((W.alloc (.cells #[I 10, I x.id, I x.tt, .string x.name, .string x.key, I x.k, I x.a, I x.b, .string x.s, .slice pa pn pc, .bool x.flag, I x.n, I x.lv, .string x.lb, I x.rid, I x.md] 46)).alloc (.cells #[I 0, I 0, .string { data := #[] }, .string { data := #[] }, I 0, I 0, I 0, .string { data := #[] }, I 0, .string { data := #[] }, I 0, I 0] 49)) [I 1, I 0, .string { data := #[] }, .string { data := #[] }, I 0, I 0, I 0, .string { data := #[] }, I 0, .string { data := #[] }, I 0, I 0] 49
    rw [hw3, hB3, hB2, hB1]
    simpa using this
  have e0 := ((Blk.new W [I 10, I x.id, I x.tt, .string x.name, .string x.key, I x.k, I x.a, I x.b, .string x.s, .slice pa pn pc, .bool x.flag, I x.n, I x.lv, .string x.lb, I x.rid, I x.md] 46).G ((G.refl _).alloc (.cells #[I 0, I 0, .string { data := #[] }, .string { data := #[] }, I 0, I 0, I 0, .string { data := #[] }, I 0, .string { data := #[] }, I 0, I 0] 49))).cell
  have n13 : B1 ≠ B3 := by omega
  have n23 : B2 ≠ B3 := by omega
  have h2s : W.heap.size ≤ B2 := by omega
  have h3s : W.heap.size ≤ B3 := by omega
  have HEW : Hid ((((W.alloc (.cells #[I 10, I x.id, I x.tt, .string x.name, .string x.key, I x.k, I x.a, I x.b, .string x.s, .slice pa pn pc, .bool x.flag, I x.n, I x.lv, .string x.lb, I x.rid, I x.md] 46)).alloc (.cells #[I 0, I 0, .string { data := #[] }, .string { data := #[] }, I 0, I 0, I 0, .string { data := #[] }, I 0, .string { data := #[] }, I 0, I 0] 49)).alloc (.cells #[I 1, I 0, .string { data := #[] }, .string { data := #[] }, I 0, I 0, I 0, .string { data := #[] }, I 0, .string { data := #[] }, I 0, I 0] 49)) = w3) := hw3.symm
  have HE1 : Hid (W.heap.size = B1) := hB1.symm
  have HE2 : Hid (B1 + 1 = B2) := hB2.symm
  have HE3 : Hid (B2 + 1 = B3) := hB3.symm
  have p := hb1.cell; have q := hb3.cell; have z := hb3.frozen
  have p0 := (hb1.off (o := 2) (v := .string x.name) n13).cell
  have q0 := (hb3.set 2 (.string x.name)).cell
  have z0 := (hb3.set 2 (.string x.name)).frozen
  have r9 := (hb2.off (o := 2) (v := .string x.name) n23).cell
  have y9 := (hb2.off (o := 2) (v := .string x.name) n23).frozen
  have HC9 := hide (((((((((((((hb2.off (o := 2) (v := .string x.name) n23).set 0 (I 1)).set 1 (I 0)).set 2 (.string x.name)).set 3 (.string { data := #[] })).set 4 (I 0)).set 5 (I 0)).set 6 (I 0)).set 7 (.string { data := #[] })).set 8 (I 0)).set 9 (.string { data := #[] })).set 10 (I 0)).set 11 (I 0))
  have HG9 : Hid (G W (((((((((((((w3.setCell ⟨B3, 2, none⟩ (.string x.name)).setCell ⟨B2, 0, none⟩ (I 1)).setCell ⟨B2, 1, none⟩ (I 0)).setCell ⟨B2, 2, none⟩ (.string x.name)).setCell ⟨B2, 3, none⟩ (.string { data := #[] })).setCell ⟨B2, 4, none⟩ (I 0)).setCell ⟨B2, 5, none⟩ (I 0)).setCell ⟨B2, 6, none⟩ (I 0)).setCell ⟨B2, 7, none⟩ (.string { data := #[] })).setCell ⟨B2, 8, none⟩ (I 0)).setCell ⟨B2, 9, none⟩ (.string { data := #[] })).setCell ⟨B2, 10, none⟩ (I 0)).setCell ⟨B2, 11, none⟩ (I 0))) := (((((((((((((hg3.setCell h3s (.string x.name)).setCell h2s (I 1)).setCell h2s (I 0)).setCell h2s (.string x.name)).setCell h2s (.string { data := #[] })).setCell h2s (I 0)).setCell h2s (I 0)).setCell h2s (I 0)).setCell h2s (.string { data := #[] })).setCell h2s (I 0)).setCell h2s (.string { data := #[] })).setCell h2s (I 0)).setCell h2s (I 0))
  clear hg3 hb1 hb2 hb3 hw3 hB1 hB2 hB3 n13 n23 h2s h3s
  go_enter Tryz.func18, Tryz.ntmps18
  go_wp2_with (first | (rw [HEW.out]; (try rw [HE1.out]); (try rw [HE2.out]); (try rw [HE3.out]); clear HEW e0) | fail)
  exact bodyPost_ret_by (v := .agg #[I 1, I 0, .string x.name, .string { data := #[] }, I 0, I 0, I 0, .string { data := #[] }, I 0, .string { data := #[] }, I 0, I 0]) (results_cell_row Tryz.results18 _ _ B2 49 _ (0, 0) _ rfl HC9.out.h Tryz.underlying49 rfl (by kernel_rfl)) rfl ⟨rfl, HG9.out⟩
set_option maxRecDepth 100000 in
set_option maxHeartbeats 4000000 in
theorem scFind (x : St) (pa : Option Addr) (pn pc : Nat) (W : World) : Calls Tryz.prog 18 #[.agg #[I 11, I x.id, I x.tt, .string x.name, .string x.key, I x.k, I x.a, I x.b, .string x.s, .slice pa pn pc, .bool x.flag, I x.n, I x.lv, .string x.lb, I x.rid, I x.md]] W fun e W' => e = .returned (.agg #[I 2, I 0, .string x.name, .string x.key, I x.k, I x.a, I x.b, .string x.s, I 0, .string { data := #[] }, I 0, I 0]) ∧ G W W' := by
  obtain ⟨B1, hB1⟩ : ∃ B1, B1 = W.heap.size := ⟨_, rfl⟩
  obtain ⟨B2, hB2⟩ : ∃ B2, B2 = B1 + 1 := ⟨_, rfl⟩
  obtain ⟨B3, hB3⟩ : ∃ B3, B3 = B2 + 1 := ⟨_, rfl⟩
  obtain ⟨w3, hw3⟩ : ∃ w3, w3 = (((W.alloc (.cells #[I 11, I x.id, I x.tt, .string x.name, .string x.key, I x.k, I x.a, I x.b, .string x.s, .slice pa pn pc, .bool x.flag, I x.n, I x.lv, .string x.lb, I x.rid, I x.md] 46)).alloc (.cells #[I 0, I 0, .string { data := #[] }, .string { data := #[] }, I 0, I 0, I 0, .string { data := #[] }, I 0, .string { data := #[] }, I 0, I 0] 49)).alloc (.cells #[I 2, I 0, .string { data := #[] }, .string { data := #[] }, I 0, I 0, I 0, .string { data := #[] }, I 0, .string { data := #[] }, I 0, I 0] 49)) := ⟨_, rfl⟩
  have hg3 : G W w3 := by rw [hw3]; exact (((G.refl W).alloc _).alloc _).alloc _
  have hb1 : Blk w3 B1 46 [I 11, I x.id, I x.tt, .string x.name, .string x.key, I x.k, I x.a, I x.b, .string x.s, .slice pa pn pc, .bool x.flag, I x.n, I x.lv, .string x.lb, I x.rid, I x.md] := by rw [hw3, hB1]; exact (Blk.new W [I 11, I x.id, I x.tt, .string x.name, .string x.key, I x.k, I x.a, I x.b, .string x.s, .slice pa pn pc, .bool x.flag, I x.n, I x.lv, .string x.lb, I x.rid, I x.md] 46).G (((G.refl _).alloc _).alloc _)
  have hb2 : Blk w3 B2 49 [I 0, I 0, .string { data := #[] }, .string { data := #[] }, I 0, I 0, I 0, .string { data := #[] }, I 0, .string { data := #[] }, I 0, I 0] := by
    have := (Blk.new (W.alloc (.cells #[I 11, I x.id, I x.tt, .string x.name, .string x.key, I x.k, I x.a, I x.b, .string x.s, .slice pa pn pc, .bool x.flag, I x.n, I x.lv, .string x.lb, I x.rid, I x.md] 46)) [I 0, I 0, .string { data := #[] }, .string { data := #[] }, I 0, I 0, I 0, .string { data := #[] }, I 0, .string { data := #[] }, I 0, I 0] 49).G ((G.refl _).alloc (.cells #[I 2, I 0, .string { data := #[] }, .string { data := #[] }, I 0, I 0, I 0, .string { data := #[] }, I 0, .string { data := #[] }, I 0, I 0] 49))
    rw [hw3, hB2, hB1]
    simpa using this
  have hb3 : Blk w3 B3 49 [I 2, I 0, .string { data := #[] }, .string { data := #[] }, I 0, I 0, I 0, .string { data := #[] }, I 0, .string { data := #[] }, I 0, I 0] := by
    have := Blk.new ((W.alloc (.cells #[I 11, I x.id, I x.tt, .string x.name, .string x.key, I x.k, I x.a, I x.b, .string x.s, .slice pa pn pc, .bool x.flag, I x.n, I x.lv, .string x.lb, I x.rid, I x.md] 46)).alloc (.cells #[I 0, I 0, .string { data := #[] }, .string { data := #[] }, I 0, I 0, I 0, .string { data := #[] }, I 0, .string { data := #[] }, I 0, I 0] 49)) [I 2, I 0, .string { data := #[] }, .string { data := #[] }, I 0, I 0, I 0, .string { data := #[] }, I 0, .string { data := #[] }, I 0, I 0] 49
    rw [hw3, hB3, hB2, hB1]
    simpa using this
  have e0 := ((Blk.new W [I 11, I x.id, I x.tt, .string x.name, .string x.key, I x.k, I x.a, I x.b, .string x.s, .slice pa pn pc, .bool x.flag, I x.n, I x.lv, .string x.lb, I x.rid, I x.md] 46).G ((G.refl _).alloc (.cells #[I 0, I 0, .string { data := #[] }, .string { data := #[] }, I 0, I 0, I 0, .string { data := #[] }, I 0, .string { data := #[] }, I 0, I 0] 49))).cell
  have n13 : B1 ≠ B3 := by omega
  have n23 : B2 ≠ B3 := by omega
  have h2s : W.heap.size ≤ B2 := by omega
  have h3s : W.heap.size ≤ B3 := by omega
  have HEW : Hid ((((W.alloc (.cells #[I 11, I x.id, I x.tt, .string x.name, .string x.key, I x.k, I x.a, I x.b, .string x.s, .slice pa pn pc, .bool x.flag, I x.n, I x.lv, .string x.lb, I x.rid, I x.md] 46)).alloc (.cells #[I 0, I 0, .string { data := #[] }, .string { data := #[] }, I 0, I 0, I 0, .string { data := #[] }, I 0, .string { data := #[] }, I 0, I 0] 49)).alloc (.cells #[I 2, I 0, .string { data := #[] }, .string { data := #[] }, I 0, I 0, I 0, .string { data := #[] }, I 0, .string { data := #[] }, I 0, I 0] 49)) = w3) := hw3.symm
  have HE1 : Hid (W.heap.size = B1) := hB1.symm
  have HE2 : Hid (B1 + 1 = B2) := hB2.symm
  have HE3 : Hid (B2 + 1 = B3) := hB3.symm
  have p := hb1.cell; have q := hb3.cell; have z := hb3.frozen
  have p0 := (hb1.off (o := 2) (v := .string x.name) n13).cell
  have q0 := (hb3.set 2 (.string x.name)).cell
  have z0 := (hb3.set 2 (.string x.name)).frozen
  have p1 := ((hb1.off (o := 2) (v := .string x.name) n13).off (o := 3) (v := .string x.key) n13).cell
  have q1 := ((hb3.set 2 (.string x.name)).set 3 (.string x.key)).cell
  have z1 := ((hb3.set 2 (.string x.name)).set 3 (.string x.key)).frozen
  have p2 := (((hb1.off (o := 2) (v := .string x.name) n13).off (o := 3) (v := .string x.key) n13).off (o := 4) (v := I x.k) n13).cell
  have q2 := (((hb3.set 2 (.string x.name)).set 3 (.string x.key)).set 4 (I x.k)).cell
  have z2 := (((hb3.set 2 (.string x.name)).set 3 (.string x.key)).set 4 (I x.k)).frozen
  have p3 := ((((hb1.off (o := 2) (v := .string x.name) n13).off (o := 3) (v := .string x.key) n13).off (o := 4) (v := I x.k) n13).off (o := 5) (v := I x.a) n13).cell
  have q3 := ((((hb3.set 2 (.string x.name)).set 3 (.string x.key)).set 4 (I x.k)).set 5 (I x.a)).cell
  have z3 := ((((hb3.set 2 (.string x.name)).set 3 (.string x.key)).set 4 (I x.k)).set 5 (I x.a)).frozen
  have p4 := (((((hb1.off (o := 2) (v := .string x.name) n13).off (o := 3) (v := .string x.key) n13).off (o := 4) (v := I x.k) n13).off (o := 5) (v := I x.a) n13).off (o := 6) (v := I x.b) n13).cell
  have q4 := (((((hb3.set 2 (.string x.name)).set 3 (.string x.key)).set 4 (I x.k)).set 5 (I x.a)).set 6 (I x.b)).cell
  have z4 := (((((hb3.set 2 (.string x.name)).set 3 (.string x.key)).set 4 (I x.k)).set 5 (I x.a)).set 6 (I x.b)).frozen
  have p5 := ((((((hb1.off (o := 2) (v := .string x.name) n13).off (o := 3) (v := .string x.key) n13).off (o := 4) (v := I x.k) n13).off (o := 5) (v := I x.a) n13).off (o := 6) (v := I x.b) n13).off (o := 7) (v := .string x.s) n13).cell
  have q5 := ((((((hb3.set 2 (.string x.name)).set 3 (.string x.key)).set 4 (I x.k)).set 5 (I x.a)).set 6 (I x.b)).set 7 (.string x.s)).cell
  have z5 := ((((((hb3.set 2 (.string x.name)).set 3 (.string x.key)).set 4 (I x.k)).set 5 (I x.a)).set 6 (I x.b)).set 7 (.string x.s)).frozen
  have r9 := ((((((hb2.off (o := 2) (v := .string x.name) n23).off (o := 3) (v := .string x.key) n23).off (o := 4) (v := I x.k) n23).off (o := 5) (v := I x.a) n23).off (o := 6) (v := I x.b) n23).off (o := 7) (v := .string x.s) n23).cell
  have y9 := ((((((hb2.off (o := 2) (v := .string x.name) n23).off (o := 3) (v := .string x.key) n23).off (o := 4) (v := I x.k) n23).off (o := 5) (v := I x.a) n23).off (o := 6) (v := I x.b) n23).off (o := 7) (v := .string x.s) n23).frozen
  have HC9 := hide ((((((((((((((((((hb2.off (o := 2) (v := .string x.name) n23).off (o := 3) (v := .string x.key) n23).off (o := 4) (v := I x.k) n23).off (o := 5) (v := I x.a) n23).off (o := 6) (v := I x.b) n23).off (o := 7) (v := .string x.s) n23).set 0 (I 2)).set 1 (I 0)).set 2 (.string x.name)).set 3 (.string x.key)).set 4 (I x.k)).set 5 (I x.a)).set 6 (I x.b)).set 7 (.string x.s)).set 8 (I 0)).set 9 (.string { data := #[] })).set 10 (I 0)).set 11 (I 0))
  have HG9 : Hid (G W ((((((((((((((((((w3.setCell ⟨B3, 2, none⟩ (.string x.name)).setCell ⟨B3, 3, none⟩ (.string x.key)).setCell ⟨B3, 4, none⟩ (I x.k)).setCell ⟨B3, 5, none⟩ (I x.a)).setCell ⟨B3, 6, none⟩ (I x.b)).setCell ⟨B3, 7, none⟩ (.string x.s)).setCell ⟨B2, 0, none⟩ (I 2)).setCell ⟨B2, 1, none⟩ (I 0)).setCell ⟨B2, 2, none⟩ (.string x.name)).setCell ⟨B2, 3, none⟩ (.string x.key)).setCell ⟨B2, 4, none⟩ (I x.k)).setCell ⟨B2, 5, none⟩ (I x.a)).setCell ⟨B2, 6, none⟩ (I x.b)).setCell ⟨B2, 7, none⟩ (.string x.s)).setCell ⟨B2, 8, none⟩ (I 0)).setCell ⟨B2, 9, none⟩ (.string { data := #[] })).setCell ⟨B2, 10, none⟩ (I 0)).setCell ⟨B2, 11, none⟩ (I 0))) := ((((((((((((((((((hg3.setCell h3s (.string x.name)).setCell h3s (.string x.key)).setCell h3s (I x.k)).setCell h3s (I x.a)).setCell h3s (I x.b)).setCell h3s (.string x.s)).setCell h2s (I 2)).setCell h2s (I 0)).setCell h2s (.string x.name)).setCell h2s (.string x.key)).setCell h2s (I x.k)).setCell h2s (I x.a)).setCell h2s (I x.b)).setCell h2s (.string x.s)).setCell h2s (I 0)).setCell h2s (.string { data := #[] })).setCell h2s (I 0)).setCell h2s (I 0))
  clear hg3 hb1 hb2 hb3 hw3 hB1 hB2 hB3 n13 n23 h2s h3s
  go_enter Tryz.func18, Tryz.ntmps18
  go_wp2_with (first | (rw [HEW.out]; (try rw [HE1.out]); (try rw [HE2.out]); (try rw [HE3.out]); clear HEW e0) | fail)
  exact bodyPost_ret_by (v := .agg #[I 2, I 0, .string x.name, .string x.key, I x.k, I x.a, I x.b, .string x.s, I 0, .string { data := #[] }, I 0, I 0]) (results_cell_row Tryz.results18 _ _ B2 49 _ (0, 0) _ rfl HC9.out.h Tryz.underlying49 rfl (by kernel_rfl)) rfl ⟨rfl, HG9.out⟩
set_option maxRecDepth 100000 in
set_option maxHeartbeats 4000000 in
theorem scNode (x : St) (pa : Option Addr) (pn pc : Nat) (W : World) : Calls Tryz.prog 18 #[.agg #[I 12, I x.id, I x.tt, .string x.name, .string x.key, I x.k, I x.a, I x.b, .string x.s, .slice pa pn pc, .bool x.flag, I x.n, I x.lv, .string x.lb, I x.rid, I x.md]] W fun e W' => e = .returned (.agg #[I 3, I x.id, .string { data := #[] }, .string { data := #[] }, I 0, I 0, I 0, .string { data := #[] }, I 0, .string { data := #[] }, I 0, I 0]) ∧ G W W' := by
  obtain ⟨B1, hB1⟩ : ∃ B1, B1 = W.heap.size := ⟨_, rfl⟩
  obtain ⟨B2, hB2⟩ : ∃ B2, B2 = B1 + 1 := ⟨_, rfl⟩
  obtain ⟨B3, hB3⟩ : ∃ B3, B3 = B2 + 1 := ⟨_, rfl⟩
  obtain ⟨w3, hw3⟩ : ∃ w3, w3 = (((W.alloc (.cells #[I 12, I x.id, I x.tt, .string x.name, .string x.key, I x.k, I x.a, I x.b, .string x.s, .slice pa pn pc, .bool x.flag, I x.n, I x.lv, .string x.lb, I x.rid, I x.md] 46)).alloc (.cells #[I 0, I 0, .string { data := #[] }, .string { data := #[] }, I 0, I 0, I 0, .string { data := #[] }, I 0, .string { data := #[] }, I 0, I 0] 49)).alloc (.cells #[I 3, I 0, .string { data := #[] }, .string { data := #[] }, I 0, I 0, I 0, .string { data := #[] }, I 0, .string { data := #[] }, I 0, I 0] 49)) := ⟨_, rfl⟩
  have hg3 : G W w3 := by rw [hw3]; exact (((G.refl W).alloc _).alloc _).alloc _
  have hb1 : Blk w3 B1 46 [I 12, I x.id, I x.tt, .string x.name, .string x.key, I x.k, I x.a, I x.b, .string x.s, .slice pa pn pc, .bool x.flag, I x.n, I x.lv, .string x.lb, I x.rid, I x.md] := by rw [hw3, hB1]; exact (Blk.new W [I 12, I x.id, I x.tt, .string x.name, .string x.key, I x.k, I x.a, I x.b, .string x.s, .slice pa pn pc, .bool x.flag, I x.n, I x.lv, .string x.lb, I x.rid, I x.md] 46).G (((G.refl _).alloc _).alloc _)
  have hb2 : Blk w3 B2 49 [I 0, I 0, .string { data := #[] }, .string { data := #[] }, I 0, I 0, I 0, .string { data := #[] }, I 0, .string { data := #[] }, I 0, I 0] := by
    have := (Blk.new (W.alloc (.cells #[I 12, I x.id, I x.tt, .string x.name, .string x.key, I x.k, I x.a, I x.b, .string x.s, .slice pa pn pc, .bool x.flag, I x.n, I x.lv, .string x.lb, I x.rid, I x.md] 46)) [I 0, I 0, .string { data := #[] }, .string { data := #[] }, I 0, I 0, I 0, .string { data := #[] }, I 0, .string { data := #[] }, I 0, I 0] 49).G ((G.refl _).alloc (.cells #[I 3, I 0, .string { data := #[] }, .string { data := #[] }, I 0, I 0, I 0, .string { data := #[] }, I 0, .string { data := #[] }, I 0, I 0] 49))
    rw [hw3, hB2, hB1]
    simpa using this
  have hb3 : Blk w3 B3 49 [I 3, I 0, .string { data := #[] }, .string { data := #[] }, I 0, I 0, I 0, .string { data := #[] }, I 0, .string { data := #[] }, I 0, I 0] := by
    have := Blk.new ((W.alloc (.cells #[I 12, I x.id, I x.tt, .string x.name, .string x.key, I x.k, I x.a, I x.b, .string x.s, .slice pa pn pc, .bool x.flag, I x.n, I x.lv, .string x.lb, I x.rid, I x.md] 46)).alloc (.cells #[I 0, I 0, .string { data := #[] }, .string { data := #[] }, I 0, I 0, I 0, .string { data := #[] }, I 0, .string { data := #[] }, I 0, I 0] 49)) [I 3, I 0, .string { data := #[] }, .string { data := #[] }, I 0, I 0, I 0, .string { data := #[] }, I 0, .string { data := #[] }, I 0, I 0] 49
    rw [hw3, hB3, hB2, hB1]
    simpa using this
  have e0 := ((Blk.new W [I 12, I x.id, I x.tt, .string x.name, .string x.key, I x.k, I x.a, I x.b, .string x.s, .slice pa pn pc, .bool x.flag, I x.n, I x.lv, .string x.lb, I x.rid, I x.md] 46).G ((G.refl _).alloc (.cells #[I 0, I 0, .string { data := #[] }, .string { data := #[] }, I 0, I 0, I 0, .string { data := #[] }, I 0, .string { data := #[] }, I 0, I 0] 49))).cell
  have n13 : B1 ≠ B3 := by omega
  have n23 : B2 ≠ B3 := by omega
  have h2s : W.heap.size ≤ B2 := by omega
  have h3s : W.heap.size ≤ B3 := by omega
  have HEW : Hid ((((W.alloc (.cells #[I 12, I x.id, I x.tt, .string x.name, .string x.key, I x.k, I x.a, I x.b, .string x.s, .slice pa pn pc, .bool x.flag, I x.n, I x.lv, .string x.lb, I x.rid, I x.md] 46)).alloc (.cells #[I 0, I 0, .string { data := #[] }, .string { data := #[] }, I 0, I 0, I 0, .string { data := #[] }, I 0, .string { data := #[] }, I 0, I 0] 49)).alloc (.cells #[I 3, I 0, .string { data := #[] }, .string { data := #[] }, I 0, I 0, I 0, .string { data := #[] }, I 0, .string { data := #[] }, I 0, I 0] 49)) = w3) := hw3.symm
  have HE1 : Hid (W.heap.size = B1) := hB1.symm
  have HE2 : Hid (B1 + 1 = B2) := hB2.symm
  have HE3 : Hid (B2 + 1 = B3) := hB3.symm
  have p := hb1.cell; have q := hb3.cell; have z := hb3.frozen
  have p0 := (hb1.off (o := 1) (v := I x.id) n13).cell
  have q0 := (hb3.set 1 (I x.id)).cell
  have z0 := (hb3.set 1 (I x.id)).frozen
  have r9 := (hb2.off (o := 1) (v := I x.id) n23).cell
  have y9 := (hb2.off (o := 1) (v := I x.id) n23).frozen
  have HC9 := hide (((((((((((((hb2.off (o := 1) (v := I x.id) n23).set 0 (I 3)).set 1 (I x.id)).set 2 (.string { data := #[] })).set 3 (.string { data := #[] })).set 4 (I 0)).set 5 (I 0)).set 6 (I 0)).set 7 (.string { data := #[] })).set 8 (I 0)).set 9 (.string { data := #[] })).set 10 (I 0)).set 11 (I 0))
  have HG9 : Hid (G W (((((((((((((w3.setCell ⟨B3, 1, none⟩ (I x.id)).setCell ⟨B2, 0, none⟩ (I 3)).setCell ⟨B2, 1, none⟩ (I x.id)).setCell ⟨B2, 2, none⟩ (.string { data := #[] })).setCell ⟨B2, 3, none⟩ (.string { data := #[] })).setCell ⟨B2, 4, none⟩ (I 0)).setCell ⟨B2, 5, none⟩ (I 0)).setCell ⟨B2, 6, none⟩ (I 0)).setCell ⟨B2, 7, none⟩ (.string { data := #[] })).setCell ⟨B2, 8, none⟩ (I 0)).setCell ⟨B2, 9, none⟩ (.string { data := #[] })).setCell ⟨B2, 10, none⟩ (I 0)).setCell ⟨B2, 11, none⟩ (I 0))) := (((((((((((((hg3.setCell h3s (I x.id)).setCell h2s (I 3)).setCell h2s (I x.id)).setCell h2s (.string { data := #[] })).setCell h2s (.string { data := #[] })).setCell h2s (I 0)).setCell h2s (I 0)).setCell h2s (I 0)).setCell h2s (.string { data := #[] })).setCell h2s (I 0)).setCell h2s (.string { data := #[] })).setCell h2s (I 0)).setCell h2s (I 0))
  clear hg3 hb1 hb2 hb3 hw3 hB1 hB2 hB3 n13 n23 h2s h3s
  go_enter Tryz.func18, Tryz.ntmps18
  go_wp2_with (first | (rw [HEW.out]; (try rw [HE1.out]); (try rw [HE2.out]); (try rw [HE3.out]); clear HEW e0) | fail)
  exact bodyPost_ret_by (v := .agg #[I 3, I x.id, .string { data := #[] }, .string { data := #[] }, I 0, I 0, I 0, .string { data := #[] }, I 0, .string { data := #[] }, I 0, I 0]) (results_cell_row Tryz.results18 _ _ B2 49 _ (0, 0) _ rfl HC9.out.h Tryz.underlying49 rfl (by kernel_rfl)) rfl ⟨rfl, HG9.out⟩
set_option maxRecDepth 100000 in
set_option maxHeartbeats 4000000 in
theorem scEdge (x : St) (pa : Option Addr) (pn pc : Nat) (W : World) : Calls Tryz.prog 18 #[.agg #[I 13, I x.id, I x.tt, .string x.name, .string x.key, I x.k, I x.a, I x.b, .string x.s, .slice pa pn pc, .bool x.flag, I x.n, I x.lv, .string x.lb, I x.rid, I x.md]] W fun e W' => e = .returned (.agg #[I 4, I x.id, .string { data := #[] }, .string { data := #[] }, I 0, I 0, I 0, .string { data := #[] }, I 0, .string { data := #[] }, I 0, I 0]) ∧ G W W' := by
  obtain ⟨B1, hB1⟩ : ∃ B1, B1 = W.heap.size := ⟨_, rfl⟩
  obtain ⟨B2, hB2⟩ : ∃ B2, B2 = B1 + 1 := ⟨_, rfl⟩
  obtain ⟨B3, hB3⟩ : ∃ B3, B3 = B2 + 1 := ⟨_, rfl⟩
  obtain ⟨w3, hw3⟩ : ∃ w3, w3 = (((W.alloc (.cells #[I 13, I x.id, I x.tt, .string x.name, .string x.key, I x.k, I x.a, I x.b, .string x.s, .slice pa pn pc, .bool x.flag, I x.n, I x.lv, .string x.lb, I x.rid, I x.md] 46)).alloc (.cells #[I 0, I 0, .string { data := #[] }, .string { data := #[] }, I 0, I 0, I 0, .string { data := #[] }, I 0, .string { data := #[] }, I 0, I 0] 49)).alloc (.cells #[I 4, I 0, .string { data := #[] }, .string { data := #[] }, I 0, I 0, I 0, .string { data := #[] }, I 0, .string { data := #[] }, I 0, I 0] 49)) := ⟨_, rfl⟩
  have hg3 : G W w3 := by rw [hw3]; exact (((G.refl W).alloc _).alloc _).alloc _
  have hb1 : Blk w3 B1 46 [I 13, I x.id, I x.tt, .string x.name, .string x.key, I x.k, I x.a, I x.b, .string x.s, .slice pa pn pc, .bool x.flag, I x.n, I x.lv, .string x.lb, I x.rid, I x.md] := by rw [hw3, hB1]; exact (Blk.new W [I 13, I x.id, I x.tt, .string x.name, .string x.key, I x.k, I x.a, I x.b, .string x.s, .slice pa pn pc, .bool x.flag, I x.n, I x.lv, .string x.lb, I x.rid, I x.md] 46).G (((G.refl _).alloc _).alloc _)
  have hb2 : Blk w3 B2 49 [I 0, I 0, .string { data := #[] }, .string { data := #[] }, I 0, I 0, I 0, .string { data := #[] }, I 0, .string { data := #[] }, I 0, I 0] := by
    have := (Blk.new (W.alloc (.cells #[I 13, I x.id, I x.tt, .string x.name, .string x.key, I x.k, I x.a, I x.b, .string x.s, .slice pa pn pc, .bool x.flag, I x.n, I x.lv, .string x.lb, I x.rid, I x.md] 46)) [I 0, I 0, .string { data := #[] }, .string { data := #[] }, I 0, I 0, I 0, .string { data := #[] }, I 0, .string { data := #[] }, I 0, I 0] 49).G ((G.refl _).alloc (.cells #[I 4, I 0, .string { data := #[] }, .string { data := #[] }, I 0, I 0, I 0, .string { data := #[] }, I 0, .string { data := #[] }, I 0, I 0] 49))
    rw [hw3, hB2, hB1]
    simpa using this
  have hb3 : Blk w3 B3 49 [I 4, I 0, .string { data := #[] }, .string { data := #[] }, I 0, I 0, I 0, .string { data := #[] }, I 0, .string { data := #[] }, I 0, I 0] := by
    have := Blk.new ((W.alloc (.cells #[I 13, I x.id, I x.tt, .string x.name, .string x.key, I x.k, I x.a, I x.b, .string x.s, .slice pa pn pc, .bool x.flag, I x.n, I x.lv, .string x.lb, I x.rid, I x.md] 46)).alloc (.cells #[I 0, I 0, .string { data := #[] }, .string { data := #[] }, I 0, I 0, I 0, .string { data := #[] }, I 0, .string { data := #[] }, I 0, I 0] 49)) [I 4, I 0, .string { data := #[] }, .string { data := #[] }, I 0, I 0, I 0, .string { data := #[] }, I 0, .string { data := #[] }, I 0, I 0] 49
    rw [hw3, hB3, hB2, hB1]
    simpa using this
  have e0 := ((Blk.new W [I 13, I x.id, I x.tt, .string x.name, .string x.key, I x.k, I x.a, I x.b, .string x.s, .slice pa pn pc, .bool x.flag, I x.n, I x.lv, .string x.lb, I x.rid, I x.md] 46).G ((G.refl _).alloc (.cells #[I 0, I 0, .string { data := #[] }, .string { data := #[] }, I 0, I 0, I 0, .string { data := #[] }, I 0, .string { data := #[] }, I 0, I 0] 49))).cell
  have n13 : B1 ≠ B3 := by omega
  have n23 : B2 ≠ B3 := by omega
  have h2s : W.heap.size ≤ B2 := by omega
  have h3s : W.heap.size ≤ B3 := by omega
  have HEW : Hid ((((W.alloc (.cells #[I 13, I x.id, I x.tt, .string x.name, .string x.key, I x.k, I x.a, I x.b, .string x.s, .slice pa pn pc, .bool x.flag, I x.n, I x.lv, .string x.lb, I x.rid, I x.md] 46)).alloc (.cells #[I 0, I 0, .string { data := #[] }, .string { data := #[] }, I 0, I 0, I 0, .string { data := #[] }, I 0, .string { data := #[] }, I 0, I 0] 49)).alloc (.cells #[I 4, I 0, .string { data := #[] }, .string { data := #[] }, I 0, I 0, I 0, .string { data := #[] }, I 0, .string { data := #[] }, I 0, I 0] 49)) = w3) := hw3.symm
  have HE1 : Hid (W.heap.size = B1) := hB1.symm
  have HE2 : Hid (B1 + 1 = B2) := hB2.symm
  have HE3 : Hid (B2 + 1 = B3) := hB3.symm
  have p := hb1.cell; have q := hb3.cell; have z := hb3.frozen
  have p0 := (hb1.off (o := 1) (v := I x.id) n13).cell
  have q0 := (hb3.set 1 (I x.id)).cell
  have z0 := (hb3.set 1 (I x.id)).frozen
  have r9 := (hb2.off (o := 1) (v := I x.id) n23).cell
  have y9 := (hb2.off (o := 1) (v := I x.id) n23).frozen
  have HC9 := hide (((((((((((((hb2.off (o := 1) (v := I x.id) n23).set 0 (I 4)).set 1 (I x.id)).set 2 (.string { data := #[] })).set 3 (.string { data := #[] })).set 4 (I 0)).set 5 (I 0)).set 6 (I 0)).set 7 (.string { data := #[] })).set 8 (I 0)).set 9 (.string { data := #[] })).set 10 (I 0)).set 11 (I 0))
  have HG9 : Hid (G W (((((((((((((w3.setCell ⟨B3, 1, none⟩ (I x.id)).setCell ⟨B2, 0, none⟩ (I 4)).setCell ⟨B2, 1, none⟩ (I x.id)).setCell ⟨B2, 2, none⟩ (.string { data := #[] })).setCell ⟨B2, 3, none⟩ (.string { data := #[] })).setCell ⟨B2, 4, none⟩ (I 0)).setCell ⟨B2, 5, none⟩ (I 0)).setCell ⟨B2, 6, none⟩ (I 0)).setCell ⟨B2, 7, none⟩ (.string { data := #[] })).setCell ⟨B2, 8, none⟩ (I 0)).setCell ⟨B2, 9, none⟩ (.string { data := #[] })).setCell ⟨B2, 10, none⟩ (I 0)).setCell ⟨B2, 11, none⟩ (I 0))) := (((((((((((((hg3.setCell h3s (I x.id)).setCell h2s (I 4)).setCell h2s (I x.id)).setCell h2s (.string { data := #[] })).setCell h2s (.string { data := #[] })).setCell h2s (I 0)).setCell h2s (I 0)).setCell h2s (I 0)).setCell h2s (.string { data := #[] })).setCell h2s (I 0)).setCell h2s (.string { data := #[] })).setCell h2s (I 0)).setCell h2s (I 0))
  clear hg3 hb1 hb2 hb3 hw3 hB1 hB2 hB3 n13 n23 h2s h3s
  go_enter Tryz.func18, Tryz.ntmps18
  go_wp2_with (first | (rw [HEW.out]; (try rw [HE1.out]); (try rw [HE2.out]); (try rw [HE3.out]); clear HEW e0) | fail)
  exact bodyPost_ret_by (v := .agg #[I 4, I x.id, .string { data := #[] }, .string { data := #[] }, I 0, I 0, I 0, .string { data := #[] }, I 0, .string { data := #[] }, I 0, I 0]) (results_cell_row Tryz.results18 _ _ B2 49 _ (0, 0) _ rfl HC9.out.h Tryz.underlying49 rfl (by kernel_rfl)) rfl ⟨rfl, HG9.out⟩
set_option maxRecDepth 100000 in
set_option maxHeartbeats 4000000 in
theorem scOut (x : St) (pa : Option Addr) (pn pc : Nat) (W : World) : Calls Tryz.prog 18 #[.agg #[I 14, I x.id, I x.tt, .string x.name, .string x.key, I x.k, I x.a, I x.b, .string x.s, .slice pa pn pc, .bool x.flag, I x.n, I x.lv, .string x.lb, I x.rid, I x.md]] W fun e W' => e = .returned (.agg #[I 5, I x.id, .string { data := #[] }, .string { data := #[] }, I 0, I 0, I 0, .string { data := #[] }, I 0, .string { data := #[] }, I 0, I 0]) ∧ G W W' := by
  obtain ⟨B1, hB1⟩ : ∃ B1, B1 = W.heap.size := ⟨_, rfl⟩
  obtain ⟨B2, hB2⟩ : ∃ B2, B2 = B1 + 1 := ⟨_, rfl⟩
  obtain ⟨B3, hB3⟩ : ∃ B3, B3 = B2 + 1 := ⟨_, rfl⟩
  obtain ⟨w3, hw3⟩ : ∃ w3, w3 = (((W.alloc (.cells #[I 14, I x.id, I x.tt, .string x.name, .string x.key, I x.k, I x.a, I x.b, .string x.s, .slice pa pn pc, .bool x.flag, I x.n, I x.lv, .string x.lb, I x.rid, I x.md] 46)).alloc (.cells #[I 0, I 0, .string { data := #[] }, .string { data := #[] }, I 0, I 0, I 0, .string { data := #[] }, I 0, .string { data := #[] }, I 0, I 0] 49)).alloc (.cells #[I 5, I 0, .string { data := #[] }, .string { data := #[] }, I 0, I 0, I 0, .string { data := #[] }, I 0, .string { data := #[] }, I 0, I 0] 49)) := ⟨_, rfl⟩
  have hg3 : G W w3 := by rw [hw3]; exact (((G.refl W).alloc _).alloc _).alloc _
  have hb1 : Blk w3 B1 46 [I 14, I x.id, I x.tt, .string x.name, .string x.key, I x.k, I x.a, I x.b, .string x.s, .slice pa pn pc, .bool x.flag, I x.n, I x.lv, .string x.lb, I x.rid, I x.md] := by rw [hw3, hB1]; exact (Blk.new W [I 14, I x.id, I x.tt, .string x.name, .string x.key, I x.k, I x.a, I x.b, .string x.s, .slice pa pn pc, .bool x.flag, I x.n, I x.lv, .string x.lb, I x.rid, I x.md] 46).G (((G.refl _).alloc _).alloc _)
  have hb2 : Blk w3 B2 49 [I 0, I 0, .string { data := #[] }, .string { data := #[] }, I 0, I 0, I 0, .string { data := #[] }, I 0, .string { data := #[] }, I 0, I 0] := by
    have := (Blk.new (W.alloc (.cells #[I 14, I x.id, I x.tt, .string x.name, .string x.key, I x.k, I x.a, I x.b, .string x.s, .slice pa pn pc, .bool x.flag, I x.n, I x.lv, .string x.lb, I x.rid, I x.md] 46)) [I 0, I 0, .string { data := #[] }, .string { data := #[] }, I 0, I 0, I 0, .string { data := #[] }, I 0, .string { data := #[] }, I 0, I 0] 49).G ((G.refl _).alloc (.cells #[I 5, I 0, .string { data := #[] }, .string { data := #[] }, I 0, I 0, I 0, .string { data := #[] }, I 0, .string { data := #[] }, I 0, I 0] 49))
    rw [hw3, hB2, hB1]
    simpa using this
  have hb3 : Blk w3 B3 49 [I 5, I 0, .string { data := #[] }, .string { data := #[] }, I 0, I 0, I 0, .string { data := #[] }, I 0, .string { data := #[] }, I 0, I 0] := by
    have := Blk.new ((W.alloc (.cells #[I 14, I x.id, I x.tt, .string x.name, .string x.key, I x.k, I x.a, I x.b, .string x.s, .slice pa pn pc, .bool x.flag, I x.n, I x.lv, .string x.lb, I x.rid, I x.md] 46)).alloc (.cells #[I 0, I 0, .string { data := #[] }, .string { data := #[] }, I 0, I 0, I 0, .string { data := #[] }, I 0, .string { data := #[] }, I 0, I 0] 49)) [I 5, I 0, .string { data := #[] }, .string { data := #[] }, I 0, I 0, I 0, .string { data := #[] }, I 0, .string { data := #[] }, I 0, I 0] 49
    rw [hw3, hB3, hB2, hB1]
    simpa using this
  have e0 := ((Blk.new W [I 14, I x.id, I x.tt, .string x.name, .string x.key, I x.k, I x.a, I x.b, .string x.s, .slice pa pn pc, .bool x.flag, I x.n, I x.lv, .string x.lb, I x.rid, I x.md] 46).G ((G.refl _).alloc (.cells #[I 0, I 0, .string { data := #[] }, .string { data := #[] }, I 0, I 0, I 0, .string { data := #[] }, I 0, .string { data := #[] }, I 0, I 0] 49))).cell
  have n13 : B1 ≠ B3 := by omega
  have n23 : B2 ≠ B3 := by omega
  have h2s : W.heap.size ≤ B2 := by omega
  have h3s : W.heap.size ≤ B3 := by omega
  have HEW : Hid ((((W.alloc (.cells #[I 14, I x.id, I x.tt, .string x.name, .string x.key, I x.k, I x.a, I x.b, .string x.s, .slice pa pn pc, .bool x.flag, I x.n, I x.lv, .string x.lb, I x.rid, I x.md] 46)).alloc (.cells #[I 0, I 0, .string { data := #[] }, .string { data := #[] }, I 0, I 0, I 0, .string { data := #[] }, I 0, .string { data := #[] }, I 0, I 0] 49)).alloc (.cells #[I 5, I 0, .string { data := #[] }, .string { data := #[] }, I 0, I 0, I 0, .string { data := #[] }, I 0, .string { data := #[] }, I 0, I 0] 49)) = w3) := hw3.symm
  have HE1 : Hid (W.heap.size = B1) := hB1.symm
  have HE2 : Hid (B1 + 1 = B2) := hB2.symm
  have HE3 : Hid (B2 + 1 = B3) := hB3.symm
  have p := hb1.cell; have q := hb3.cell; have z := hb3.frozen
  have p0 := (hb1.off (o := 1) (v := I x.id) n13).cell
  have q0 := (hb3.set 1 (I x.id)).cell
  have z0 := (hb3.set 1 (I x.id)).frozen
  have r9 := (hb2.off (o := 1) (v := I x.id) n23).cell
  have y9 := (hb2.off (o := 1) (v := I x.id) n23).frozen
  have HC9 := hide (((((((((((((hb2.off (o := 1) (v := I x.id) n23).set 0 (I 5)).set 1 (I x.id)).set 2 (.string { data := #[] })).set 3 (.string { data := #[] })).set 4 (I 0)).set 5 (I 0)).set 6 (I 0)).set 7 (.string { data := #[] })).set 8 (I 0)).set 9 (.string { data := #[] })).set 10 (I 0)).set 11 (I 0))
  have HG9 : Hid (G W (((((((((((((w3.setCell ⟨B3, 1, none⟩ (I x.id)).setCell ⟨B2, 0, none⟩ (I 5)).setCell ⟨B2, 1, none⟩ (I x.id)).setCell ⟨B2, 2, none⟩ (.string { data := #[] })).setCell ⟨B2, 3, none⟩ (.string { data := #[] })).setCell ⟨B2, 4, none⟩ (I 0)).setCell ⟨B2, 5, none⟩ (I 0)).setCell ⟨B2, 6, none⟩ (I 0)).setCell ⟨B2, 7, none⟩ (.string { data := #[] })).setCell ⟨B2, 8, none⟩ (I 0)).setCell ⟨B2, 9, none⟩ (.string { data := #[] })).setCell ⟨B2, 10, none⟩ (I 0)).setCell ⟨B2, 11, none⟩ (I 0))) := (((((((((((((hg3.setCell h3s (I x.id)).setCell h2s (I 5)).setCell h2s (I x.id)).setCell h2s (.string { data := #[] })).setCell h2s (.string { data := #[] })).setCell h2s (I 0)).setCell h2s (I 0)).setCell h2s (I 0)).setCell h2s (.string { data := #[] })).setCell h2s (I 0)).setCell h2s (.string { data := #[] })).setCell h2s (I 0)).setCell h2s (I 0))
  clear hg3 hb1 hb2 hb3 hw3 hB1 hB2 hB3 n13 n23 h2s h3s
  go_enter Tryz.func18, Tryz.ntmps18
  go_wp2_with (first | (rw [HEW.out]; (try rw [HE1.out]); (try rw [HE2.out]); (try rw [HE3.out]); clear HEW e0) | fail)
  exact bodyPost_ret_by (v := .agg #[I 5, I x.id, .string { data := #[] }, .string { data := #[] }, I 0, I 0, I 0, .string { data := #[] }, I 0, .string { data := #[] }, I 0, I 0]) (results_cell_row Tryz.results18 _ _ B2 49 _ (0, 0) _ rfl HC9.out.h Tryz.underlying49 rfl (by kernel_rfl)) rfl ⟨rfl, HG9.out⟩
set_option maxRecDepth 100000 in
set_option maxHeartbeats 4000000 in
theorem scIn (x : St) (pa : Option Addr) (pn pc : Nat) (W : World) : Calls Tryz.prog 18 #[.agg #[I 15, I x.id, I x.tt, .string x.name, .string x.key, I x.k, I x.a, I x.b, .string x.s, .slice pa pn pc, .bool x.flag, I x.n, I x.lv, .string x.lb, I x.rid, I x.md]] W fun e W' => e = .returned (.agg #[I 6, I x.id, .string { data := #[] }, .string { data := #[] }, I 0, I 0, I 0, .string { data := #[] }, I 0, .string { data := #[] }, I 0, I 0]) ∧ G W W' := by
  obtain ⟨B1, hB1⟩ : ∃ B1, B1 = W.heap.size := ⟨_, rfl⟩
  obtain ⟨B2, hB2⟩ : ∃ B2, B2 = B1 + 1 := ⟨_, rfl⟩
  obtain ⟨B3, hB3⟩ : ∃ B3, B3 = B2 + 1 := ⟨_, rfl⟩
  obtain ⟨w3, hw3⟩ : ∃ w3, w3 = (((W.alloc (.cells #[I 15, I x.id, I x.tt, .string x.name, .string x.key, I x.k, I x.a, I x.b, .string x.s, .slice pa pn pc, .bool x.flag, I x.n, I x.lv, .string x.lb, I x.rid, I x.md] 46)).alloc (.cells #[I 0, I 0, .string { data := #[] }, .string { data := #[] }, I 0, I 0, I 0, .string { data := #[] }, I 0, .string { data := #[] }, I 0, I 0] 49)).alloc (.cells #[I 6, I 0, .string { data := #[] }, .string { data := #[] }, I 0, I 0, I 0, .string { data := #[] }, I 0, .string { data := #[] }, I 0, I 0] 49)) := ⟨_, rfl⟩
  have hg3 : G W w3 := by rw [hw3]; exact (((G.refl W).alloc _).alloc _).alloc _
  have hb1 : Blk w3 B1 46 [I 15, I x.id, I x.tt, .string x.name, .string x.key, I x.k, I x.a, I x.b, .string x.s, .slice pa pn pc, .bool x.flag, I x.n, I x.lv, .string x.lb, I x.rid, I x.md] := by rw [hw3, hB1]; exact (Blk.new W [I 15, I x.id, I x.tt, .string x.name, .string x.key, I x.k, I x.a, I x.b, .string x.s, .slice pa pn pc, .bool x.flag, I x.n, I x.lv, .string x.lb, I x.rid, I x.md] 46).G (((G.refl _).alloc _).alloc _)
  have hb2 : Blk w3 B2 49 [I 0, I 0, .string { data := #[] }, .string { data := #[] }, I 0, I 0, I 0, .string { data := #[] }, I 0, .string { data := #[] }, I 0, I 0] := by
    have := (Blk.new (W.alloc (.cells #[I 15, I x.id, I x.tt, .string x.name, .string x.key, I x.k, I x.a, I x.b, .string x.s, .slice pa pn pc, .bool x.flag, I x.n, I x.lv, .string x.lb, I x.rid, I x.md] 46)) [I 0, I 0, .string { data := #[] }, .string { data := #[] }, I 0, I 0, I 0, .string { data := #[] }, I 0, .string { data := #[] }, I 0, I 0] 49).G ((G.refl _).alloc (.cells #[I 6, I 0, .string { data := #[] }, .string { data := #[] }, I 0, I 0, I 0, .string { data := #[] }, I 0, .string { data := #[] }, I 0, I 0] 49))
    rw [hw3, hB2, hB1]
    simpa using this
  have hb3 : Blk w3 B3 49 [I 6, I 0, .string { data := #[] }, .string { data := #[] }, I 0, I 0, I 0, .string { data := #[] }, I 0, .string { data := #[] }, I 0, I 0] := by
    have := Blk.new ((W.alloc (.cells #[I 15, I x.id, I x.tt, .string x.name, .string x.key, I x.k, I x.a, I x.b, .string x.s, .slice pa pn pc, .bool x.flag, I x.n, I x.lv, .string x.lb, I x.rid, I x.md] 46)).alloc (.cells #[I 0, I 0, .string { data := #[] }, .string { data := #[] }, I 0, I 0, I 0, .string { data := #[] }, I 0, .string { data := #[] }, I 0, I 0] 49)) [I 6, I 0, .string { data := #[] }, .string { data := #[] }, I 0, I 0, I 0, .string { data := #[] }, I 0, .string { data := #[] }, I 0, I 0] 49
    rw [hw3, hB3, hB2, hB1]
    simpa using this
  have e0 := ((Blk.new W [I 15, I x.id, I x.tt, .string x.name, .string x.key, I x.k, I x.a, I x.b, .string x.s, .slice pa pn pc, .bool x.flag, I x.n, I x.lv, .string x.lb, I x.rid, I x.md] 46).G ((G.refl _).alloc (.cells #[I 0, I 0, .string { data := #[] }, .string { data := #[] }, I 0, I 0, I 0, .string { data := #[] }, I 0, .string { data := #[] }, I 0, I 0] 49))).cell
  have n13 : B1 ≠ B3 := by omega
  have n23 : B2 ≠ B3 := by omega
  have h2s : W.heap.size ≤ B2 := by omega
  have h3s : W.heap.size ≤ B3 := by omega
  have HEW : Hid ((((W.alloc (.cells #[I 15, I x.id, I x.tt, .string x.name, .string x.key, I x.k, I x.a, I x.b, .string x.s, .slice pa pn pc, .bool x.flag, I x.n, I x.lv, .string x.lb, I x.rid, I x.md] 46)).alloc (.cells #[I 0, I 0, .string { data := #[] }, .string { data := #[] }, I 0, I 0, I 0, .string { data := #[] }, I 0, .string { data := #[] }, I 0, I 0] 49)).alloc (.cells #[I 6, I 0, .string { data := #[] }, .string { data := #[] }, I 0, I 0, I 0, .string { data := #[] }, I 0, .string { data := #[] }, I 0, I 0] 49)) = w3) := hw3.symm
  have HE1 : Hid (W.heap.size = B1) := hB1.symm
  have HE2 : Hid (B1 + 1 = B2) := hB2.symm
  have HE3 : Hid (B2 + 1 = B3) := hB3.symm
  have p := hb1.cell; have q := hb3.cell; have z := hb3.frozen
  have p0 := (hb1.off (o := 1) (v := I x.id) n13).cell
  have q0 := (hb3.set 1 (I x.id)).cell
  have z0 := (hb3.set 1 (I x.id)).frozen
  have r9 := (hb2.off (o := 1) (v := I x.id) n23).cell
  have y9 := (hb2.off (o := 1) (v := I x.id) n23).frozen
  have HC9 := hide (((((((((((((hb2.off (o := 1) (v := I x.id) n23).set 0 (I 6)).set 1 (I x.id)).set 2 (.string { data := #[] })).set 3 (.string { data := #[] })).set 4 (I 0)).set 5 (I 0)).set 6 (I 0)).set 7 (.string { data := #[] })).set 8 (I 0)).set 9 (.string { data := #[] })).set 10 (I 0)).set 11 (I 0))
  have HG9 : Hid (G W (((((((((((((w3.setCell ⟨B3, 1, none⟩ (I x.id)).setCell ⟨B2, 0, none⟩ (I 6)).setCell ⟨B2, 1, none⟩ (I x.id)).setCell ⟨B2, 2, none⟩ (.string { data := #[] })).setCell ⟨B2, 3, none⟩ (.string { data := #[] })).setCell ⟨B2, 4, none⟩ (I 0)).setCell ⟨B2, 5, none⟩ (I 0)).setCell ⟨B2, 6, none⟩ (I 0)).setCell ⟨B2, 7, none⟩ (.string { data := #[] })).setCell ⟨B2, 8, none⟩ (I 0)).setCell ⟨B2, 9, none⟩ (.string { data := #[] })).setCell ⟨B2, 10, none⟩ (I 0)).setCell ⟨B2, 11, none⟩ (I 0))) := (((((((((((((hg3.setCell h3s (I x.id)).setCell h2s (I 6)).setCell h2s (I x.id)).setCell h2s (.string { data := #[] })).setCell h2s (.string { data := #[] })).setCell h2s (I 0)).setCell h2s (I 0)).setCell h2s (I 0)).setCell h2s (.string { data := #[] })).setCell h2s (I 0)).setCell h2s (.string { data := #[] })).setCell h2s (I 0)).setCell h2s (I 0))
  clear hg3 hb1 hb2 hb3 hw3 hB1 hB2 hB3 n13 n23 h2s h3s
  go_enter Tryz.func18, Tryz.ntmps18
  go_wp2_with (first | (rw [HEW.out]; (try rw [HE1.out]); (try rw [HE2.out]); (try rw [HE3.out]); clear HEW e0) | fail)
  exact bodyPost_ret_by (v := .agg #[I 6, I x.id, .string { data := #[] }, .string { data := #[] }, I 0, I 0, I 0, .string { data := #[] }, I 0, .string { data := #[] }, I 0, I 0]) (results_cell_row Tryz.results18 _ _ B2 49 _ (0, 0) _ rfl HC9.out.h Tryz.underlying49 rfl (by kernel_rfl)) rfl ⟨rfl, HG9.out⟩
set_option maxRecDepth 100000 in
set_option maxHeartbeats 4000000 in
theorem scHold (x : St) (pa : Option Addr) (pn pc : Nat) (W : World) : Calls Tryz.prog 18 #[.agg #[I 16, I x.id, I x.tt, .string x.name, .string x.key, I x.k, I x.a, I x.b, .string x.s, .slice pa pn pc, .bool x.flag, I x.n, I x.lv, .string x.lb, I x.rid, I x.md]] W fun e W' => e = .returned (.agg #[I 7, I 0, .string { data := #[] }, .string { data := #[] }, I 0, I 0, I 0, .string { data := #[] }, I x.lv, .string x.lb, I x.rid, I x.md]) ∧ G W W' := by
  obtain ⟨B1, hB1⟩ : ∃ B1, B1 = W.heap.size := ⟨_, rfl⟩
  obtain ⟨B2, hB2⟩ : ∃ B2, B2 = B1 + 1 := ⟨_, rfl⟩
  obtain ⟨B3, hB3⟩ : ∃ B3, B3 = B2 + 1 := ⟨_, rfl⟩
  obtain ⟨w3, hw3⟩ : ∃ w3, w3 = (((W.alloc (.cells #[I 16, I x.id, I x.tt, .string x.name, .string x.key, I x.k, I x.a, I x.b, .string x.s, .slice pa pn pc, .bool x.flag, I x.n, I x.lv, .string x.lb, I x.rid, I x.md] 46)).alloc (.cells #[I 0, I 0, .string { data := #[] }, .string { data := #[] }, I 0, I 0, I 0, .string { data := #[] }, I 0, .string { data := #[] }, I 0, I 0] 49)).alloc (.cells #[I 7, I 0, .string { data := #[] }, .string { data := #[] }, I 0, I 0, I 0, .string { data := #[] }, I 0, .string { data := #[] }, I 0, I 0] 49)) := ⟨_, rfl⟩
  have hg3 : G W w3 := by rw [hw3]; exact (((G.refl W).alloc _).alloc _).alloc _
  have hb1 : Blk w3 B1 46 [I 16, I x.id, I x.tt, .string x.name, .string x.key, I x.k, I x.a, I x.b, .string x.s, .slice pa pn pc, .bool x.flag, I x.n, I x.lv, .string x.lb, I x.rid, I x.md] := by rw [hw3, hB1]; exact (Blk.new W [I 16, I x.id, I x.tt, .string x.name, .string x.key, I x.k, I x.a, I x.b, .string x.s, .slice pa pn pc, .bool x.flag, I x.n, I x.lv, .string x.lb, I x.rid, I x.md] 46).G (((G.refl _).alloc _).alloc _)
  have hb2 : Blk w3 B2 49 [I 0, I 0, .string { data := #[] }, .string { data := #[] }, I 0, I 0, I 0, .string { data := #[] }, I 0, .string { data := #[] }, I 0, I 0] := by
    have := (Blk.new (W.alloc (.cells #[I 16, I x.id, I x.tt, .string x.name, .string x.key, I x.k, I x.a, I x.b, .string x.s, .slice pa pn pc, .bool x.flag, I x.n, I x.lv, .string x.lb, I x.rid, I x.md] 46)) [I 0, I 0, .string { data := #[] }, .string { data := #[] }, I 0, I 0, I 0, .string { data := #[] }, I 0, .string { data := #[] }, I 0, I 0] 49).G ((G.refl _).alloc (.cells #[I 7, I 0, .string { data := #[] }, .string { data := #[] }, I 0, I 0, I 0, .string { data := #[] }, I 0, .string { data := #[] }, I 0, I 0] 49))
    rw [hw3, hB2, hB1]
    simpa using this
  have hb3 : Blk w3 B3 49 [I 7, I 0, .string { data := #[] }, .string { data := #[] }, I 0, I 0, I 0, .string { data := #[] }, I 0, .string { data := #[] }, I 0, I 0] := by
    have := Blk.new ((W.alloc (.cells #[I 16, I x.id, I x.tt, .string x.name, .string x.key, I x.k, I x.a, I x.b, .string x.s, .slice pa pn pc, .bool x.flag, I x.n, I x.lv, .string x.lb, I x.rid, I x.md] 46)).alloc (.cells #[I 0, I 0, .string { data := #[] }, .string { data := #[] }, I 0, I 0, I 0, .string { data := #[] }, I 0, .string { data := #[] }, I 0, I 0] 49)) [I 7, I 0, .string { data := #[] }, .string { data := #[] }, I 0, I 0, I 0, .string { data := #[] }, I 0, .string { data := #[] }, I 0, I 0] 49
    rw [hw3, hB3, hB2, hB1]
    simpa using this
  have e0 := ((Blk.new W [I 16, I x.id, I x.tt, .string x.name, .string x.key, I x.k, I x.a, I x.b, .string x.s, .slice pa pn pc, .bool x.flag, I x.n, I x.lv, .string x.lb, I x.rid, I x.md] 46).G ((G.refl _).alloc (.cells #[I 0, I 0, .string { data := #[] }, .string { data := #[] }, I 0, I 0, I 0, .string { data := #[] }, I 0, .string { data := #[] }, I 0, I 0] 49))).cell
  have n13 : B1 ≠ B3 := by omega
  have n23 : B2 ≠ B3 := by omega
  have h2s : W.heap.size ≤ B2 := by omega
  have h3s : W.heap.size ≤ B3 := by omega
  have HEW : Hid ((((W.alloc (.cells #[I 16, I x.id, I x.tt, .string x.name, .string x.key, I x.k, I x.a, I x.b, .string x.s, .slice pa pn pc, .bool x.flag, I x.n, I x.lv, .string x.lb, I x.rid, I x.md] 46)).alloc (.cells #[I 0, I 0, .string { data := #[] }, .string { data := #[] }, I 0, I 0, I 0, .string { data := #[] }, I 0, .string { data := #[] }, I 0, I 0] 49)).alloc (.cells #[I 7, I 0, .string { data := #[] }, .string { data := #[] }, I 0, I 0, I 0, .string { data := #[] }, I 0, .string { data := #[] }, I 0, I 0] 49)) = w3) := hw3.symm
  have HE1 : Hid (W.heap.size = B1) := hB1.symm
  have HE2 : Hid (B1 + 1 = B2) := hB2.symm
  have HE3 : Hid (B2 + 1 = B3) := hB3.symm
  have p := hb1.cell; have q := hb3.cell; have z := hb3.frozen
  have p0 := (hb1.off (o := 8) (v := I x.lv) n13).cell
  have q0 := (hb3.set 8 (I x.lv)).cell
  have z0 := (hb3.set 8 (I x.lv)).frozen
  have p1 := ((hb1.off (o := 8) (v := I x.lv) n13).off (o := 9) (v := .string x.lb) n13).cell
  have q1 := ((hb3.set 8 (I x.lv)).set 9 (.string x.lb)).cell
  have z1 := ((hb3.set 8 (I x.lv)).set 9 (.string x.lb)).frozen
  have p2 := (((hb1.off (o := 8) (v := I x.lv) n13).off (o := 9) (v := .string x.lb) n13).off (o := 10) (v := I x.rid) n13).cell
  have q2 := (((hb3.set 8 (I x.lv)).set 9 (.string x.lb)).set 10 (I x.rid)).cell
  have z2 := (((hb3.set 8 (I x.lv)).set 9 (.string x.lb)).set 10 (I x.rid)).frozen
  have p3 := ((((hb1.off (o := 8) (v := I x.lv) n13).off (o := 9) (v := .string x.lb) n13).off (o := 10) (v := I x.rid) n13).off (o := 11) (v := I x.md) n13).cell
  have q3 := ((((hb3.set 8 (I x.lv)).set 9 (.string x.lb)).set 10 (I x.rid)).set 11 (I x.md)).cell
  have z3 := ((((hb3.set 8 (I x.lv)).set 9 (.string x.lb)).set 10 (I x.rid)).set 11 (I x.md)).frozen
  have r9 := ((((hb2.off (o := 8) (v := I x.lv) n23).off (o := 9) (v := .string x.lb) n23).off (o := 10) (v := I x.rid) n23).off (o := 11) (v := I x.md) n23).cell
  have y9 := ((((hb2.off (o := 8) (v := I x.lv) n23).off (o := 9) (v := .string x.lb) n23).off (o := 10) (v := I x.rid) n23).off (o := 11) (v := I x.md) n23).frozen
  have HC9 := hide ((((((((((((((((hb2.off (o := 8) (v := I x.lv) n23).off (o := 9) (v := .string x.lb) n23).off (o := 10) (v := I x.rid) n23).off (o := 11) (v := I x.md) n23).set 0 (I 7)).set 1 (I 0)).set 2 (.string { data := #[] })).set 3 (.string { data := #[] })).set 4 (I 0)).set 5 (I 0)).set 6 (I 0)).set 7 (.string { data := #[] })).set 8 (I x.lv)).set 9 (.string x.lb)).set 10 (I x.rid)).set 11 (I x.md))
  have HG9 : Hid (G W ((((((((((((((((w3.setCell ⟨B3, 8, none⟩ (I x.lv)).setCell ⟨B3, 9, none⟩ (.string x.lb)).setCell ⟨B3, 10, none⟩ (I x.rid)).setCell ⟨B3, 11, none⟩ (I x.md)).setCell ⟨B2, 0, none⟩ (I 7)).setCell ⟨B2, 1, none⟩ (I 0)).setCell ⟨B2, 2, none⟩ (.string { data := #[] })).setCell ⟨B2, 3, none⟩ (.string { data := #[] })).setCell ⟨B2, 4, none⟩ (I 0)).setCell ⟨B2, 5, none⟩ (I 0)).setCell ⟨B2, 6, none⟩ (I 0)).setCell ⟨B2, 7, none⟩ (.string { data := #[] })).setCell ⟨B2, 8, none⟩ (I x.lv)).setCell ⟨B2, 9, none⟩ (.string x.lb)).setCell ⟨B2, 10, none⟩ (I x.rid)).setCell ⟨B2, 11, none⟩ (I x.md))) := ((((((((((((((((hg3.setCell h3s (I x.lv)).setCell h3s (.string x.lb)).setCell h3s (I x.rid)).setCell h3s (I x.md)).setCell h2s (I 7)).setCell h2s (I 0)).setCell h2s (.string { data := #[] })).setCell h2s (.string { data := #[] })).setCell h2s (I 0)).setCell h2s (I 0)).setCell h2s (I 0)).setCell h2s (.string { data := #[] })).setCell h2s (I x.lv)).setCell h2s (.string x.lb)).setCell h2s (I x.rid)).setCell h2s (I x.md))
  clear hg3 hb1 hb2 hb3 hw3 hB1 hB2 hB3 n13 n23 h2s h3s
  go_enter Tryz.func18, Tryz.ntmps18
  go_wp2_with (first | (rw [HEW.out]; (try rw [HE1.out]); (try rw [HE2.out]); (try rw [HE3.out]); clear HEW e0) | fail)
  exact bodyPost_ret_by (v := .agg #[I 7, I 0, .string { data := #[] }, .string { data := #[] }, I 0, I 0, I 0, .string { data := #[] }, I x.lv, .string x.lb, I x.rid, I x.md]) (results_cell_row Tryz.results18 _ _ B2 49 _ (0, 0) _ rfl HC9.out.h Tryz.underlying49 rfl (by kernel_rfl)) rfl ⟨rfl, HG9.out⟩
end Go.Proofs.YtifioikdhfhljaaGreatDoor
