/- Graphs: Graph. -/
import Derived.Test.YtifioikdhfhljaaGreatDoorSh9
namespace Go.Proofs.YtifioikdhfhljaaGreatDoor
open Go.RowKit Go.Maps
set_option maxRecDepth 100000 in
set_option maxHeartbeats 1000000 in
theorem graph_nil (W : World) : Calls Tryz.prog 14 #[.pointer none] W fun e W' => e = .returned (.agg #[.slice none 0 0, .slice none 0 0]) ∧ G W W' := by
  obtain ⟨w2, hw2⟩ : ∃ w2, w2 = (W.alloc (.cells #[.pointer none] 29)).alloc (.cells #[.slice none 0 0, .slice none 0 0] 25) := ⟨_, rfl⟩
  have hg2 : G W w2 := by rw [hw2]; exact ((G.refl W).alloc _).alloc _
  obtain ⟨bx, hbx⟩ : ∃ bx, bx = W.heap.size := ⟨_, rfl⟩
  obtain ⟨B, hB⟩ : ∃ B, B = bx + 1 := ⟨_, rfl⟩
  have hB1 : Blk w2 bx 29 [.pointer none] := by rw [hw2, hbx]; exact (Blk.new W [.pointer none] 29).G ((G.refl _).alloc _)
  have hB2 : Blk w2 B 25 [.slice none 0 0, .slice none 0 0] := by
    have := Blk.new (W.alloc (.cells #[.pointer none] 29)) [.slice none 0 0, .slice none 0 0] 25
    rw [hw2, hB, hbx]
    simpa using this
  have HB1 := hide hB1; have HB2 := hide hB2; have HG2 := hide hg2
  have HEW : Hid ((W.alloc (.cells #[.pointer none] 29)).alloc (.cells #[.slice none 0 0, .slice none 0 0] 25) = w2) := hw2.symm
  have HEX : Hid (W.heap.size = bx) := hbx.symm
  have HEB : Hid (bx + 1 = B) := hB.symm
  have HBS : Hid (W.heap.size ≤ B) := by show _ ≤ _; omega
  clear hw2 hg2 hB1 hB2 hB hbx
  go_enter Tryz.func14, Tryz.ntmps14
  go_wp2_with (first | (rw [HEW.out, HEX.out, HEB.out]; have hc1 := HB1.out.cell; have hc9 := HB2.out.cell; have hz9 := HB2.out.frozen; clear HEW HEX HEB) | fail)
  have hC9 := (HB2.out.set 0 (.slice none 0 0)).set 1 (.slice none 0 0)
  have hF9 : G W ((w2.setCell ⟨B, 0, none⟩ (.slice none 0 0)).setCell ⟨B, 1, none⟩ (.slice none 0 0)) := (HG2.out.setCell HBS.out (.slice none 0 0)).setCell HBS.out (.slice none 0 0)
  trace_state
  exact bodyPost_ret_by (v := .agg #[.slice none 0 0, .slice none 0 0]) (results_cell_row Tryz.results14 _ _ B 25 _ (0, 0) _ rfl hC9.h Tryz.underlying25 rfl (by kernel_rfl)) rfl ⟨rfl, hF9⟩
set_option maxRecDepth 100000 in
set_option maxHeartbeats 4000000 in
theorem graph_any (lo : Nat) (mb : Nat) (ns : List Nd) (es : List Ed) (qv nid eid : Value) (m1 m2 b1 b2 : Nat) (g1 g2 f1 f2 : Int → Option Value) (W : World) (h : MemG lo W mb ns es qv nid eid m1 m2 b1 b2 g1 g2 f1 f2) (hr : IdOk ns es) (hb : GrB ns es) : Calls Tryz.prog 14 #[ptr mb] W fun e W' => ∃ na nn nc ea en ec, e = .returned (.agg #[.slice na nn nc, .slice ea en ec]) ∧ NRow dNo 69 W' (.slice na nn nc) ns ∧ NRow dEo 72 W' (.slice ea en ec) es ∧ G W W' := by
  obtain ⟨w2, hw2⟩ : ∃ w2, w2 = ((W.alloc (.cells #[ptr mb] 29)).alloc (.cells #[.slice none 0 0, .slice none 0 0] 25)) := ⟨_, rfl⟩
  have hg2 : G W w2 := by rw [hw2]; exact ((G.refl W).alloc _).alloc _
  obtain ⟨bx, hbx⟩ : ∃ bx, bx = W.heap.size := ⟨_, rfl⟩
  obtain ⟨B, hB⟩ : ∃ B, B = bx + 1 := ⟨_, rfl⟩
  have hB1 : Blk w2 bx 29 [ptr mb] := by rw [hw2, hbx]; exact (Blk.new W [ptr mb] 29).G ((G.refl _).alloc _)
  have hB2 : Blk w2 B 25 [.slice none 0 0, .slice none 0 0] := by
    have := Blk.new (W.alloc (.cells #[ptr mb] 29)) [.slice none 0 0, .slice none 0 0] 25
    rw [hw2, hB, hbx]
    simpa using this
  have hM := h.G hg2
  have KN : Hid (∀ w3, G w2 w3 → Calls Tryz.prog 43 #[nid, .func (.func 44) #[] #[ptr bx]] w3 fun e w' => ∃ ra rn rc, e = .returned (.slice ra rn rc) ∧ NRow dNo 69 w' (.slice ra rn rc) ns ∧ Fresh w3 (.slice ra rn rc) ∧ G w3 w') := fun w3 g3 =>
    gmN_any bx ns nid w3 (hM.nrow.G g3).toRow hb.n fun x hx W' g' => gr1_any lo bx mb ns es qv nid eid m1 m2 b1 b2 g1 g2 f1 f2 x W' ((hM.G g3).G g') ((hB1.G g3).G g') hx (hr.1 x hx).1 (by have := hb.p x hx; omega)
  have KE : Hid (∀ w3, G w2 w3 → Calls Tryz.prog 46 #[eid, .func (.func 47) #[] #[ptr bx]] w3 fun e w' => ∃ ra rn rc, e = .returned (.slice ra rn rc) ∧ NRow dEo 72 w' (.slice ra rn rc) es ∧ Fresh w3 (.slice ra rn rc) ∧ G w3 w') := fun w3 g3 =>
    gmE_any bx es eid w3 (hM.erow.G g3).toRow hb.e fun x hx W' g' => gr2_any lo bx mb ns es qv nid eid m1 m2 b1 b2 g1 g2 f1 f2 x W' ((hM.G g3).G g') ((hB1.G g3).G g') hx (hr.2 x hx).1 (by have := hb.q x hx; omega)
  have HB1 := hide hB1; have HB2 := hide hB2; have HG2 := hide hg2; have HMM := hide hM
  have HEW : Hid (((W.alloc (.cells #[ptr mb] 29)).alloc (.cells #[.slice none 0 0, .slice none 0 0] 25)) = w2) := hw2.symm
  have HEX : Hid (W.heap.size = bx) := hbx.symm
  have HEB : Hid (bx + 1 = B) := hB.symm
  have HBS : Hid (W.heap.size ≤ B) := by show _ ≤ _; omega
  clear h hr hb hw2 hg2 hB1 hB2 hM hB hbx
  go_enter Tryz.func14, Tryz.ntmps14
  go_wp2_with (first | (rw [HEW.out, HEX.out, HEB.out]; have hc1 := HB1.out.cell; clear HEW HEX HEB) | fail)
  try rw [HEW.out, HEX.out, HEB.out]
  try clear HEW HEX HEB
  have hEQ : Op.binOp = Op.binOp := rfl
  clear hEQ
  refine wp_region_noPanic ?_
  refine wp_region_L (S := (fun V => G w2 V)) 15 (by kernel_rfl) ((G.refl w2).drew) (fun hHeld => ?_)
  refine wpAnyL_take (i := 0) (v := ?_) rfl (by kernel_rfl) (by kernel_rfl) (by kernel_rfl) (by kernel_rfl) (fun _ _ _ h => h) (Or.inl ⟨by rfl, ?_⟩) hHeld ?_
  rotate_left 1
  · (intro w hSw; have q1 := (HB1.out.G hSw).cell; have q2 := (HMM.out.G hSw).blk.cell; go_simp; try with_reducible rfl)
  try simp only [Act.put, List.getElem_toArray, List.getElem_cons_zero, List.setIfInBounds_toArray, List.set_cons_zero, List.set_cons_succ]
  refine wpAnyL_take (i := 1) (v := ?_) rfl (by kernel_rfl) (by kernel_rfl) (by kernel_rfl) (by kernel_rfl) (fun _ _ _ h => h) (Or.inl ⟨by rfl, ?_⟩) hHeld ?_
  rotate_left 1
  · (intro w hSw; have q1 := (HB1.out.G hSw).cell; have q2 := (HMM.out.G hSw).blk.cell; go_simp; try with_reducible rfl)
  try simp only [Act.put, List.getElem_toArray, List.getElem_cons_zero, List.getElem_cons_succ, List.setIfInBounds_toArray, List.set_cons_zero, List.set_cons_succ]
  refine wpAnyL_take (i := 2) (v := ?_) rfl (by kernel_rfl) (by kernel_rfl) (by kernel_rfl) (by kernel_rfl) (fun _ _ _ h => h) (Or.inl ⟨by rfl, ?_⟩) hHeld ?_
  rotate_left 1
  · (intro w hSw; have q1 := (HB1.out.G hSw).cell; have q2 := (HMM.out.G hSw).blk.cell; go_simp; try with_reducible rfl)
  try simp only [Act.put, List.getElem_toArray, List.getElem_cons_zero, List.getElem_cons_succ, List.setIfInBounds_toArray, List.set_cons_zero, List.set_cons_succ]
  refine wpAnyL_take (i := 3) (v := ?_) rfl (by kernel_rfl) (by kernel_rfl) (by kernel_rfl) (by kernel_rfl) (fun _ _ _ h => h) (Or.inl ⟨by rfl, ?_⟩) hHeld ?_
  rotate_left 1
  · (intro w hSw; have q1 := (HB1.out.G hSw).cell; have q2 := (HMM.out.G hSw).blk.cell; go_simp; try with_reducible rfl)
  try simp only [Act.put, List.getElem_toArray, List.getElem_cons_zero, List.getElem_cons_succ, List.setIfInBounds_toArray, List.set_cons_zero, List.set_cons_succ]
  refine wpAnyL_take (i := 4) (v := ?_) rfl (by kernel_rfl) (by kernel_rfl) (by kernel_rfl) (by kernel_rfl) (fun _ _ _ h => h) (Or.inl ⟨by rfl, ?_⟩) hHeld ?_
  rotate_left 1
  · (intro w hSw; have q1 := (HB1.out.G hSw).cell; have q2 := (HMM.out.G hSw).blk.cell; go_simp; try with_reducible rfl)
  try simp only [Act.put, List.getElem_toArray, List.getElem_cons_zero, List.getElem_cons_succ, List.setIfInBounds_toArray, List.set_cons_zero, List.set_cons_succ]
  refine wpAnyL_take (i := 5) (v := ?_) rfl (by kernel_rfl) (by kernel_rfl) (by kernel_rfl) (by kernel_rfl) (fun _ _ _ h => h) (Or.inl ⟨by rfl, ?_⟩) hHeld ?_
  rotate_left 1
  · (intro w hSw; (try dsimp only at hSw); go_simp; try with_reducible rfl)
  try simp only [Act.put, List.getElem_toArray, List.getElem_cons_zero, List.getElem_cons_succ, List.setIfInBounds_toArray, List.set_cons_zero, List.set_cons_succ]
  refine wpAnyL_take (i := 7) (v := ?_) rfl (by kernel_rfl) (by kernel_rfl) (by kernel_rfl) (by kernel_rfl) (fun _ _ _ h => h) (Or.inl ⟨by rfl, ?_⟩) hHeld ?_
  rotate_left 1
  · (intro w hSw; have q1 := (HB1.out.G hSw).cell; have q2 := (HMM.out.G hSw).blk.cell; go_simp; try with_reducible rfl)
  try simp only [Act.put, List.getElem_toArray, List.getElem_cons_zero, List.getElem_cons_succ, List.setIfInBounds_toArray, List.set_cons_zero, List.set_cons_succ]
  refine wpAnyL_take (i := 8) (v := ?_) rfl (by kernel_rfl) (by kernel_rfl) (by kernel_rfl) (by kernel_rfl) (fun _ _ _ h => h) (Or.inl ⟨by rfl, ?_⟩) hHeld ?_
  rotate_left 1
  · (intro w hSw; have q1 := (HB1.out.G hSw).cell; have q2 := (HMM.out.G hSw).blk.cell; go_simp; try with_reducible rfl)
  try simp only [Act.put, List.getElem_toArray, List.getElem_cons_zero, List.getElem_cons_succ, List.setIfInBounds_toArray, List.set_cons_zero, List.set_cons_succ]
  refine wpAnyL_take (i := 9) (v := ?_) rfl (by kernel_rfl) (by kernel_rfl) (by kernel_rfl) (by kernel_rfl) (fun _ _ _ h => h) (Or.inl ⟨by rfl, ?_⟩) hHeld ?_
  rotate_left 1
  · (intro w hSw; have q1 := (HB1.out.G hSw).cell; have q2 := (HMM.out.G hSw).blk.cell; go_simp; try with_reducible rfl)
  try simp only [Act.put, List.getElem_toArray, List.getElem_cons_zero, List.getElem_cons_succ, List.setIfInBounds_toArray, List.set_cons_zero, List.set_cons_succ]
  refine wpAnyL_take (i := 10) (v := ?_) rfl (by kernel_rfl) (by kernel_rfl) (by kernel_rfl) (by kernel_rfl) (fun _ _ _ h => h) (Or.inl ⟨by rfl, ?_⟩) hHeld ?_
  rotate_left 1
  · (intro w hSw; have q1 := (HB1.out.G hSw).cell; have q2 := (HMM.out.G hSw).blk.cell; go_simp; try with_reducible rfl)
  try simp only [Act.put, List.getElem_toArray, List.getElem_cons_zero, List.getElem_cons_succ, List.setIfInBounds_toArray, List.set_cons_zero, List.set_cons_succ]
  refine wpAnyL_take (i := 11) (v := ?_) rfl (by kernel_rfl) (by kernel_rfl) (by kernel_rfl) (by kernel_rfl) (fun _ _ _ h => h) (Or.inl ⟨by rfl, ?_⟩) hHeld ?_
  rotate_left 1
  · (intro w hSw; have q1 := (HB1.out.G hSw).cell; have q2 := (HMM.out.G hSw).blk.cell; go_simp; try with_reducible rfl)
  try simp only [Act.put, List.getElem_toArray, List.getElem_cons_zero, List.getElem_cons_succ, List.setIfInBounds_toArray, List.set_cons_zero, List.set_cons_succ]
  refine wpAnyL_take (i := 12) (v := ?_) rfl (by kernel_rfl) (by kernel_rfl) (by kernel_rfl) (by kernel_rfl) (fun _ _ _ h => h) (Or.inl ⟨by rfl, ?_⟩) hHeld ?_
  rotate_left 1
  · (intro w hSw; (try dsimp only at hSw); go_simp; try with_reducible rfl)
  try simp only [Act.put, List.getElem_toArray, List.getElem_cons_zero, List.getElem_cons_succ, List.setIfInBounds_toArray, List.set_cons_zero, List.set_cons_succ]
  refine wpAnyL_one (i := 6) (by kernel_rfl) rfl (by kernel_rfl) (fun K hK => ?_)
  clear hHeld
  go_simp
  refine (KN.out _ ((G.refl w2).drew)).mono ?_
  rintro e w5 ⟨ra, rn, rc, rfl, hn5, -, hg5⟩
  have HG5 : Hid (G w2 w5) := ((G.refl w2).drew).trans hg5
  have HN5 := hide hn5
  clear hn5 hg5 KN
  go_wp2_with fail
  refine hK.out _ _ (HG5.out) (fun hHeld => ?_)
  clear hK K
  try simp only [Act.put, List.getElem_toArray, List.getElem_cons_zero, List.getElem_cons_succ, List.setIfInBounds_toArray, List.set_cons_zero, List.set_cons_succ]
  refine wpAnyL_one (i := 13) (by kernel_rfl) rfl (by kernel_rfl) (fun K hK => ?_)
  clear hHeld
  (try refine (if_pos rfl).mpr ?_)
  go_simp
  refine (KE.out w5 HG5.out).mono ?_
  rintro e w6 ⟨sa, sn, sc, rfl, hn6, -, hg6⟩
  have HG6 : Hid (G w2 w6) := HG5.out.trans hg6
  have HN6 := hide (And.intro (HN5.out.G hg6) hn6)
  clear hn6 hg6 KE HN5
  go_wp2_with fail
  refine hK.out _ _ (HG6.out) (fun hHeld => ?_)
  clear hK K
  try simp only [Act.put, List.getElem_toArray, List.getElem_cons_zero, List.getElem_cons_succ, List.setIfInBounds_toArray, List.set_cons_zero, List.set_cons_succ]
  refine wpAnyL_take (i := 14) (v := ?_) rfl (by kernel_rfl) (by kernel_rfl) (by kernel_rfl) (by kernel_rfl) (fun _ _ _ h => h) (Or.inl ⟨by rfl, ?_⟩) hHeld ?_
  rotate_left 1
  · (intro w hSw; (try dsimp only at hSw); go_simp; try with_reducible rfl)
  try simp only [Act.put, List.getElem_toArray, List.getElem_cons_zero, List.getElem_cons_succ, List.setIfInBounds_toArray, List.set_cons_zero, List.set_cons_succ]
  refine wpAnyL_last (by kernel_rfl) rfl (by kernel_rfl) (fun K hK => ?_)
  clear hHeld
  have hc7 := (HB2.out.G HG6.out).cell
  have hz7 := (HB2.out.G HG6.out).frozen
  go_simp
  refine hK.out _ _ ?_
  clear hK K
  refine NoPanic.normal ?_
  have HB5 := HB2.out.G HG6.out
  have hC9 := (HB5.set 0 (.slice ra rn rc)).set 1 (.slice sa sn sc)
  obtain ⟨hn5, hn6⟩ := HN6.out
  have hgx : G W w6 := HG2.out.trans HG6.out
  have hx9 : Fx [25] [] w6 ((w6.setCell ⟨B, 0, none⟩ (.slice ra rn rc)).setCell ⟨B, 1, none⟩ (.slice sa sn sc)) := (Fx.set HB5 (by simp)).trans (Fx.set (HB5.set 0 _) (by simp))
  have hF9 : NRow dNo 69 ((w6.setCell ⟨B, 0, none⟩ (.slice ra rn rc)).setCell ⟨B, 1, none⟩ (.slice sa sn sc)) (.slice ra rn rc) ns ∧ NRow dEo 72 ((w6.setCell ⟨B, 0, none⟩ (.slice ra rn rc)).setCell ⟨B, 1, none⟩ (.slice sa sn sc)) (.slice sa sn sc) es ∧ G W ((w6.setCell ⟨B, 0, none⟩ (.slice ra rn rc)).setCell ⟨B, 1, none⟩ (.slice sa sn sc)) := ⟨hn5.fx hx9 (by decide) (by decide), hn6.fx hx9 (by decide) (by decide), (hgx.setCell HBS.out (.slice ra rn rc)).setCell HBS.out (.slice sa sn sc)⟩
  go_wp2_with fail
  exact bodyPost_ret_by (v := .agg #[.slice ra rn rc, .slice sa sn sc]) (results_cell_row Tryz.results14 _ _ B 25 _ (0, 0) _ rfl hC9.h Tryz.underlying25 rfl (by kernel_rfl)) rfl ⟨ra, rn, rc, sa, sn, sc, rfl, hF9⟩
end Go.Proofs.YtifioikdhfhljaaGreatDoor
