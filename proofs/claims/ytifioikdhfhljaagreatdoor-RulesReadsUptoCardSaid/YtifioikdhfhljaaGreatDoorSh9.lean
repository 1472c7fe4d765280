/- Graphs: a graph that is told. -/
import Derived.Test.YtifioikdhfhljaaGreatDoorSh8
namespace Go.Proofs.YtifioikdhfhljaaGreatDoor
open Go.RowKit Go.Maps

/-- Nodes, edges in a row of our own, with properties of their own. -/
abbrev dNo : Nst Nd := ⟨3, [101], fun w cs x => ∃ v, cs = [I x.id, .string x.lb, v] ∧ Sw eP 101 w v x.ps, fun k ht h => by
  obtain ⟨v, e, h⟩ := h
  exact ⟨v, e, h.kx k (ht _ (by simp))⟩⟩
abbrev dEo : Nst Ed := ⟨5, [101], fun w cs x => ∃ v, cs = [I x.id, .string x.ty, I x.fr, I x.to, v] ∧ Sw eP 101 w v x.ps, fun k ht h => by
  obtain ⟨v, e, h⟩ := h
  exact ⟨v, e, h.kx k (ht _ (by simp))⟩⟩
theorem NRow.nil {α : Type} (D : Nst α) (ty : TypeId) (w : World) : NRow D ty w (.slice none 0 0) [] := ⟨[], Sw.nil _ _ _, rfl, fun i c x e => by simp at e⟩
theorem NRow.fx {α : Type} {D : Nst α} {ty : TypeId} {X M : List Nat} {w w' : World} {v : Value} {l : List α} (h : NRow D ty w v l) (k : Fx X M w w') (h1 : ty ∉ X) (h2 : ∀ t ∈ D.tys, t ∉ X) : NRow D ty w' v l := h.kx k.kx h1 h2
theorem NRow.G {α : Type} {D : Nst α} {ty : TypeId} {w w' : World} {v : Value} {l : List α} (h : NRow D ty w v l) (k : Go.Proofs.YtifioikdhfhljaaGreatDoor.G w w') : NRow D ty w' v l := h.kx (X := []) (Kx.of_G k) (by simp) (by simp)
/-- One more in such a row. -/
theorem pushN {α : Type} {D : Nst α} {P : Program} {ty ts tr : TypeId} {W w : World} {ra : Option Addr} {rn rc : Nat} {l : List α} (i : TypeInfo) (z : Value) (bytes : Nat) (hts : P.underlying ts = some (.slice ty)) (hi : P.info? ty = some i) (hz : i.zero = some z) (hsize : i.size = D.s) (hby : i.bytes = bytes) (hzs : z.cells.size = D.s) (hsz : 0 < D.s)
    (h : NRow D ty w (.slice ra rn rc) l) (c : Raw D.s) (x : α) (hx : D.r w c.1 x) (hne : ∀ t ∈ D.tys, t ∉ [ty]) (hg : G W w) (hf : Fresh W (.slice ra rn rc)) (h63 : rn + 1 ≤ maxLen) (hbytes : (rn + 1) * bytes ≤ 140737488355328) :
    ∃ a cc w', (Builtin.append_ #[ts, ts] tr #[.slice ra rn rc, .slice (some ⟨w.heap.size, 0, none⟩) 1 1]).run P (w.alloc (.cells c.1.toArray ty)) = .ok (.slice a (rn + 1) cc) w' ∧ NRow D ty w' (.slice a (rn + 1) cc) (l ++ [x]) ∧ G W w' ∧ Fresh W (.slice a (rn + 1) cc) ∧ Fx [ty] [] w w' := by
  obtain ⟨rs, h1, h2, h3⟩ := h
  have hln := h1.len_eq
  obtain ⟨a, cc, w', q1, q2, q3, q4, q5⟩ := push (P := P) (E := eR D.s) (tr := tr) i z bytes hts hi hz hsize hby hzs hsz h1 c hg hf (by rw [hln]; exact h63) (by rw [hln]; exact hbytes)
  rw [hln] at q1 q2 q4
  refine ⟨a, cc, w', q1, ⟨rs ++ [c], q2, by simp [h2], ?_⟩, q3, q4, q5 []⟩
  have hk := (q5 []).kx
  exact nrow_step (fun i c' x' e1 e2 => D.keep hk hne (h3 i c' x' e1 e2)) h2 (D.keep hk hne hx)
theorem info_N : ∃ i, Tryz.prog.info? 69 = some i ∧ i.zero = some (.agg #[I 0, .string { data := #[] }, .slice none 0 0]) ∧ i.size = 3 ∧ i.bytes = 48 := info_parts (by kernel_rfl)
theorem info_E : ∃ i, Tryz.prog.info? 72 = some i ∧ i.zero = some (.agg #[I 0, .string { data := #[] }, I 0, I 0, .slice none 0 0]) ∧ i.size = 5 ∧ i.bytes = 64 := info_parts (by kernel_rfl)
set_option maxRecDepth 100000 in
set_option maxHeartbeats 1000000 in
theorem tnode_any (x : Ed) (v : Value) (W : World) (h : Row eP.rel W v x.ps) (hl : x.ps.length ≤ 2513169434845) : Calls Tryz.prog 45 #[.agg #[.string x.ty, I x.fr, I x.to, v], I x.id] W fun e W' => ∃ va vn vc, e = .returned (.agg #[I x.id, .string x.ty, .slice va vn vc]) ∧ Sw eP 101 W' (.slice va vn vc) x.ps ∧ Fresh W (.slice va vn vc) ∧ G W W' := by
  have hv := h
  obtain ⟨pa, pc, rfl⟩ := h.form
  obtain ⟨pn, hpn⟩ : ∃ pn, pn = x.ps.length := ⟨_, rfl⟩
  rw [← hpn] at h hv ⊢
  obtain ⟨w2, hw2⟩ : ∃ w2, w2 = ((W.alloc (.cells #[.string x.ty, I x.fr, I x.to, .slice pa pn pc] 83)).alloc (.cells #[I 0, .string { data := #[] }, .slice none 0 0] 69)) := ⟨_, rfl⟩
  have hg2 : G W w2 := by rw [hw2]; exact ((G.refl W).alloc _).alloc _
  have hB1 : Blk w2 W.heap.size 83 [.string x.ty, I x.fr, I x.to, .slice pa pn pc] := by rw [hw2]; exact (Blk.new W [.string x.ty, I x.fr, I x.to, .slice pa pn pc] 83).G ((G.refl _).alloc _)
  obtain ⟨B, hB⟩ : ∃ B, B = W.heap.size + 1 := ⟨_, rfl⟩
  have hB2 : Blk w2 B 69 [I 0, .string { data := #[] }, .slice none 0 0] := by
    have := Blk.new (W.alloc (.cells #[.string x.ty, I x.fr, I x.to, .slice pa pn pc] 83)) [I 0, .string { data := #[] }, .slice none 0 0] 69
    rw [hw2, hB]
    simpa using this
  have KC : Hid (∀ w3, G w2 w3 → Calls Tryz.prog 88 #[.slice pa pn pc] w3 fun e W' => ∃ v', e = .returned v' ∧ Sw eP 101 W' v' x.ps ∧ Fresh w3 v' ∧ G w3 W') := fun w3 g3 => clone_any _ x.ps w3 ((hv.G hg2).G g3) hl
  have HB1 := hide hB1; have HB2 := hide hB2; have HG2 := hide hg2
  have HEW : Hid (((W.alloc (.cells #[.string x.ty, I x.fr, I x.to, .slice pa pn pc] 83)).alloc (.cells #[I 0, .string { data := #[] }, .slice none 0 0] 69)) = w2) := hw2.symm
  have HEB : Hid (W.heap.size + 1 = B) := hB.symm
  have HBS : Hid (W.heap.size ≤ B) := by show _ ≤ _; omega
  clear h hv hl hw2 hg2 hB1 hB2 hpn hB
  go_enter Tryz.func45, Tryz.ntmps45
  go_wp2_with fail
  rw [HEW.out]
  try rw [HEB.out]
  refine wp_region_noPanic ?_
  refine wp_region_L (S := (fun V => G w2 V)) 7 (by kernel_rfl) ((G.refl w2).drew) (fun hHeld => ?_)
  refine wpAnyL_take (i := 0) (v := ?_) rfl (by kernel_rfl) (by kernel_rfl) (by kernel_rfl) (by kernel_rfl) (fun _ _ _ h => h) (Or.inl ⟨by rfl, ?_⟩) hHeld ?_
  rotate_left 1
  · (intro w hSw; (try dsimp only at hSw); go_simp; try with_reducible rfl)
  try simp only [Act.put, List.getElem_toArray, List.getElem_cons_zero, List.setIfInBounds_toArray, List.set_cons_zero, List.set_cons_succ]
  refine wpAnyL_take (i := 1) (v := ?_) rfl (by kernel_rfl) (by kernel_rfl) (by kernel_rfl) (by kernel_rfl) (fun _ _ _ h => h) (Or.inl ⟨by rfl, ?_⟩) hHeld ?_
  rotate_left 1
  · (intro w hSw; have q1 := (HB1.out.G hSw).cell; go_simp; try with_reducible rfl)
  try simp only [Act.put, List.getElem_toArray, List.getElem_cons_zero, List.getElem_cons_succ, List.setIfInBounds_toArray, List.set_cons_zero, List.set_cons_succ]
  refine wpAnyL_take (i := 2) (v := ?_) rfl (by kernel_rfl) (by kernel_rfl) (by kernel_rfl) (by kernel_rfl) (fun _ _ _ h => h) (Or.inl ⟨by rfl, ?_⟩) hHeld ?_
  rotate_left 1
  · (intro w hSw; have q1 := (HB1.out.G hSw).cell; go_simp; try with_reducible rfl)
  try simp only [Act.put, List.getElem_toArray, List.getElem_cons_zero, List.getElem_cons_succ, List.setIfInBounds_toArray, List.set_cons_zero, List.set_cons_succ]
  refine wpAnyL_take (i := 3) (v := ?_) rfl (by kernel_rfl) (by kernel_rfl) (by kernel_rfl) (by kernel_rfl) (fun _ _ _ h => h) (Or.inl ⟨by rfl, ?_⟩) hHeld ?_
  rotate_left 1
  · (intro w hSw; have q1 := (HB1.out.G hSw).cell; go_simp; try with_reducible rfl)
  try simp only [Act.put, List.getElem_toArray, List.getElem_cons_zero, List.getElem_cons_succ, List.setIfInBounds_toArray, List.set_cons_zero, List.set_cons_succ]
  refine wpAnyL_take (i := 4) (v := ?_) rfl (by kernel_rfl) (by kernel_rfl) (by kernel_rfl) (by kernel_rfl) (fun _ _ _ h => h) (Or.inl ⟨by rfl, ?_⟩) hHeld ?_
  rotate_left 1
  · (intro w hSw; have q1 := (HB1.out.G hSw).cell; go_simp; try with_reducible rfl)
  try simp only [Act.put, List.getElem_toArray, List.getElem_cons_zero, List.getElem_cons_succ, List.setIfInBounds_toArray, List.set_cons_zero, List.set_cons_succ]
  refine wpAnyL_one (i := 5) (by kernel_rfl) rfl (by kernel_rfl) (fun K hK => ?_)
  clear hHeld
  go_simp
  refine (KC.out _ ((G.refl w2).drew)).mono ?_
  rintro e w5 ⟨v5, rfl, hs5, hf5, hg5⟩
  obtain ⟨qa, qc, hv5⟩ := hs5.form
  obtain ⟨qn, hqn⟩ : ∃ qn, qn = x.ps.length := ⟨_, rfl⟩
  rw [← hqn] at hv5
  subst hv5
  have HG5 : Hid (G w2 w5) := ((G.refl w2).drew).trans hg5
  have HS5 := hide (And.intro hs5 (And.intro (hf5.old (G.refl w2).drew) hqn))
  clear hs5 hf5 hg5 hqn KC
  go_wp2_with fail
  refine hK.out _ _ (HG5.out) (fun hHeld => ?_)
  clear hK K
  try simp only [Act.put, List.getElem_toArray, List.getElem_cons_zero, List.getElem_cons_succ, List.setIfInBounds_toArray, List.set_cons_zero, List.set_cons_succ]
  refine wpAnyL_take (i := 6) (v := ?_) rfl (by kernel_rfl) (by kernel_rfl) (by kernel_rfl) (by kernel_rfl) (fun _ _ _ h => h) (Or.inl ⟨by rfl, ?_⟩) hHeld ?_
  rotate_left 1
  · (intro w hSw; (try dsimp only at hSw); go_simp; try with_reducible rfl)
  try simp only [Act.put, List.getElem_toArray, List.getElem_cons_zero, List.getElem_cons_succ, List.setIfInBounds_toArray, List.set_cons_zero, List.set_cons_succ]
  refine wpAnyL_last (by kernel_rfl) rfl (by kernel_rfl) (fun K hK => ?_)
  clear hHeld
  have hc7 := (HB2.out.G HG5.out).cell
  have hz7 := (HB2.out.G HG5.out).frozen
  go_simp
  refine hK.out _ _ ?_
  clear hK K
  refine NoPanic.normal ?_
  have HB5 := HB2.out.G HG5.out
  have hC9 := (((HB5.set 0 (I x.id)).set 1 (.string x.ty)).set 2 (.slice qa qn qc))
  obtain ⟨hs5, hf5, hqn⟩ := HS5.out
  have hgx : G W w5 := HG2.out.trans HG5.out
  have hch := (((chg_setCell (F := fun k => k = B) (b := B) (o := 0) w5 (I x.id) (.inl rfl)).trans (chg_setCell (F := fun k => k = B) (b := B) (o := 1) _ (.string x.ty) (.inl rfl))).trans (chg_setCell (F := fun k => k = B) (b := B) (o := 2) _ (.slice qa qn qc) (.inl rfl)))
  have hF9 : Sw eP 101 _ (.slice qa qn qc) x.ps ∧ G W _ := ⟨hs5.chg (F := fun k => k = B) hch (fun b hb e => hs5.ne (g := B) HB5 (by decide) (by rw [hb, e])), hgx.trans_chg hch HBS.out⟩
  go_wp2_with fail
  exact bodyPost_ret_by (v := .agg #[I x.id, .string x.ty, .slice qa qn qc]) (results_cell_row Tryz.results45 _ _ B 69 _ (0, 0) _ rfl hC9.h Tryz.underlying69 rfl (by kernel_rfl)) rfl ⟨qa, qn, qc, rfl, hF9.1, hf5.old HG2.out, hF9.2⟩
set_option maxRecDepth 100000 in
set_option maxHeartbeats 1000000 in
theorem tedge_any (x : Ed) (v : Value) (W : World) (h : Row eP.rel W v x.ps) (hl : x.ps.length ≤ 2513169434845) : Calls Tryz.prog 48 #[.agg #[.string x.ty, I x.fr, I x.to, v], I x.id] W fun e W' => ∃ va vn vc, e = .returned (.agg #[I x.id, .string x.ty, I x.fr, I x.to, .slice va vn vc]) ∧ Sw eP 101 W' (.slice va vn vc) x.ps ∧ Fresh W (.slice va vn vc) ∧ G W W' := by
  have hv := h
  obtain ⟨pa, pc, rfl⟩ := h.form
  obtain ⟨pn, hpn⟩ : ∃ pn, pn = x.ps.length := ⟨_, rfl⟩
  rw [← hpn] at h hv ⊢
  obtain ⟨w2, hw2⟩ : ∃ w2, w2 = ((W.alloc (.cells #[.string x.ty, I x.fr, I x.to, .slice pa pn pc] 83)).alloc (.cells #[I 0, .string { data := #[] }, I 0, I 0, .slice none 0 0] 72)) := ⟨_, rfl⟩
  have hg2 : G W w2 := by rw [hw2]; exact ((G.refl W).alloc _).alloc _
  have hB1 : Blk w2 W.heap.size 83 [.string x.ty, I x.fr, I x.to, .slice pa pn pc] := by rw [hw2]; exact (Blk.new W [.string x.ty, I x.fr, I x.to, .slice pa pn pc] 83).G ((G.refl _).alloc _)
  obtain ⟨B, hB⟩ : ∃ B, B = W.heap.size + 1 := ⟨_, rfl⟩
  have hB2 : Blk w2 B 72 [I 0, .string { data := #[] }, I 0, I 0, .slice none 0 0] := by
    have := Blk.new (W.alloc (.cells #[.string x.ty, I x.fr, I x.to, .slice pa pn pc] 83)) [I 0, .string { data := #[] }, I 0, I 0, .slice none 0 0] 72
    rw [hw2, hB]
    simpa using this
  have KC : Hid (∀ w3, G w2 w3 → Calls Tryz.prog 88 #[.slice pa pn pc] w3 fun e W' => ∃ v', e = .returned v' ∧ Sw eP 101 W' v' x.ps ∧ Fresh w3 v' ∧ G w3 W') := fun w3 g3 => clone_any _ x.ps w3 ((hv.G hg2).G g3) hl
  have HB1 := hide hB1; have HB2 := hide hB2; have HG2 := hide hg2
  have HEW : Hid (((W.alloc (.cells #[.string x.ty, I x.fr, I x.to, .slice pa pn pc] 83)).alloc (.cells #[I 0, .string { data := #[] }, I 0, I 0, .slice none 0 0] 72)) = w2) := hw2.symm
  have HEB : Hid (W.heap.size + 1 = B) := hB.symm
  have HBS : Hid (W.heap.size ≤ B) := by show _ ≤ _; omega
  clear h hv hl hw2 hg2 hB1 hB2 hpn hB
  go_enter Tryz.func48, Tryz.ntmps48
  go_wp2_with fail
  rw [HEW.out]
  try rw [HEB.out]
  refine wp_region_noPanic ?_
  refine wp_region_L (S := (fun V => G w2 V)) 11 (by kernel_rfl) ((G.refl w2).drew) (fun hHeld => ?_)
  refine wpAnyL_take (i := 0) (v := ?_) rfl (by kernel_rfl) (by kernel_rfl) (by kernel_rfl) (by kernel_rfl) (fun _ _ _ h => h) (Or.inl ⟨by rfl, ?_⟩) hHeld ?_
  rotate_left 1
  · (intro w hSw; (try dsimp only at hSw); go_simp; try with_reducible rfl)
  try simp only [Act.put, List.getElem_toArray, List.getElem_cons_zero, List.setIfInBounds_toArray, List.set_cons_zero, List.set_cons_succ]
  refine wpAnyL_take (i := 1) (v := ?_) rfl (by kernel_rfl) (by kernel_rfl) (by kernel_rfl) (by kernel_rfl) (fun _ _ _ h => h) (Or.inl ⟨by rfl, ?_⟩) hHeld ?_
  rotate_left 1
  · (intro w hSw; have q1 := (HB1.out.G hSw).cell; go_simp; try with_reducible rfl)
  try simp only [Act.put, List.getElem_toArray, List.getElem_cons_zero, List.getElem_cons_succ, List.setIfInBounds_toArray, List.set_cons_zero, List.set_cons_succ]
  refine wpAnyL_take (i := 2) (v := ?_) rfl (by kernel_rfl) (by kernel_rfl) (by kernel_rfl) (by kernel_rfl) (fun _ _ _ h => h) (Or.inl ⟨by rfl, ?_⟩) hHeld ?_
  rotate_left 1
  · (intro w hSw; have q1 := (HB1.out.G hSw).cell; go_simp; try with_reducible rfl)
  try simp only [Act.put, List.getElem_toArray, List.getElem_cons_zero, List.getElem_cons_succ, List.setIfInBounds_toArray, List.set_cons_zero, List.set_cons_succ]
  refine wpAnyL_take (i := 3) (v := ?_) rfl (by kernel_rfl) (by kernel_rfl) (by kernel_rfl) (by kernel_rfl) (fun _ _ _ h => h) (Or.inl ⟨by rfl, ?_⟩) hHeld ?_
  rotate_left 1
  · (intro w hSw; have q1 := (HB1.out.G hSw).cell; go_simp; try with_reducible rfl)
  try simp only [Act.put, List.getElem_toArray, List.getElem_cons_zero, List.getElem_cons_succ, List.setIfInBounds_toArray, List.set_cons_zero, List.set_cons_succ]
  refine wpAnyL_take (i := 4) (v := ?_) rfl (by kernel_rfl) (by kernel_rfl) (by kernel_rfl) (by kernel_rfl) (fun _ _ _ h => h) (Or.inl ⟨by rfl, ?_⟩) hHeld ?_
  rotate_left 1
  · (intro w hSw; have q1 := (HB1.out.G hSw).cell; go_simp; try with_reducible rfl)
  try simp only [Act.put, List.getElem_toArray, List.getElem_cons_zero, List.getElem_cons_succ, List.setIfInBounds_toArray, List.set_cons_zero, List.set_cons_succ]
  refine wpAnyL_take (i := 5) (v := ?_) rfl (by kernel_rfl) (by kernel_rfl) (by kernel_rfl) (by kernel_rfl) (fun _ _ _ h => h) (Or.inl ⟨by rfl, ?_⟩) hHeld ?_
  rotate_left 1
  · (intro w hSw; have q1 := (HB1.out.G hSw).cell; go_simp; try with_reducible rfl)
  try simp only [Act.put, List.getElem_toArray, List.getElem_cons_zero, List.getElem_cons_succ, List.setIfInBounds_toArray, List.set_cons_zero, List.set_cons_succ]
  refine wpAnyL_take (i := 6) (v := ?_) rfl (by kernel_rfl) (by kernel_rfl) (by kernel_rfl) (by kernel_rfl) (fun _ _ _ h => h) (Or.inl ⟨by rfl, ?_⟩) hHeld ?_
  rotate_left 1
  · (intro w hSw; have q1 := (HB1.out.G hSw).cell; go_simp; try with_reducible rfl)
  try simp only [Act.put, List.getElem_toArray, List.getElem_cons_zero, List.getElem_cons_succ, List.setIfInBounds_toArray, List.set_cons_zero, List.set_cons_succ]
  refine wpAnyL_take (i := 7) (v := ?_) rfl (by kernel_rfl) (by kernel_rfl) (by kernel_rfl) (by kernel_rfl) (fun _ _ _ h => h) (Or.inl ⟨by rfl, ?_⟩) hHeld ?_
  rotate_left 1
  · (intro w hSw; have q1 := (HB1.out.G hSw).cell; go_simp; try with_reducible rfl)
  try simp only [Act.put, List.getElem_toArray, List.getElem_cons_zero, List.getElem_cons_succ, List.setIfInBounds_toArray, List.set_cons_zero, List.set_cons_succ]
  refine wpAnyL_take (i := 8) (v := ?_) rfl (by kernel_rfl) (by kernel_rfl) (by kernel_rfl) (by kernel_rfl) (fun _ _ _ h => h) (Or.inl ⟨by rfl, ?_⟩) hHeld ?_
  rotate_left 1
  · (intro w hSw; have q1 := (HB1.out.G hSw).cell; go_simp; try with_reducible rfl)
  try simp only [Act.put, List.getElem_toArray, List.getElem_cons_zero, List.getElem_cons_succ, List.setIfInBounds_toArray, List.set_cons_zero, List.set_cons_succ]
  refine wpAnyL_one (i := 9) (by kernel_rfl) rfl (by kernel_rfl) (fun K hK => ?_)
  clear hHeld
  go_simp
  refine (KC.out _ ((G.refl w2).drew)).mono ?_
  rintro e w5 ⟨v5, rfl, hs5, hf5, hg5⟩
  obtain ⟨qa, qc, hv5⟩ := hs5.form
  obtain ⟨qn, hqn⟩ : ∃ qn, qn = x.ps.length := ⟨_, rfl⟩
  rw [← hqn] at hv5
  subst hv5
  have HG5 : Hid (G w2 w5) := ((G.refl w2).drew).trans hg5
  have HS5 := hide (And.intro hs5 (And.intro (hf5.old (G.refl w2).drew) hqn))
  clear hs5 hf5 hg5 hqn KC
  go_wp2_with fail
  refine hK.out _ _ (HG5.out) (fun hHeld => ?_)
  clear hK K
  try simp only [Act.put, List.getElem_toArray, List.getElem_cons_zero, List.getElem_cons_succ, List.setIfInBounds_toArray, List.set_cons_zero, List.set_cons_succ]
  refine wpAnyL_take (i := 10) (v := ?_) rfl (by kernel_rfl) (by kernel_rfl) (by kernel_rfl) (by kernel_rfl) (fun _ _ _ h => h) (Or.inl ⟨by rfl, ?_⟩) hHeld ?_
  rotate_left 1
  · (intro w hSw; (try dsimp only at hSw); go_simp; try with_reducible rfl)
  try simp only [Act.put, List.getElem_toArray, List.getElem_cons_zero, List.getElem_cons_succ, List.setIfInBounds_toArray, List.set_cons_zero, List.set_cons_succ]
  refine wpAnyL_last (by kernel_rfl) rfl (by kernel_rfl) (fun K hK => ?_)
  clear hHeld
  have hc7 := (HB2.out.G HG5.out).cell
  have hz7 := (HB2.out.G HG5.out).frozen
  go_simp
  refine hK.out _ _ ?_
  clear hK K
  refine NoPanic.normal ?_
  have HB5 := HB2.out.G HG5.out
  have hC9 := (((((HB5.set 0 (I x.id)).set 1 (.string x.ty)).set 2 (I x.fr)).set 3 (I x.to)).set 4 (.slice qa qn qc))
  obtain ⟨hs5, hf5, hqn⟩ := HS5.out
  have hgx : G W w5 := HG2.out.trans HG5.out
  have hch := (((((chg_setCell (F := fun k => k = B) (b := B) (o := 0) w5 (I x.id) (.inl rfl)).trans (chg_setCell (F := fun k => k = B) (b := B) (o := 1) _ (.string x.ty) (.inl rfl))).trans (chg_setCell (F := fun k => k = B) (b := B) (o := 2) _ (I x.fr) (.inl rfl))).trans (chg_setCell (F := fun k => k = B) (b := B) (o := 3) _ (I x.to) (.inl rfl))).trans (chg_setCell (F := fun k => k = B) (b := B) (o := 4) _ (.slice qa qn qc) (.inl rfl)))
  have hF9 : Sw eP 101 _ (.slice qa qn qc) x.ps ∧ G W _ := ⟨hs5.chg (F := fun k => k = B) hch (fun b hb e => hs5.ne (g := B) HB5 (by decide) (by rw [hb, e])), hgx.trans_chg hch HBS.out⟩
  go_wp2_with fail
  exact bodyPost_ret_by (v := .agg #[I x.id, .string x.ty, I x.fr, I x.to, .slice qa qn qc]) (results_cell_row Tryz.results48 _ _ B 72 _ (0, 0) _ rfl hC9.h Tryz.underlying72 rfl (by kernel_rfl)) rfl ⟨qa, qn, qc, rfl, hF9.1, hf5.old HG2.out, hF9.2⟩
set_option maxRecDepth 100000 in
set_option maxHeartbeats 1000000 in
theorem gr1_any (lo bx : Nat) (mb : Nat) (ns : List Nd) (es : List Ed) (qv nid eid : Value) (m1 m2 b1 b2 : Nat) (g1 g2 f1 f2 : Int → Option Value) (x : Nd) (W : World) (h : MemG lo W mb ns es qv nid eid m1 m2 b1 b2 g1 g2 f1 f2) (hb : Blk W bx 29 [ptr mb]) (hx : x ∈ ns) (hr : R64 x.id) (hl : x.ps.length ≤ 2513169434845) : Calls Tryz.prog 44 #[I x.id, ptr bx] W fun e W' => ∃ va vn vc, e = .returned (.agg #[I x.id, .string x.lb, .slice va vn vc]) ∧ Sw eP 101 W' (.slice va vn vc) x.ps ∧ G W W' := by
  have gA : G W (W.alloc (.cells #[I 0, .string { data := #[] }, .slice none 0 0] 69)) := (G.refl W).alloc _
  have hM := h.G gA
  obtain ⟨u, hu, v0, rfl, hs0, -⟩ := hM.ntb.th x.ed (List.mem_map.2 ⟨x, hx, rfl⟩)
  have hlk := hM.ntb.mp.look kyI Tryz.underlying74 (Tryz.zeroValue83 _) (kyI_ok.2 hr)
  rw [show g1 x.id = some _ from hu, Option.getD_some] at hlk
  have KC := hide (tnode_any x.ed v0 (W.alloc (.cells #[I 0, .string { data := #[] }, .slice none 0 0] 69)) hs0.toRow hl)
  have hcb := (hb.G gA).cell
  have hcm := hM.blk.cell
  have hlt := hb.lt
  have n1 : bx < W.heap.size + 1 := by omega
  have hlm := h.blk.lt
  have n2 : mb < W.heap.size + 1 := by omega
  have HB0 := hide (Blk.new W [I 0, .string { data := #[] }, .slice none 0 0] 69)
  have HA := hide gA
  have HSZ : Hid (W.heap.size < W.heap.size + 1) := Nat.lt_succ_self _
  obtain ⟨pa, pc, hpf⟩ := hs0.form
  have hps : x.ed.ps = x.ps := rfl
  subst hpf
  simp only [Nd.ed] at hlk KC
  clear h hb hx hr hl hM hu hs0 gA hlt hlm hps
  go_enter Tryz.func44, Tryz.ntmps44
  go_wp2_with fail
  refine KC.out.mono ?_
  rintro e w5 ⟨va, vn, vc, rfl, hs5, hf5, hg5⟩
  have HB5 := HB0.out.G hg5
  have hC9 := (((HB5.set 0 (I x.id)).set 1 (.string x.lb)).set 2 (.slice va vn vc))
  have hch := (((chg_setCell (F := fun k => k = W.heap.size) (b := W.heap.size) (o := 0) w5 (I x.id) (.inl rfl)).trans (chg_setCell (F := fun k => k = W.heap.size) (b := W.heap.size) (o := 1) _ (.string x.lb) (.inl rfl))).trans (chg_setCell (F := fun k => k = W.heap.size) (b := W.heap.size) (o := 2) _ (.slice va vn vc) (.inl rfl)))
  have hF9 : Sw eP 101 _ (.slice va vn vc) x.ps ∧ G W _ := ⟨hs5.chg (F := fun k => k = W.heap.size) hch (fun b hb e => hs5.ne (g := W.heap.size) HB5 (by decide) (by rw [hb, e])), (HA.out.trans hg5).trans_chg hch (Nat.le_refl _)⟩
  have c9 := HB5.cell
  have z9 := HB5.frozen
  clear hs5 hf5 hg5 KC HB0 HA HB5 hch
  go_wp2_with fail
  exact bodyPost_ret_by (v := .agg #[I x.id, .string x.lb, .slice va vn vc]) (results_cell_row Tryz.results44 _ _ W.heap.size 69 _ (0, 0) _ rfl hC9.h Tryz.underlying69 rfl (by kernel_rfl)) rfl ⟨va, vn, vc, rfl, hF9.1, hF9.2⟩
set_option maxRecDepth 100000 in
set_option maxHeartbeats 1000000 in
theorem gr2_any (lo bx : Nat) (mb : Nat) (ns : List Nd) (es : List Ed) (qv nid eid : Value) (m1 m2 b1 b2 : Nat) (g1 g2 f1 f2 : Int → Option Value) (x : Ed) (W : World) (h : MemG lo W mb ns es qv nid eid m1 m2 b1 b2 g1 g2 f1 f2) (hb : Blk W bx 29 [ptr mb]) (hx : x ∈ es) (hr : R64 x.id) (hl : x.ps.length ≤ 2513169434845) : Calls Tryz.prog 47 #[I x.id, ptr bx] W fun e W' => ∃ va vn vc, e = .returned (.agg #[I x.id, .string x.ty, I x.fr, I x.to, .slice va vn vc]) ∧ Sw eP 101 W' (.slice va vn vc) x.ps ∧ G W W' := by
  have gA : G W (W.alloc (.cells #[I 0, .string { data := #[] }, I 0, I 0, .slice none 0 0] 72)) := (G.refl W).alloc _
  have hM := h.G gA
  obtain ⟨u, hu, v0, rfl, hs0, -⟩ := hM.etb.th x hx
  have hlk := hM.etb.mp.look kyI Tryz.underlying74 (Tryz.zeroValue83 _) (kyI_ok.2 hr)
  rw [show g2 x.id = some _ from hu, Option.getD_some] at hlk
  have KC := hide (tedge_any x v0 (W.alloc (.cells #[I 0, .string { data := #[] }, I 0, I 0, .slice none 0 0] 72)) hs0.toRow hl)
  have hcb := (hb.G gA).cell
  have hcm := hM.blk.cell
  have hlt := hb.lt
  have n1 : bx < W.heap.size + 1 := by omega
  have hlm := h.blk.lt
  have n2 : mb < W.heap.size + 1 := by omega
  have HB0 := hide (Blk.new W [I 0, .string { data := #[] }, I 0, I 0, .slice none 0 0] 72)
  have HA := hide gA
  have HSZ : Hid (W.heap.size < W.heap.size + 1) := Nat.lt_succ_self _
  obtain ⟨pa, pc, hpf⟩ := hs0.form
  skip
  subst hpf
  skip
  clear h hb hx hr hl hM hu hs0 gA hlt hlm 
  go_enter Tryz.func47, Tryz.ntmps47
  go_wp2_with fail
  refine KC.out.mono ?_
  rintro e w5 ⟨va, vn, vc, rfl, hs5, hf5, hg5⟩
  have HB5 := HB0.out.G hg5
  have hC9 := (((((HB5.set 0 (I x.id)).set 1 (.string x.ty)).set 2 (I x.fr)).set 3 (I x.to)).set 4 (.slice va vn vc))
  have hch := (((((chg_setCell (F := fun k => k = W.heap.size) (b := W.heap.size) (o := 0) w5 (I x.id) (.inl rfl)).trans (chg_setCell (F := fun k => k = W.heap.size) (b := W.heap.size) (o := 1) _ (.string x.ty) (.inl rfl))).trans (chg_setCell (F := fun k => k = W.heap.size) (b := W.heap.size) (o := 2) _ (I x.fr) (.inl rfl))).trans (chg_setCell (F := fun k => k = W.heap.size) (b := W.heap.size) (o := 3) _ (I x.to) (.inl rfl))).trans (chg_setCell (F := fun k => k = W.heap.size) (b := W.heap.size) (o := 4) _ (.slice va vn vc) (.inl rfl)))
  have hF9 : Sw eP 101 _ (.slice va vn vc) x.ps ∧ G W _ := ⟨hs5.chg (F := fun k => k = W.heap.size) hch (fun b hb e => hs5.ne (g := W.heap.size) HB5 (by decide) (by rw [hb, e])), (HA.out.trans hg5).trans_chg hch (Nat.le_refl _)⟩
  have c9 := HB5.cell
  have z9 := HB5.frozen
  clear hs5 hf5 hg5 KC HB0 HA HB5 hch
  go_wp2_with fail
  exact bodyPost_ret_by (v := .agg #[I x.id, .string x.ty, I x.fr, I x.to, .slice va vn vc]) (results_cell_row Tryz.results47 _ _ W.heap.size 72 _ (0, 0) _ rfl hC9.h Tryz.underlying72 rfl (by kernel_rfl)) rfl ⟨va, vn, vc, rfl, hF9.1, hF9.2⟩
set_option maxRecDepth 100000 in
set_option maxHeartbeats 1000000 in
theorem gmN_any (bx : Nat) (l : List Nd) (v : Value) (W : World) (h : Row eI.rel W v (l.map fun y => y.id)) (hm : l.length ≤ 2932031007402)
    (HK : ∀ x ∈ l, ∀ W', G W W' → Calls Tryz.prog 44 #[I x.id, ptr bx] W' fun e w' => ∃ va vn vc, e = .returned (.agg #[I x.id, .string x.lb, .slice va vn vc]) ∧ Sw eP 101 w' (.slice va vn vc) x.ps ∧ G W' w') :
    Calls Tryz.prog 43 #[v, .func (.func 44) #[] #[ptr bx]] W fun e w' => ∃ ra rn rc, e = .returned (.slice ra rn rc) ∧ NRow dNo 69 w' (.slice ra rn rc) l ∧ Fresh W (.slice ra rn rc) ∧ G W w' := by
  have hv := h.form
  rw [List.length_map] at hv
  obtain ⟨a, c, rfl⟩ := hv
  obtain ⟨ln, hln⟩ : ∃ ln, ln = l.length := ⟨_, rfl⟩
  rw [← hln] at h ⊢
  have HS := hide h; have HM := hide hm; have HKK := hide HK; have HLN := hide hln
  clear h hm HK hln
  go_enter Tryz.func43, Tryz.ntmps43
  go_wp2_with fail
  go_loopw [10, 5, 7] (fun iv ov _ wr => ∃ (i : Nat) (ra : Option Addr) (rn rc : Nat), iv = I i ∧ i ≤ l.length ∧ ov = .slice ra rn rc ∧ rn = i ∧ NRow dNo 69 wr (.slice ra rn rc) (l.take i) ∧ Fresh W (.slice ra rn rc) ∧ G W wr) (fun iv _ _ _ => l.length - (RowKit.intOf iv).toNat)
  case atStart => exact ⟨0, none, 0, 0, rfl, Nat.zero_le _, rfl, rfl, NRow.nil _ _ _, Fresh.nil _, G.refl _⟩
  case round =>
    obtain ⟨i, ra, rn, rc, rfl, hik, rfl, hrn, hso, hfo, hg⟩ := hrel
    have hln := HLN.out
    by_cases hil : i < l.length
    · obtain ⟨x, hx⟩ : ∃ x, l[i]? = some x := ⟨_, List.getElem?_eq_getElem hil⟩
      have hxi : (l.map fun y => y.id)[i]? = some x.id := by rw [List.getElem?_map, hx]; rfl
      obtain ⟨gI, oI, cI, qI⟩ := HS.out.addr (by rw [List.length_map]; omega)
      injection qI with q1 q2 q3
      subst q1
      have x1 : wr.cell? ⟨gI, oI + i, none⟩ = some (I x.id) := by
        have := (HS.out.G hg).one hxi 0 (u := I x.id) rfl
        simpa using this
      have i1 : (i : Int) < ln := by omega
      have KI := hide (HKK.out x (List.mem_of_getElem? hx) wr hg)
      have HW : Hid (wrap64 ((i : Int) + 1) = (i : Int) + 1) := by show _ = _; have := HM.out; unfold wrap64; omega
      have HG := hide hg; have HX := hide hx; have HIL := hide hil; have HSO := hide hso; have HFO := hide hfo; have HRN := hide hrn
      clear hik hil hx hxi q2 q3 hso hfo hg hln hrn
      go_wp2_with fail
      refine KI.out.mono ?_
      rintro e w1 ⟨va, vn, vc, rfl, hs1, g1⟩
      obtain ⟨i0, hi0, hz0, hz1, hz2⟩ := info_N
      have hmx : (4000000000000 : Nat) ≤ maxLen := of_decide_eq_true (by kernel_rfl)
      obtain ⟨cR, hcR⟩ : ∃ cR : Raw dNo.s, cR.1 = [I x.id, .string x.lb, .slice va vn vc] := ⟨⟨[I x.id, .string x.lb, .slice va vn vc], rfl, fun u hu => by simp at hu; rcases hu with rfl | rfl | rfl <;> rfl⟩, rfl⟩
      have hrn := HRN.out
      have hil := HIL.out
      have hm := HM.out
      obtain ⟨a5, c5, w5, r1, r2, r3, r4, -⟩ := pushN (P := Tryz.prog) (D := dNo) (tr := 22) i0 _ 48 Tryz.underlying22 hi0 hz0 hz1 hz2 rfl (by decide) (HSO.out.G g1) cR x (by rw [hcR]; exact ⟨_, rfl, hs1⟩) (by decide) (HG.out.trans g1) HFO.out (by omega) (by omega)
      rw [hcR] at r1
      have HF : Hid (NRow dNo 69 w5 (.slice a5 (rn + 1) c5) (l.take (i + 1)) ∧ Fresh W (.slice a5 (rn + 1) c5) ∧ G W w5) := ⟨by rw [List.take_add_one, HX.out]; exact r2, r4, r3⟩
      have HR := hide r1
      clear hi0 hz0 hz1 hz2 r1 r2 r3 r4 g1 hs1 KI x1 i1 hrn hil hm hmx hcR
      go_wp2_with (first | (at_builtin; refine wpList_append_run rfl _ _ 22 rfl (.slice ra rn rc) (.slice (some ⟨w1.heap.size, 0, none⟩) 1 1) rfl rfl HR.out ?_) | fail)
      obtain ⟨f1, f2, f3⟩ := HF.out
      exact ⟨⟨i + 1, a5, rn + 1, c5, by rw [HW.out]; exact srl i, HIL.out, rfl, by rw [HRN.out], f1, f2, f3⟩, by rw [HW.out]; exact sms HIL.out⟩
    · have i1 : ¬ ((i : Int) < ln) := by omega
      have HF : Hid (NRow dNo 69 wr (.slice ra rn rc) l ∧ Fresh W (.slice ra rn rc) ∧ G W wr) := ⟨by rw [List.take_of_length_le (by omega)] at hso; exact hso, hfo, hg⟩
      clear hik hil hso hfo hg hln hrn
      go_wp2_with fail
      go_ret
      exact ⟨ra, rn, rc, rfl, HF.out⟩
set_option maxRecDepth 100000 in
set_option maxHeartbeats 1000000 in
theorem gmE_any (bx : Nat) (l : List Ed) (v : Value) (W : World) (h : Row eI.rel W v (l.map fun y => y.id)) (hm : l.length ≤ 2199023255552)
    (HK : ∀ x ∈ l, ∀ W', G W W' → Calls Tryz.prog 47 #[I x.id, ptr bx] W' fun e w' => ∃ va vn vc, e = .returned (.agg #[I x.id, .string x.ty, I x.fr, I x.to, .slice va vn vc]) ∧ Sw eP 101 w' (.slice va vn vc) x.ps ∧ G W' w') :
    Calls Tryz.prog 46 #[v, .func (.func 47) #[] #[ptr bx]] W fun e w' => ∃ ra rn rc, e = .returned (.slice ra rn rc) ∧ NRow dEo 72 w' (.slice ra rn rc) l ∧ Fresh W (.slice ra rn rc) ∧ G W w' := by
  have hv := h.form
  rw [List.length_map] at hv
  obtain ⟨a, c, rfl⟩ := hv
  obtain ⟨ln, hln⟩ : ∃ ln, ln = l.length := ⟨_, rfl⟩
  rw [← hln] at h ⊢
  have HS := hide h; have HM := hide hm; have HKK := hide HK; have HLN := hide hln
  clear h hm HK hln
  go_enter Tryz.func46, Tryz.ntmps46
  go_wp2_with fail
  go_loopw [10, 5, 7] (fun iv ov _ wr => ∃ (i : Nat) (ra : Option Addr) (rn rc : Nat), iv = I i ∧ i ≤ l.length ∧ ov = .slice ra rn rc ∧ rn = i ∧ NRow dEo 72 wr (.slice ra rn rc) (l.take i) ∧ Fresh W (.slice ra rn rc) ∧ G W wr) (fun iv _ _ _ => l.length - (RowKit.intOf iv).toNat)
  case atStart => exact ⟨0, none, 0, 0, rfl, Nat.zero_le _, rfl, rfl, NRow.nil _ _ _, Fresh.nil _, G.refl _⟩
  case round =>
    obtain ⟨i, ra, rn, rc, rfl, hik, rfl, hrn, hso, hfo, hg⟩ := hrel
    have hln := HLN.out
    by_cases hil : i < l.length
    · obtain ⟨x, hx⟩ : ∃ x, l[i]? = some x := ⟨_, List.getElem?_eq_getElem hil⟩
      have hxi : (l.map fun y => y.id)[i]? = some x.id := by rw [List.getElem?_map, hx]; rfl
      obtain ⟨gI, oI, cI, qI⟩ := HS.out.addr (by rw [List.length_map]; omega)
      injection qI with q1 q2 q3
      subst q1
      have x1 : wr.cell? ⟨gI, oI + i, none⟩ = some (I x.id) := by
        have := (HS.out.G hg).one hxi 0 (u := I x.id) rfl
        simpa using this
      have i1 : (i : Int) < ln := by omega
      have KI := hide (HKK.out x (List.mem_of_getElem? hx) wr hg)
      have HW : Hid (wrap64 ((i : Int) + 1) = (i : Int) + 1) := by show _ = _; have := HM.out; unfold wrap64; omega
      have HG := hide hg; have HX := hide hx; have HIL := hide hil; have HSO := hide hso; have HFO := hide hfo; have HRN := hide hrn
      clear hik hil hx hxi q2 q3 hso hfo hg hln hrn
      go_wp2_with fail
      refine KI.out.mono ?_
      rintro e w1 ⟨va, vn, vc, rfl, hs1, g1⟩
      obtain ⟨i0, hi0, hz0, hz1, hz2⟩ := info_E
      have hmx : (4000000000000 : Nat) ≤ maxLen := of_decide_eq_true (by kernel_rfl)
      obtain ⟨cR, hcR⟩ : ∃ cR : Raw dEo.s, cR.1 = [I x.id, .string x.ty, I x.fr, I x.to, .slice va vn vc] := ⟨⟨[I x.id, .string x.ty, I x.fr, I x.to, .slice va vn vc], rfl, fun u hu => by simp at hu; rcases hu with rfl | rfl | rfl | rfl | rfl <;> rfl⟩, rfl⟩
      have hrn := HRN.out
      have hil := HIL.out
      have hm := HM.out
      obtain ⟨a5, c5, w5, r1, r2, r3, r4, -⟩ := pushN (P := Tryz.prog) (D := dEo) (tr := 23) i0 _ 64 Tryz.underlying23 hi0 hz0 hz1 hz2 rfl (by decide) (HSO.out.G g1) cR x (by rw [hcR]; exact ⟨_, rfl, hs1⟩) (by decide) (HG.out.trans g1) HFO.out (by omega) (by omega)
      rw [hcR] at r1
      have HF : Hid (NRow dEo 72 w5 (.slice a5 (rn + 1) c5) (l.take (i + 1)) ∧ Fresh W (.slice a5 (rn + 1) c5) ∧ G W w5) := ⟨by rw [List.take_add_one, HX.out]; exact r2, r4, r3⟩
      have HR := hide r1
      clear hi0 hz0 hz1 hz2 r1 r2 r3 r4 g1 hs1 KI x1 i1 hrn hil hm hmx hcR
      go_wp2_with (first | (at_builtin; refine wpList_append_run rfl _ _ 23 rfl (.slice ra rn rc) (.slice (some ⟨w1.heap.size, 0, none⟩) 1 1) rfl rfl HR.out ?_) | fail)
      obtain ⟨f1, f2, f3⟩ := HF.out
      exact ⟨⟨i + 1, a5, rn + 1, c5, by rw [HW.out]; exact srl i, HIL.out, rfl, by rw [HRN.out], f1, f2, f3⟩, by rw [HW.out]; exact sms HIL.out⟩
    · have i1 : ¬ ((i : Int) < ln) := by omega
      have HF : Hid (NRow dEo 72 wr (.slice ra rn rc) l ∧ Fresh W (.slice ra rn rc) ∧ G W wr) := ⟨by rw [List.take_of_length_le (by omega)] at hso; exact hso, hfo, hg⟩
      clear hik hil hso hfo hg hln hrn
      go_wp2_with fail
      go_ret
      exact ⟨ra, rn, rc, rfl, HF.out⟩
end Go.Proofs.YtifioikdhfhljaaGreatDoor
