/- Graphs: may it be loaded? What is laid of a node, of an edge. -/
import Derived.Test.YtifioikdhfhljaaGreatDoorSh4
import Derived.Laws.ResultCell
namespace Go.Proofs.YtifioikdhfhljaaGreatDoor
open Go.RowKit

theorem riseB_pairs : ∀ (l : List Int) (a : Int), riseB a l = true → l.Pairwise (· < ·) ∧ ∀ x ∈ l, a < x
  | [], _, _ => ⟨List.Pairwise.nil, fun x hx => by cases hx⟩
  | x :: l, a, h => by
    unfold riseB at h
    by_cases hx : x ≤ a
    · rw [if_pos hx] at h; cases h
    · rw [if_neg hx] at h
      obtain ⟨h1, h2⟩ := riseB_pairs l x h
      refine ⟨List.pairwise_cons.2 ⟨h2, h1⟩, fun y hy => ?_⟩
      rcases List.mem_cons.1 hy with rfl | hy
      · omega
      · have := h2 y hy; omega
/-- A graph's lists have sizes that lists may have. -/
structure GrB (ns : List Nd) (es : List Ed) : Prop where
  n : ns.length ≤ 2932031007402
  e : es.length ≤ 2199023255552
  p : ∀ x ∈ ns, x.ps.length ≤ 2513169434843
  q : ∀ x ∈ es, x.ps.length ≤ 2513169434843
noncomputable def nodeOk (n : Nd) : Bool := nameB n.lb && propsOk n.ps
noncomputable def edgeOk (ids : List Int) (x : Ed) : Bool := nameB x.ty && decide (x.fr ∈ ids) && decide (x.to ∈ ids) && propsOk x.ps
/-- It may be loaded. -/
noncomputable def mayB (ns : List Nd) (es : List Ed) : Bool := riseB 0 (ns.map fun x => x.id) && riseB 0 (es.map fun x => x.id) && ns.all nodeOk && es.all (edgeOk (ns.map fun x => x.id))
set_option maxRecDepth 100000 in
set_option maxHeartbeats 1000000 in
theorem loadable_any (ns : List Nd) (es : List Ed) (nv ev : Value) (W : World) (h1 : Row relN W nv ns) (h2 : Row relE W ev es) (hb : GrB ns es) (hT : Tabs W) : Calls Tryz.prog 29 #[.agg #[nv, ev]] W fun e w' => e = .returned (.bool (mayB ns es)) ∧ G W w' := by
  obtain ⟨na, nc, rfl⟩ := h1.form
  obtain ⟨ea, ec, rfl⟩ := h2.form
  obtain ⟨b1, hb1⟩ : ∃ b1, b1 = riseB 0 (ns.map fun x => x.id) := ⟨_, rfl⟩
  obtain ⟨b2, hb2⟩ : ∃ b2, b2 = riseB 0 (es.map fun x => x.id) := ⟨_, rfl⟩
  obtain ⟨b3, hb3⟩ : ∃ b3, b3 = ns.all nodeOk := ⟨_, rfl⟩
  obtain ⟨b4', hb4⟩ : ∃ b4, b4 = es.all (edgeOk (ns.map fun x => x.id)) := ⟨_, rfl⟩
  rw [show mayB ns es = (b1 && b2 && b3 && b4') by rw [hb1, hb2, hb3, hb4]; rfl]
  have HBB := hide (And.intro hb1 (And.intro hb2 (And.intro hb3 hb4)))
  clear hb1 hb2 hb3 hb4
  have gA := (G.refl W).alloc (.cells #[.slice na ns.length nc, .slice ea es.length ec] 25)
  have hgc := (Blk.new W [.slice na ns.length nc, .slice ea es.length ec] 25)
  have HBG := hide hgc
  have KM := hide (mpN_any ns _ (W.alloc (.cells #[.slice na ns.length nc, .slice ea es.length ec] 25)) (h1.G gA) (by have := hb.n; omega))
  have H1 := hide h1; have H2 := hide h2; have HB := hide hb; have HT := hide hT; have HA := hide gA
  have hc := hgc.cell
  clear h1 h2 hb hT gA hgc
  go_enter Tryz.func29, Tryz.ntmps29
  go_wp2_with fail
  refine KM.out.mono ?_
  rintro e w1 ⟨v1, rfl, hs1, hf1, hg1⟩
  obtain ⟨ia, ic, hv1⟩ := hs1.form
  obtain ⟨il, hil⟩ : ∃ il, il = (ns.map fun x => x.id).length := ⟨_, rfl⟩
  rw [← hil] at hv1
  subst hv1
  obtain ⟨bx, hbx⟩ : ∃ bx, bx = w1.heap.size := ⟨_, rfl⟩
  obtain ⟨w2, hw2⟩ : ∃ w2, w2 = w1.alloc (.cells #[.slice ia il ic] 73) := ⟨_, rfl⟩
  have hg2 : G W w2 := by rw [hw2]; exact (HA.out.trans hg1).alloc _
  have hB2 : Blk w2 bx 73 [.slice ia il ic] := by rw [hw2, hbx]; exact Blk.new w1 [.slice ia il ic] 73
  have hI2 : Sw eI 2 w2 (.slice ia il ic) (ns.map fun x => x.id) := by rw [hw2]; exact hs1.G ((G.refl _).alloc _)
  have hgw : G (W.alloc (.cells #[.slice na ns.length nc, .slice ea es.length ec] 25)) w2 := by rw [hw2]; exact hg1.alloc _
  have hG2 := HBG.out.G hgw
  have HEW : Hid (w1.alloc (.cells #[.slice ia il ic] 73) = w2) := hw2.symm
  have HBX : Hid (w1.heap.size = bx) := hbx.symm
  have KE := hide (mpE_any es _ w2 (H2.out.G hg2) (by have := HB.out.e; omega))
  have c2 := hG2.cell
  have c2a := c2
  rw [← HEW.out] at c2a
  have HS := hide (And.intro hg2 (And.intro hB2 (And.intro hI2 hG2)))
  clear KM hs1 hf1 hg1 hw2 hbx hg2 hB2 hI2 hgw hG2 hil hc
  go_wp2_with (first | (at_builtin; refine Hid.out ?_) | fail)
  rw [HEW.out]
  try rw [HBX.out]
  refine KE.out.mono ?_
  rintro e w3 ⟨v3, rfl, hs3, hf3, hg3⟩
  obtain ⟨ja, jc, hv3⟩ := hs3.form
  obtain ⟨jl, hjl⟩ : ∃ jl, jl = (es.map fun x => x.id).length := ⟨_, rfl⟩
  rw [← hjl] at hv3
  subst hv3
  obtain ⟨hg2, hB2, hI2, hG2⟩ := HS.out
  have hg4 := hg2.trans hg3
  have hB4 := hB2.G hg3
  have hI4 := hI2.G hg3
  have b4 := hB4.cell
  have c4 := (hG2.G hg3).cell
  have KR1 := hide (rise_any 0 _ _ w3 hI4.toRow (by rw [List.length_map]; have := HB.out.n; omega))
  have KR2 := hide (rise_any 0 _ _ w3 hs3.toRow (by rw [List.length_map]; have := HB.out.e; omega))
  have KN := hide (evN_any nodeOk ns _ w3 (H1.out.G hg4) (by have := HB.out.n; omega) (fun x hx W' g' pa pn pc hr => ld3_any x pa pn pc W' hr (by have := HB.out.p x hx; omega) (HT.out.G (hg4.trans g'))))
  have KX : Hid ((ns.map fun x => x.id).Pairwise (· < ·) → ∀ w5, G w3 w5 → Calls Tryz.prog 85 #[.slice ea es.length ec, .func (.func 86) #[] #[ptr bx]] w5 fun e w' => e = .returned (.bool (es.all (edgeOk (ns.map fun x => x.id)))) ∧ G w5 w') := fun hp w5 g5 =>
    evE_any bx (edgeOk (ns.map fun x => x.id)) es _ w5 (H2.out.G (hg4.trans g5)) (by have := HB.out.e; omega) (fun x hx W' g' pa pn pc hr => ld4_any x pa pn pc bx _ _ W' hr (by have := HB.out.q x hx; omega) (HT.out.G (hg4.trans (g5.trans g'))) (hB4.G (g5.trans g')) (hI4.G (g5.trans g')).toRow hp (by rw [List.length_map]; have := HB.out.n; omega))
  have HP : Hid (riseB 0 (ns.map fun x => x.id) = true → (ns.map fun x => x.id).Pairwise (· < ·)) := fun h => (riseB_pairs _ _ h).1
  have HG := hide hg4
  have hcg := HBG.out.lt
  have HCG : Hid (∀ w5, G w3 w5 → (∀ o, w5.cell? ⟨W.heap.size, o, none⟩ = ([.slice na ns.length nc, .slice ea es.length ec] : List Value)[o]?)) := fun w5 g5 => ((hG2.G hg3).G g5).cell
  obtain ⟨hb1, hb2, hb3, hb4⟩ := HBB.out
  rw [← hb1] at KR1 HP
  rw [← hb2] at KR2
  rw [← hb3] at KN
  rw [← hb4] at KX
  clear hb1 hb2 hb3 hb4 HBB
  clear hg2 hB2 hI2 hG2 hg4 hB4 hI4 hs3 hf3 hg3 hjl KE HS HEW c2 c2a hcg H1 H2 HB HT HA HBG HBX
  go_wp2_with fail
  refine KR1.out.mono ?_
  rintro e w' ⟨rfl, h9⟩
  subst w'
  cases b1 with
  | false =>
    go_wp2_with fail
    go_ret
    exact ⟨by first | rfl | simp, HG.out⟩
  | true =>
    go_wp2_with fail
    refine KR2.out.mono ?_
    rintro e w' ⟨rfl, h9⟩
    subst w'
    cases b2 with
    | false =>
      go_wp2_with fail
      go_ret
      exact ⟨by first | rfl | simp, HG.out⟩
    | true =>
      go_wp2_with fail
      refine KN.out.mono ?_
      rintro e w5 ⟨rfl, g5⟩
      have c5 := HCG.out w5 g5
      have KX5 := hide (KX.out (HP.out (by first | rfl | trivial)) w5 g5)
      have HG5 := hide (HG.out.trans g5)
      clear g5 KX HP KN KR1 KR2 b4 c4 HCG
      cases b3 with
      | false =>
        go_wp2_with fail
        go_ret
        exact ⟨by first | rfl | simp, HG5.out⟩
      | true =>
        go_wp2_with fail
        refine KX5.out.mono ?_
        rintro e w6 ⟨rfl, g6⟩
        have HG6 := hide (HG5.out.trans g6)
        clear g6 KX5 c5
        go_wp2_with fail
        go_ret
        exact ⟨by first | rfl | simp, HG6.out⟩
theorem info_P : ∃ i, Tryz.prog.info? 101 = some i ∧ i.zero = some (.agg #[.string { data := #[] }, I 0, I 0, I 0, .string { data := #[] }]) ∧ i.size = 5 ∧ i.bytes = 56 := info_parts (by kernel_rfl)
set_option maxRecDepth 100000 in
set_option maxHeartbeats 1000000 in
theorem clone_any (v : Value) (l : List Pv) (W : World) (h : Row eP.rel W v l) (hl : l.length ≤ 2513169434845) : Calls Tryz.prog 88 #[v] W fun e W' => ∃ v', e = .returned v' ∧ Sw eP 101 W' v' l ∧ Fresh W v' ∧ G W W' := by
  have h0 := h
  obtain ⟨p, cap, rfl, hc, hn, hr⟩ := h0
  cases p with
  | none =>
    have hl0 : l = [] := by
      cases l with
      | nil => rfl
      | cons y r => obtain ⟨g, o, cs, q, _⟩ := hr 0 y rfl; cases q
    subst hl0
    obtain rfl := hn rfl
    clear h hc hn hr hl
    have q0 : (binOp .eql 42 (.slice none 0 0) (.slice none 0 0)).run Tryz.prog W = .ok (.bool true) W := by rfl
    go_enter Tryz.func88, Tryz.ntmps88
    go_wp2_with fail
    go_ret
    exact ⟨_, rfl, Sw.nil _ _ _, Fresh.nil _, G.refl _⟩
  | some a =>
    obtain ⟨i, hi, hz0, hz1, hz2⟩ := info_P
    have hA := (G.refl W).alloc (.cells #[] 101)
    have hs : Sw eP 101 (W.alloc (.cells #[] 101)) (.slice (some ⟨W.heap.size, 0, none⟩) 0 0) [] := Sw.made W [] 0 rfl (of_decide_eq_true (by kernel_rfl))
    have hm : (2513169434845 : Nat) ≤ maxLen := of_decide_eq_true (by kernel_rfl)
    obtain ⟨v', w', q1, q2, q3, q4⟩ := app_row (P := Tryz.prog) (tr := 42) i _ 56 Tryz.underlying42 hi hz0 hz1 hz2 rfl (by decide) hs (h.G hA) (by simp; omega) (by simp; omega)
    have hf : Fresh W (.slice (some ⟨W.heap.size, 0, none⟩) 0 0) := fun k e => by simp [Value.ownBlock] at e; omega
    obtain ⟨f2, g2⟩ := hf.app hA q3 q4
    rw [List.nil_append] at q2
    have HF : Hid (∃ v'', Ending.returned v' = .returned v'' ∧ Sw eP 101 w' v'' l ∧ Fresh W v'' ∧ G W w') := ⟨_, rfl, q2, f2, g2⟩
    have HR := hide q1
    have q0 : (binOp .eql 42 (.slice (some a) l.length cap) (.slice none 0 0)).run Tryz.prog W = .ok (.bool false) W := by rfl
    clear h hc hn hr hl hi hz0 hz1 hz2 hA hs hm q1 q2 q3 q4 hf f2 g2
    go_enter Tryz.func88, Tryz.ntmps88
    go_wp2_with (first | (at_builtin; refine wpList_append_run rfl _ _ 42 rfl (.slice (some ⟨W.heap.size, 0, none⟩) 0 0) (.slice (some a) l.length cap) rfl rfl HR.out ?_) | fail)
    go_ret
    exact HF.out
theorem G.trans_chg {W w w' : World} {B : Nat} (h : Go.Proofs.YtifioikdhfhljaaGreatDoor.G W w) (k : Chg (fun k => k = B) w w') (hb : W.heap.size ≤ B) : Go.Proofs.YtifioikdhfhljaaGreatDoor.G W w' :=
  ⟨k.os.trans h.os, k.tape.trans h.tape, k.output.trans h.output, Nat.le_trans h.size k.size, fun i hi => (k.block i (Nat.lt_of_lt_of_le hi h.size) (fun e => by subst e; omega)).trans (h.block i hi)⟩
set_option maxRecDepth 100000 in
set_option maxHeartbeats 1000000 in
theorem ofNode_any (x : Nd) (v : Value) (W : World) (h : Row eP.rel W v x.ps) (hl : x.ps.length ≤ 2513169434845) : Calls Tryz.prog 31 #[.agg #[I x.id, .string x.lb, v]] W fun e W' => ∃ v', e = .returned (.agg #[.string x.lb, I 0, I 0, v']) ∧ Sw eP 101 W' v' x.ps ∧ Fresh W v' ∧ G W W' := by
  have hv := h
  obtain ⟨pa, pc, rfl⟩ := h.form
  obtain ⟨pn, hpn⟩ : ∃ pn, pn = x.ps.length := ⟨_, rfl⟩
  rw [← hpn] at h hv ⊢
  obtain ⟨w2, hw2⟩ : ∃ w2, w2 = ((W.alloc (.cells #[I x.id, .string x.lb, .slice pa pn pc] 69)).alloc (.cells #[.string { data := #[] }, I 0, I 0, .slice none 0 0] 83)) := ⟨_, rfl⟩
  have hg2 : G W w2 := by rw [hw2]; exact ((G.refl W).alloc _).alloc _
  have hB1 : Blk w2 W.heap.size 69 [I x.id, .string x.lb, .slice pa pn pc] := by rw [hw2]; exact (Blk.new W [I x.id, .string x.lb, .slice pa pn pc] 69).G ((G.refl _).alloc _)
  obtain ⟨B, hB⟩ : ∃ B, B = W.heap.size + 1 := ⟨_, rfl⟩
  have hB2 : Blk w2 B 83 [.string { data := #[] }, I 0, I 0, .slice none 0 0] := by
    have := Blk.new (W.alloc (.cells #[I x.id, .string x.lb, .slice pa pn pc] 69)) [.string { data := #[] }, I 0, I 0, .slice none 0 0] 83
    rw [hw2, hB]
    simpa using this
  have KC : Hid (∀ w3, G w2 w3 → Calls Tryz.prog 88 #[.slice pa pn pc] w3 fun e W' => ∃ v', e = .returned v' ∧ Sw eP 101 W' v' x.ps ∧ Fresh w3 v' ∧ G w3 W') := fun w3 g3 => clone_any _ x.ps w3 ((hv.G hg2).G g3) hl
  have HB1 := hide hB1; have HB2 := hide hB2; have HG2 := hide hg2
  have HEW : Hid (((W.alloc (.cells #[I x.id, .string x.lb, .slice pa pn pc] 69)).alloc (.cells #[.string { data := #[] }, I 0, I 0, .slice none 0 0] 83)) = w2) := hw2.symm
  have HEB : Hid (W.heap.size + 1 = B) := hB.symm
  have HBS : Hid (W.heap.size ≤ B) := by show _ ≤ _; omega
  have b1 := hB1.cell
  clear h hv hl hw2 hg2 hB1 hB2 hpn hB
  go_enter Tryz.func31, Tryz.ntmps31
  go_wp2_with fail
  rw [HEW.out]
  try rw [HEB.out]
  clear b1
  refine wp_region_noPanic ?_
  refine wp_region_L (S := (fun V => G w2 V)) 6 (by kernel_rfl) ((G.refl w2).drew) (fun hHeld => ?_)
  refine wpAnyL_take (i := 0) (v := ?_) rfl (by kernel_rfl) (by kernel_rfl) (by kernel_rfl) (by kernel_rfl) (fun _ _ _ h => h) (Or.inl ⟨by rfl, ?_⟩) hHeld ?_
  rotate_left 1
  · (intro w hSw; have q1 := (HB1.out.G hSw).cell; go_simp; try with_reducible rfl)
  try simp only [Act.put, List.getElem_toArray, List.getElem_cons_zero, List.setIfInBounds_toArray, List.set_cons_zero, List.set_cons_succ]
  refine wpAnyL_take (i := 1) (v := ?_) rfl (by kernel_rfl) (by kernel_rfl) (by kernel_rfl) (by kernel_rfl) (fun _ _ _ h => h) (Or.inl ⟨by rfl, ?_⟩) hHeld ?_
  rotate_left 1
  · (intro w hSw; have q1 := (HB1.out.G hSw).cell; go_simp; try with_reducible rfl)
  try simp only [Act.put, List.getElem_toArray, List.getElem_cons_zero, List.getElem_cons_succ, List.setIfInBounds_toArray, List.set_cons_zero, List.set_cons_succ]
  refine wpAnyL_take (i := 2) (v := ?_) rfl (by kernel_rfl) (by kernel_rfl) (by kernel_rfl) (by kernel_rfl) (fun _ _ _ h => h) (Or.inl ⟨by rfl, ?_⟩) hHeld ?_
  rotate_left 1
  · (intro w hSw; have q1 := (HB1.out.G hSw).cell; go_simp; try with_reducible rfl)
  try simp only [Act.put, List.getElem_toArray, List.getElem_cons_zero, List.getElem_cons_succ, List.setIfInBounds_toArray, List.set_cons_zero, List.set_cons_succ]
  refine wpAnyL_take (i := 3) (v := ?_) rfl (by kernel_rfl) (by kernel_rfl) (by kernel_rfl) (by kernel_rfl) (fun _ _ _ h => h) (Or.inl ⟨by rfl, ?_⟩) hHeld ?_
  rotate_left 1
  · (intro w hSw; have q1 := (HB1.out.G hSw).cell; go_simp; try with_reducible rfl)
  try simp only [Act.put, List.getElem_toArray, List.getElem_cons_zero, List.getElem_cons_succ, List.setIfInBounds_toArray, List.set_cons_zero, List.set_cons_succ]
  refine wpAnyL_one (i := 4) (by kernel_rfl) rfl (by kernel_rfl) (fun K hK => ?_)
  clear hHeld
  go_simp
  refine (KC.out _ ((G.refl w2).drew)).mono ?_
  rintro e w5 ⟨v5, rfl, hs5, hf5, hg5⟩
  obtain ⟨qa, qc, hv5⟩ := hs5.form
  obtain ⟨qn, hqn⟩ : ∃ qn, qn = x.ps.length := ⟨_, rfl⟩
  rw [← hqn] at hv5
  subst hv5
  have HG5 : Hid (G w2 w5) := ((G.refl w2).drew).trans hg5
  have HS5 := hide (And.intro hs5 (And.intro (hf5.old (G.refl w2).drew) hqn))
  clear hs5 hf5 hg5 hqn KC
  go_wp2_with fail
  refine hK.out _ _ (HG5.out) (fun hHeld => ?_)
  clear hK K
  try simp only [Act.put, List.getElem_toArray, List.getElem_cons_zero, List.getElem_cons_succ, List.setIfInBounds_toArray, List.set_cons_zero, List.set_cons_succ]
  refine wpAnyL_take (i := 5) (v := ?_) rfl (by kernel_rfl) (by kernel_rfl) (by kernel_rfl) (by kernel_rfl) (fun _ _ _ h => h) (Or.inl ⟨by rfl, ?_⟩) hHeld ?_
  rotate_left 1
  · (intro w hSw; (try dsimp only at hSw); go_simp; try with_reducible rfl)
  try simp only [Act.put, List.getElem_toArray, List.getElem_cons_zero, List.getElem_cons_succ, List.setIfInBounds_toArray, List.set_cons_zero, List.set_cons_succ]
  refine wpAnyL_last (by kernel_rfl) rfl (by kernel_rfl) (fun K hK => ?_)
  clear hHeld
  have hc7 := (HB2.out.G HG5.out).cell
  have hz7 := (HB2.out.G HG5.out).frozen
  go_simp
  refine hK.out _ _ ?_
  clear hK K
  refine NoPanic.normal ?_
  have HB5 := HB2.out.G HG5.out
  have hC9 := ((((HB5.set 0 (.string x.lb)).set 1 (I 0)).set 2 (I 0)).set 3 (.slice qa qn qc))
  obtain ⟨hs5, hf5, hqn⟩ := HS5.out
  have hgx : G W w5 := HG2.out.trans HG5.out
  have hch := ((((chg_setCell (F := fun k => k = B) (b := B) (o := 0) w5 (.string x.lb) (.inl rfl)).trans (chg_setCell (F := fun k => k = B) (b := B) (o := 1) _ (I 0) (.inl rfl))).trans (chg_setCell (F := fun k => k = B) (b := B) (o := 2) _ (I 0) (.inl rfl))).trans (chg_setCell (F := fun k => k = B) (b := B) (o := 3) _ (.slice qa qn qc) (.inl rfl)))
  have hF9 : Sw eP 101 _ (.slice qa qn qc) x.ps ∧ G W _ := ⟨hs5.chg (F := fun k => k = B) hch (fun b hb e => hs5.ne (g := B) HB5 (by decide) (by rw [hb, e])), hgx.trans_chg hch HBS.out⟩
  go_wp2_with fail
  exact bodyPost_ret_by (v := .agg #[.string x.lb, I 0, I 0, .slice qa qn qc]) (results_cell_row Tryz.results31 _ _ B 83 _ (0, 0) _ rfl hC9.h Tryz.underlying83 rfl (by kernel_rfl)) rfl ⟨.slice qa qn qc, rfl, hF9.1, hf5.old HG2.out, hF9.2⟩
set_option maxRecDepth 100000 in
set_option maxHeartbeats 1000000 in
theorem ofEdge_any (x : Ed) (v : Value) (W : World) (h : Row eP.rel W v x.ps) (hl : x.ps.length ≤ 2513169434845) : Calls Tryz.prog 32 #[.agg #[I x.id, .string x.ty, I x.fr, I x.to, v]] W fun e W' => ∃ v', e = .returned (.agg #[.string x.ty, I x.fr, I x.to, v']) ∧ Sw eP 101 W' v' x.ps ∧ Fresh W v' ∧ G W W' := by
  have hv := h
  obtain ⟨pa, pc, rfl⟩ := h.form
  obtain ⟨pn, hpn⟩ : ∃ pn, pn = x.ps.length := ⟨_, rfl⟩
  rw [← hpn] at h hv ⊢
  obtain ⟨w2, hw2⟩ : ∃ w2, w2 = ((W.alloc (.cells #[I x.id, .string x.ty, I x.fr, I x.to, .slice pa pn pc] 72)).alloc (.cells #[.string { data := #[] }, I 0, I 0, .slice none 0 0] 83)) := ⟨_, rfl⟩
  have hg2 : G W w2 := by rw [hw2]; exact ((G.refl W).alloc _).alloc _
  have hB1 : Blk w2 W.heap.size 72 [I x.id, .string x.ty, I x.fr, I x.to, .slice pa pn pc] := by rw [hw2]; exact (Blk.new W [I x.id, .string x.ty, I x.fr, I x.to, .slice pa pn pc] 72).G ((G.refl _).alloc _)
  obtain ⟨B, hB⟩ : ∃ B, B = W.heap.size + 1 := ⟨_, rfl⟩
  have hB2 : Blk w2 B 83 [.string { data := #[] }, I 0, I 0, .slice none 0 0] := by
    have := Blk.new (W.alloc (.cells #[I x.id, .string x.ty, I x.fr, I x.to, .slice pa pn pc] 72)) [.string { data := #[] }, I 0, I 0, .slice none 0 0] 83
    rw [hw2, hB]
    simpa using this
  have KC : Hid (∀ w3, G w2 w3 → Calls Tryz.prog 88 #[.slice pa pn pc] w3 fun e W' => ∃ v', e = .returned v' ∧ Sw eP 101 W' v' x.ps ∧ Fresh w3 v' ∧ G w3 W') := fun w3 g3 => clone_any _ x.ps w3 ((hv.G hg2).G g3) hl
  have HB1 := hide hB1; have HB2 := hide hB2; have HG2 := hide hg2
  have HEW : Hid (((W.alloc (.cells #[I x.id, .string x.ty, I x.fr, I x.to, .slice pa pn pc] 72)).alloc (.cells #[.string { data := #[] }, I 0, I 0, .slice none 0 0] 83)) = w2) := hw2.symm
  have HEB : Hid (W.heap.size + 1 = B) := hB.symm
  have HBS : Hid (W.heap.size ≤ B) := by show _ ≤ _; omega
  have b1 := hB1.cell
  clear h hv hl hw2 hg2 hB1 hB2 hpn hB
  go_enter Tryz.func32, Tryz.ntmps32
  go_wp2_with fail
  rw [HEW.out]
  try rw [HEB.out]
  clear b1
  refine wp_region_noPanic ?_
  refine wp_region_L (S := (fun V => G w2 V)) 10 (by kernel_rfl) ((G.refl w2).drew) (fun hHeld => ?_)
  refine wpAnyL_take (i := 0) (v := ?_) rfl (by kernel_rfl) (by kernel_rfl) (by kernel_rfl) (by kernel_rfl) (fun _ _ _ h => h) (Or.inl ⟨by rfl, ?_⟩) hHeld ?_
  rotate_left 1
  · (intro w hSw; have q1 := (HB1.out.G hSw).cell; go_simp; try with_reducible rfl)
  try simp only [Act.put, List.getElem_toArray, List.getElem_cons_zero, List.setIfInBounds_toArray, List.set_cons_zero, List.set_cons_succ]
  refine wpAnyL_take (i := 1) (v := ?_) rfl (by kernel_rfl) (by kernel_rfl) (by kernel_rfl) (by kernel_rfl) (fun _ _ _ h => h) (Or.inl ⟨by rfl, ?_⟩) hHeld ?_
  rotate_left 1
  · (intro w hSw; have q1 := (HB1.out.G hSw).cell; go_simp; try with_reducible rfl)
  try simp only [Act.put, List.getElem_toArray, List.getElem_cons_zero, List.getElem_cons_succ, List.setIfInBounds_toArray, List.set_cons_zero, List.set_cons_succ]
  refine wpAnyL_take (i := 2) (v := ?_) rfl (by kernel_rfl) (by kernel_rfl) (by kernel_rfl) (by kernel_rfl) (fun _ _ _ h => h) (Or.inl ⟨by rfl, ?_⟩) hHeld ?_
  rotate_left 1
  · (intro w hSw; have q1 := (HB1.out.G hSw).cell; go_simp; try with_reducible rfl)
  try simp only [Act.put, List.getElem_toArray, List.getElem_cons_zero, List.getElem_cons_succ, List.setIfInBounds_toArray, List.set_cons_zero, List.set_cons_succ]
  refine wpAnyL_take (i := 3) (v := ?_) rfl (by kernel_rfl) (by kernel_rfl) (by kernel_rfl) (by kernel_rfl) (fun _ _ _ h => h) (Or.inl ⟨by rfl, ?_⟩) hHeld ?_
  rotate_left 1
  · (intro w hSw; have q1 := (HB1.out.G hSw).cell; go_simp; try with_reducible rfl)
  try simp only [Act.put, List.getElem_toArray, List.getElem_cons_zero, List.getElem_cons_succ, List.setIfInBounds_toArray, List.set_cons_zero, List.set_cons_succ]
  refine wpAnyL_take (i := 4) (v := ?_) rfl (by kernel_rfl) (by kernel_rfl) (by kernel_rfl) (by kernel_rfl) (fun _ _ _ h => h) (Or.inl ⟨by rfl, ?_⟩) hHeld ?_
  rotate_left 1
  · (intro w hSw; have q1 := (HB1.out.G hSw).cell; go_simp; try with_reducible rfl)
  try simp only [Act.put, List.getElem_toArray, List.getElem_cons_zero, List.getElem_cons_succ, List.setIfInBounds_toArray, List.set_cons_zero, List.set_cons_succ]
  refine wpAnyL_take (i := 5) (v := ?_) rfl (by kernel_rfl) (by kernel_rfl) (by kernel_rfl) (by kernel_rfl) (fun _ _ _ h => h) (Or.inl ⟨by rfl, ?_⟩) hHeld ?_
  rotate_left 1
  · (intro w hSw; have q1 := (HB1.out.G hSw).cell; go_simp; try with_reducible rfl)
  try simp only [Act.put, List.getElem_toArray, List.getElem_cons_zero, List.getElem_cons_succ, List.setIfInBounds_toArray, List.set_cons_zero, List.set_cons_succ]
  refine wpAnyL_take (i := 6) (v := ?_) rfl (by kernel_rfl) (by kernel_rfl) (by kernel_rfl) (by kernel_rfl) (fun _ _ _ h => h) (Or.inl ⟨by rfl, ?_⟩) hHeld ?_
  rotate_left 1
  · (intro w hSw; have q1 := (HB1.out.G hSw).cell; go_simp; try with_reducible rfl)
  try simp only [Act.put, List.getElem_toArray, List.getElem_cons_zero, List.getElem_cons_succ, List.setIfInBounds_toArray, List.set_cons_zero, List.set_cons_succ]
  refine wpAnyL_take (i := 7) (v := ?_) rfl (by kernel_rfl) (by kernel_rfl) (by kernel_rfl) (by kernel_rfl) (fun _ _ _ h => h) (Or.inl ⟨by rfl, ?_⟩) hHeld ?_
  rotate_left 1
  · (intro w hSw; have q1 := (HB1.out.G hSw).cell; go_simp; try with_reducible rfl)
  try simp only [Act.put, List.getElem_toArray, List.getElem_cons_zero, List.getElem_cons_succ, List.setIfInBounds_toArray, List.set_cons_zero, List.set_cons_succ]
  refine wpAnyL_one (i := 8) (by kernel_rfl) rfl (by kernel_rfl) (fun K hK => ?_)
  clear hHeld
  go_simp
  refine (KC.out _ ((G.refl w2).drew)).mono ?_
  rintro e w5 ⟨v5, rfl, hs5, hf5, hg5⟩
  obtain ⟨qa, qc, hv5⟩ := hs5.form
  obtain ⟨qn, hqn⟩ : ∃ qn, qn = x.ps.length := ⟨_, rfl⟩
  rw [← hqn] at hv5
  subst hv5
  have HG5 : Hid (G w2 w5) := ((G.refl w2).drew).trans hg5
  have HS5 := hide (And.intro hs5 (And.intro (hf5.old (G.refl w2).drew) hqn))
  clear hs5 hf5 hg5 hqn KC
  go_wp2_with fail
  refine hK.out _ _ (HG5.out) (fun hHeld => ?_)
  clear hK K
  try simp only [Act.put, List.getElem_toArray, List.getElem_cons_zero, List.getElem_cons_succ, List.setIfInBounds_toArray, List.set_cons_zero, List.set_cons_succ]
  refine wpAnyL_take (i := 9) (v := ?_) rfl (by kernel_rfl) (by kernel_rfl) (by kernel_rfl) (by kernel_rfl) (fun _ _ _ h => h) (Or.inl ⟨by rfl, ?_⟩) hHeld ?_
  rotate_left 1
  · (intro w hSw; (try dsimp only at hSw); go_simp; try with_reducible rfl)
  try simp only [Act.put, List.getElem_toArray, List.getElem_cons_zero, List.getElem_cons_succ, List.setIfInBounds_toArray, List.set_cons_zero, List.set_cons_succ]
  refine wpAnyL_last (by kernel_rfl) rfl (by kernel_rfl) (fun K hK => ?_)
  clear hHeld
  have hc7 := (HB2.out.G HG5.out).cell
  have hz7 := (HB2.out.G HG5.out).frozen
  go_simp
  refine hK.out _ _ ?_
  clear hK K
  refine NoPanic.normal ?_
  have HB5 := HB2.out.G HG5.out
  have hC9 := ((((HB5.set 0 (.string x.ty)).set 1 (I x.fr)).set 2 (I x.to)).set 3 (.slice qa qn qc))
  obtain ⟨hs5, hf5, hqn⟩ := HS5.out
  have hgx : G W w5 := HG2.out.trans HG5.out
  have hch := ((((chg_setCell (F := fun k => k = B) (b := B) (o := 0) w5 (.string x.ty) (.inl rfl)).trans (chg_setCell (F := fun k => k = B) (b := B) (o := 1) _ (I x.fr) (.inl rfl))).trans (chg_setCell (F := fun k => k = B) (b := B) (o := 2) _ (I x.to) (.inl rfl))).trans (chg_setCell (F := fun k => k = B) (b := B) (o := 3) _ (.slice qa qn qc) (.inl rfl)))
  have hF9 : Sw eP 101 _ (.slice qa qn qc) x.ps ∧ G W _ := ⟨hs5.chg (F := fun k => k = B) hch (fun b hb e => hs5.ne (g := B) HB5 (by decide) (by rw [hb, e])), hgx.trans_chg hch HBS.out⟩
  go_wp2_with fail
  exact bodyPost_ret_by (v := .agg #[.string x.ty, I x.fr, I x.to, .slice qa qn qc]) (results_cell_row Tryz.results32 _ _ B 83 _ (0, 0) _ rfl hC9.h Tryz.underlying83 rfl (by kernel_rfl)) rfl ⟨.slice qa qn qc, rfl, hF9.1, hf5.old HG2.out, hF9.2⟩
end Go.Proofs.YtifioikdhfhljaaGreatDoor
