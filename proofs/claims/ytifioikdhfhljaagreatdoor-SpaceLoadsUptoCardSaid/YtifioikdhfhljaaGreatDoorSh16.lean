/- Graphs: the marks stand. -/
import Derived.Test.YtifioikdhfhljaaGreatDoorSh15
namespace Go.Proofs.YtifioikdhfhljaaGreatDoor
open Go.RowKit
set_option maxRecDepth 100000 in
set_option maxHeartbeats 4000000 in
theorem smarks_any (ns : List Nd) (es : List Ed) (na : Option Addr) (nn nc : Nat) (ea : Option Addr) (en ec : Nat) (rv gn ge' : Value) (W : World) (h1 : NRow dNo 69 W (.slice na nn nc) (ns ++ ndM)) (h2 : NRow dEo 72 W (.slice ea en ec) (es ++ edM)) (h3 : NRow dRm 42 W rv ((ns.map fun y => rooms y.ps) ++ es.map fun y => rooms y.ps)) (h4 : Row relN W gn ns) (h5 : Row relE W ge' es) (hs : SmB ns es) :
    Calls Tryz.prog 11 #[.agg #[.slice na nn nc, .slice ea en ec], rv, .agg #[gn, ge']] W fun e W' => e = .returned (.bool true) ∧ G W W' := by
  have hnn : nn = ns.length + 2 := by have := h1.len_eq; simp [ndM] at this; omega
  have hen : en = es.length + 2 := by have := h2.len_eq; simp [edM] at this; omega
  obtain ⟨kn, hkn⟩ : ∃ kn, kn = ns.length := ⟨_, rfl⟩
  obtain ⟨ke, hke⟩ : ∃ ke, ke = es.length := ⟨_, rfl⟩
  obtain ⟨kn1, hkn1⟩ : ∃ kn1, kn1 = kn + 1 := ⟨_, rfl⟩
  obtain ⟨ke1, hke1⟩ : ∃ ke1, ke1 = ke + 1 := ⟨_, rfl⟩
  have hsn := hs.n
  have hse := hs.e
  have HL : Hid (nn = kn + 2 ∧ en = ke + 2 ∧ kn = ns.length ∧ ke = es.length ∧ kn ≤ 1048576 ∧ ke ≤ 1048576) := ⟨by omega, by omega, hkn, hke, by omega, by omega⟩
  have hw1 : wrap64 ((kn : Int) + 2) = (nn : Int) := by unfold wrap64; omega
  have hw2' : wrap64 ((ke : Int) + 2) = (en : Int) := by unfold wrap64; omega
  have hw3 : wrap64 ((kn : Int) + 1) = (kn1 : Int) := by unfold wrap64; omega
  have hw4 : wrap64 ((ke : Int) + 1) = (ke1 : Int) := by unfold wrap64; omega
  have j1 : (kn : Int) < (nn : Int) := by omega
  have j2 : (kn1 : Int) < (nn : Int) := by omega
  have j3 : (ke : Int) < (en : Int) := by omega
  have j4 : (ke1 : Int) < (en : Int) := by omega
  obtain ⟨ga, c1, rfl, hnc, ⟨v1, d1, -⟩, -, u1, -⟩ := h1.at (i := kn) (x := ndM[0]) (by rw [hkn, List.getElem?_append_right (by simp)]; simp [ndM])
  obtain ⟨ga', c2, e2, -, ⟨v2, d2, -⟩, -, u2, -⟩ := h1.at (i := kn1) (x := ndM[1]) (by rw [hkn1, hkn, List.getElem?_append_right (by simp)]; simp [ndM])
  injection e2 with e2
  injection e2 with e2
  subst e2
  obtain ⟨ge, c3, rfl, hec, ⟨v3, d3, -⟩, -, u3, -⟩ := h2.at (i := ke) (x := edM[0]) (by rw [hke, List.getElem?_append_right (by simp)]; simp [edM])
  obtain ⟨ge9, c4, e4, -, ⟨v4, d4, -⟩, -, u4, -⟩ := h2.at (i := ke1) (x := edM[1]) (by rw [hke1, hke, List.getElem?_append_right (by simp)]; simp [edM])
  injection e4 with e4
  injection e4 with e4
  subst e4
  obtain ⟨w2, hw2⟩ : ∃ w2, w2 = (W.alloc (.cells #[.slice (some ⟨ga, 0, none⟩) nn nc, .slice (some ⟨ge, 0, none⟩) en ec] 25)).alloc (.cells #[gn, ge'] 25) := ⟨_, rfl⟩
  obtain ⟨pn, pcn, rfl⟩ := h4.form
  obtain ⟨pe, pce, rfl⟩ := h5.form
  rw [← hkn, ← hke] at hw2 ⊢
  obtain ⟨ra, rc, hrf⟩ := h3.form
  obtain ⟨rn, hrn⟩ : ∃ rn, rn = ((ns.map fun y => rooms y.ps) ++ es.map fun y => rooms y.ps).length := ⟨_, rfl⟩
  rw [← hrn] at hrf
  subst hrf
  have hrn2 : rn = kn + ke := by rw [hrn]; simp; omega
  clear hrn
  obtain ⟨B1, hB1⟩ : ∃ B1, B1 = W.heap.size := ⟨_, rfl⟩
  obtain ⟨B2, hB2⟩ : ∃ B2, B2 = B1 + 1 := ⟨_, rfl⟩
  have hgw : G W w2 := by rw [hw2]; exact ((G.refl W).alloc _).alloc _
  have hb1 : Blk w2 B1 25 [.slice (some ⟨ga, 0, none⟩) nn nc, .slice (some ⟨ge, 0, none⟩) en ec] := by rw [hw2, hB1]; exact (Blk.new W [.slice (some ⟨ga, 0, none⟩) nn nc, .slice (some ⟨ge, 0, none⟩) en ec] 25).G ((G.refl _).alloc _)
  have hb2 : Blk w2 B2 25 [.slice pn kn pcn, .slice pe ke pce] := by
    have := Blk.new (W.alloc (.cells #[.slice (some ⟨ga, 0, none⟩) nn nc, .slice (some ⟨ge, 0, none⟩) en ec] 25)) [.slice pn kn pcn, .slice pe ke pce] 25
    rw [hw2, hB2, hB1]
    simpa using this
  have x1 : w2.cell? ⟨ga, kn * 3, none⟩ = some (I (-91)) := cell_G ((u1 0 (by decide)).trans (by rw [d1]; rfl)) hgw
  have x2 : w2.cell? ⟨ga, kn1 * 3, none⟩ = some (I (-92)) := cell_G ((u2 0 (by decide)).trans (by rw [d2]; rfl)) hgw
  have x3 : w2.cell? ⟨ge, ke * 5, none⟩ = some (I (-91)) := cell_G ((u3 0 (by decide)).trans (by rw [d3]; rfl)) hgw
  have x4 : w2.cell? ⟨ge, ke1 * 5, none⟩ = some (I (-92)) := cell_G ((u4 0 (by decide)).trans (by rw [d4]; rfl)) hgw
  have kb1 := hb1.cell
  have kb2 := hb2.cell
  have hga9 := h1.lt (k := ga) rfl
  have hge9 := h2.lt (k := ge) rfl
  have m1 : ga < W.heap.size + 1 := by omega
  have m2 : ge < W.heap.size + 1 := by omega
  have m3 : ga < W.heap.size + 1 + 1 := by omega
  have m4 : ge < W.heap.size + 1 + 1 := by omega
  have y1 : W.cell? ⟨ga, kn * 3, none⟩ = some (I (-91)) := (u1 0 (by decide)).trans (by rw [d1]; rfl)
  have y2 : W.cell? ⟨ga, kn1 * 3, none⟩ = some (I (-92)) := (u2 0 (by decide)).trans (by rw [d2]; rfl)
  have y3 : W.cell? ⟨ge, ke * 5, none⟩ = some (I (-91)) := (u3 0 (by decide)).trans (by rw [d3]; rfl)
  have y4 : W.cell? ⟨ge, ke1 * 5, none⟩ = some (I (-92)) := (u4 0 (by decide)).trans (by rw [d4]; rfl)
  rw [hw2] at x1 x2 x3 x4
  have HEW : Hid (((W.alloc (.cells #[.slice (some ⟨ga, 0, none⟩) nn nc, .slice (some ⟨ge, 0, none⟩) en ec] 25)).alloc (.cells #[.slice pn kn pcn, .slice pe ke pce] 25)) = w2) := hw2.symm
  have HE1 : Hid (W.heap.size = B1) := hB1.symm
  have HE2 : Hid (B1 + 1 = B2) := hB2.symm
  have HSM := hide hs
  have HRN : Hid (rn = kn + ke) := hrn2
  have HR := hide (And.intro (h1.G hgw) (And.intro (h2.G hgw) (And.intro (h3.G hgw) (And.intro (h4.G hgw) (h5.G hgw)))))
  rw [← hkn, ← hke] at HR
  have HB := hide (And.intro hb1 hb2)
  have HGW := hide hgw
  clear h1 h2 h3 h4 h5 hs hnn hen hnc hec hkn hke hkn1 hke1 d1 d2 d3 d4 u1 u2 u3 u4 hw2 hB1 hB2 hgw hb1 hb2 hsn hse hrn2
  go_enter Tryz.func11, Tryz.ntmps11
  go_wp2_with fail
  rw [HEW.out, HE1.out, HE2.out]
  clear HEW HE1 HE2 x1 x2 x3 x4 hw1 hw2' hw3 hw4 j1 j2 j3 j4 kb1 kb2 hga9 hge9 m1 m2 m3 m4 y1 y2 y3 y4
  go_loopw [9] (fun iv wr => ∃ i : Nat, iv = I i ∧ i ≤ ns.length ∧ G w2 wr) (fun iv _ => ns.length - (RowKit.intOf iv).toNat)
  case atStart => exact ⟨0, rfl, Nat.zero_le _, G.refl _⟩
  case round =>
    rename_i wr hout
    obtain ⟨i, rfl, hik, hg⟩ := hrel
    have hl := HL.out
    have hsm := HSM.out
    have kb1 := (HB.out.1.G hg).cell
    have kb2 := (HB.out.2.G hg).cell
    by_cases hil : i < ns.length
    · obtain ⟨x, hx⟩ : ∃ x, ns[i]? = some x := ⟨_, List.getElem?_eq_getElem hil⟩
      have hxp := hsm.p x (List.mem_of_getElem? hx)
      obtain ⟨g9, cs, hga, hcap, ⟨v, hcs, hv⟩, -, hcell, -⟩ := (HR.out.1.G hg).at (i := i) (x := x) (by rw [List.getElem?_append_left hil]; exact hx)
      injection hga with hga
      injection hga with hga
      subst hga
      rw [hcs] at hcell
      obtain ⟨va, vc, hvf⟩ := hv.form
      obtain ⟨pn9, hpn9⟩ : ∃ pn9, pn9 = x.ps.length := ⟨_, rfl⟩
      rw [← hpn9] at hvf
      subst hvf
      obtain ⟨g2, o2, cp2, q'⟩ := HR.out.2.2.2.1.addr (by omega)
      injection q' with q1' q2' q3'
      subst q1' q3'
      obtain ⟨cs2, ⟨vp, hcs2, hvp⟩, hr2⟩ := HR.out.2.2.2.1.at hx
      subst hcs2
      obtain ⟨pa, pc, hvf⟩ := hvp.form
      rw [← hpn9] at hvf
      subst hvf
      skip
      obtain ⟨gr, cs3, rfl, hcap3, ⟨v3, hcs3, hv3⟩, -, hcell3, -⟩ := (HR.out.2.2.1.G hg).at (i := i) (x := rooms x.ps) (by rw [List.getElem?_append_left (by simpa using hil), List.getElem?_map, hx]; rfl)
      rw [hcs3] at hcell3
      obtain ⟨ta, tc, hvf⟩ := hv3.form
      obtain ⟨tn, htn⟩ : ∃ tn, tn = (rooms x.ps).length := ⟨_, rfl⟩
      rw [← htn] at hvf
      subst hvf
      have z1 : wr.cell? ⟨gr, i, none⟩ = some (.slice ta tn tc) := by have := hcell3 0 (by decide); simpa using this
      have hrn := HRN.out
      have i1 : (i : Int) < (kn : Int) := by omega
      have i2 : (i : Int) < (nn : Int) := by omega
      have i3 : (i : Int) < (rn : Int) := by omega
      skip
      have HW : Hid (wrap64 ((i : Int) + 1) = (i : Int) + 1) := by show _ = _; unfold wrap64; omega
      have HS : Hid (∀ V, G wr V → V.cell? ⟨ga, i * 3, none⟩ = some (I x.id) ∧ V.cell? ⟨ga, i * 3 + 1, none⟩ = some (.string x.lb) ∧ V.cell? ⟨ga, i * 3 + 2, none⟩ = some (.slice va pn9 vc) ∧ V.cell? ⟨g2, o2 + i * 3, none⟩ = some (I x.id) ∧ V.cell? ⟨g2, o2 + i * 3 + 1, none⟩ = some (.string x.lb) ∧ V.cell? ⟨g2, o2 + i * 3 + 2, none⟩ = some (.slice pa pn9 pc) ∧ V.cell? ⟨gr, i, none⟩ = some (.slice ta tn tc) ∧ (∀ o, V.cell? ⟨B1, o, none⟩ = ([.slice (some ⟨ga, 0, none⟩) nn nc, .slice (some ⟨ge, 0, none⟩) en ec] : List Value)[o]?) ∧ (∀ o, V.cell? ⟨B2, o, none⟩ = ([.slice (some ⟨g2, o2, none⟩) kn pcn, .slice pe ke pce] : List Value)[o]?) ∧ G wr V) := fun V h => ⟨cell_G (hcell 0 (by decide)) h, cell_G (hcell 1 (by decide)) h, cell_G (hcell 2 (by decide)) h, cell_G (rangeAt_G hr2 hg 0 _ rfl) h, cell_G (rangeAt_G hr2 hg 1 _ rfl) h, cell_G (rangeAt_G hr2 hg 2 _ rfl) h, cell_G z1 h, ((HB.out.1.G hg).G h).cell, ((HB.out.2.G hg).G h).cell, h⟩
      have K1 : Hid (∀ V, G wr V → Calls Tryz.prog 34 #[.agg #[I x.id, .string x.lb, .slice va pn9 vc], .agg #[I x.id, .string x.lb, .slice pa pn9 pc]] V fun e W' => e = .returned (.bool true) ∧ G V W') := fun V hV => snode_any x _ _ V (hv.G hV).toRow ((hvp.G hg).G hV) (by omega)
      have K2 : Hid (∀ V, G wr V → Calls Tryz.prog 35 #[.slice ta tn tc, .slice pa pn9 pc] V fun e W' => e = .returned (.bool true) ∧ G V W') := fun V hV => sstays_any x.ps _ _ V (hv3.G hV) ((hvp.G hg).G hV) hxp
      have HIL := hide hil; have HG := hide hg
      clear hik hil hx q2' hg hv hvp hr2 hpn9 hcap hcs hcell hxp hcap3 hcs3 hcell3 hv3 htn z1 hl hsm hrn
      go_wp2_with fail
      clear kb1 kb2
      refine wp_region_noPanic ?_
      refine wp_region_held_drew (S := (fun V => V.cell? ⟨ga, i * 3, none⟩ = some (I x.id) ∧ V.cell? ⟨ga, i * 3 + 1, none⟩ = some (.string x.lb) ∧ V.cell? ⟨ga, i * 3 + 2, none⟩ = some (.slice va pn9 vc) ∧ V.cell? ⟨g2, o2 + i * 3, none⟩ = some (I x.id) ∧ V.cell? ⟨g2, o2 + i * 3 + 1, none⟩ = some (.string x.lb) ∧ V.cell? ⟨g2, o2 + i * 3 + 2, none⟩ = some (.slice pa pn9 pc) ∧ V.cell? ⟨gr, i, none⟩ = some (.slice ta tn tc) ∧ (∀ o, V.cell? ⟨B1, o, none⟩ = ([.slice (some ⟨ga, 0, none⟩) nn nc, .slice (some ⟨ge, 0, none⟩) en ec] : List Value)[o]?) ∧ (∀ o, V.cell? ⟨B2, o, none⟩ = ([.slice (some ⟨g2, o2, none⟩) kn pcn, .slice pe ke pce] : List Value)[o]?) ∧ G wr V)) (by kernel_rfl) (HS.out _ ((G.refl _).drew)) (fun hHeld => ?_)
      refine wpAnyH_take (i := 0) (v := ?_) rfl (by kernel_rfl) (by kernel_rfl) (by kernel_rfl) (fun _ _ _ h => h) (Or.inl ⟨by rfl, ?_⟩) hHeld ?_
      rotate_left 1
      · (intro w hSw; obtain ⟨q0, q1, q2, q3, q4, q5, q6, q7, q8, -⟩ := hSw; go_simp; try with_reducible rfl)
      try simp only [Act.put, List.getElem_toArray, List.getElem_cons_zero, List.setIfInBounds_toArray, List.set_cons_zero, List.set_cons_succ]
      refine wpAnyH_take (i := 1) (v := ?_) rfl (by kernel_rfl) (by kernel_rfl) (by kernel_rfl) (fun _ _ _ h => h) (Or.inl ⟨by rfl, ?_⟩) hHeld ?_
      rotate_left 1
      · (intro w hSw; obtain ⟨q0, q1, q2, q3, q4, q5, q6, q7, q8, -⟩ := hSw; go_simp; try with_reducible rfl)
      try simp only [Act.put, List.getElem_toArray, List.getElem_cons_zero, List.getElem_cons_succ, List.setIfInBounds_toArray, List.set_cons_zero, List.set_cons_succ]
      refine wpAnyH_take (i := 2) (v := ?_) rfl (by kernel_rfl) (by kernel_rfl) (by kernel_rfl) (fun _ _ _ h => h) (Or.inl ⟨by rfl, ?_⟩) hHeld ?_
      rotate_left 1
      · (intro w hSw; obtain ⟨q0, q1, q2, q3, q4, q5, q6, q7, q8, -⟩ := hSw; go_simp; try with_reducible rfl)
      try simp only [Act.put, List.getElem_toArray, List.getElem_cons_zero, List.getElem_cons_succ, List.setIfInBounds_toArray, List.set_cons_zero, List.set_cons_succ]
      refine wpAnyH_take (i := 3) (v := ?_) rfl (by kernel_rfl) (by kernel_rfl) (by kernel_rfl) (fun _ _ _ h => h) (Or.inl ⟨by rfl, ?_⟩) hHeld ?_
      rotate_left 1
      · (intro w hSw; obtain ⟨q0, q1, q2, q3, q4, q5, q6, q7, q8, -⟩ := hSw; go_simp; try with_reducible rfl)
      try simp only [Act.put, List.getElem_toArray, List.getElem_cons_zero, List.getElem_cons_succ, List.setIfInBounds_toArray, List.set_cons_zero, List.set_cons_succ]
      refine wpAnyH_take (i := 4) (v := ?_) rfl (by kernel_rfl) (by kernel_rfl) (by kernel_rfl) (fun _ _ _ h => h) (Or.inl ⟨by rfl, ?_⟩) hHeld ?_
      rotate_left 1
      · (intro w hSw; obtain ⟨q0, q1, q2, q3, q4, q5, q6, q7, q8, -⟩ := hSw; go_simp; try with_reducible rfl)
      try simp only [Act.put, List.getElem_toArray, List.getElem_cons_zero, List.getElem_cons_succ, List.setIfInBounds_toArray, List.set_cons_zero, List.set_cons_succ]
      refine wpAnyH_take (i := 5) (v := ?_) rfl (by kernel_rfl) (by kernel_rfl) (by kernel_rfl) (fun _ _ _ h => h) (Or.inl ⟨by rfl, ?_⟩) hHeld ?_
      rotate_left 1
      · (intro w hSw; obtain ⟨q0, q1, q2, q3, q4, q5, q6, q7, q8, -⟩ := hSw; go_simp; try with_reducible rfl)
      try simp only [Act.put, List.getElem_toArray, List.getElem_cons_zero, List.getElem_cons_succ, List.setIfInBounds_toArray, List.set_cons_zero, List.set_cons_succ]
      refine wpAnyH_take (i := 6) (v := ?_) rfl (by kernel_rfl) (by kernel_rfl) (by kernel_rfl) (fun _ _ _ h => h) (Or.inl ⟨by rfl, ?_⟩) hHeld ?_
      rotate_left 1
      · (intro w hSw; obtain ⟨q0, q1, q2, q3, q4, q5, q6, q7, q8, -⟩ := hSw; go_simp; try with_reducible rfl)
      try simp only [Act.put, List.getElem_toArray, List.getElem_cons_zero, List.getElem_cons_succ, List.setIfInBounds_toArray, List.set_cons_zero, List.set_cons_succ]
      refine wpAnyH_take (i := 7) (v := ?_) rfl (by kernel_rfl) (by kernel_rfl) (by kernel_rfl) (fun _ _ _ h => h) (Or.inl ⟨by rfl, ?_⟩) hHeld ?_
      rotate_left 1
      · (intro w hSw; obtain ⟨q0, q1, q2, q3, q4, q5, q6, q7, q8, -⟩ := hSw; go_simp; try with_reducible rfl)
      try simp only [Act.put, List.getElem_toArray, List.getElem_cons_zero, List.getElem_cons_succ, List.setIfInBounds_toArray, List.set_cons_zero, List.set_cons_succ]
      refine wpAnyH_take (i := 8) (v := ?_) rfl (by kernel_rfl) (by kernel_rfl) (by kernel_rfl) (fun _ _ _ h => h) (Or.inl ⟨by rfl, ?_⟩) hHeld ?_
      rotate_left 1
      · (intro w hSw; obtain ⟨q0, q1, q2, q3, q4, q5, q6, q7, q8, -⟩ := hSw; go_simp; try with_reducible rfl)
      try simp only [Act.put, List.getElem_toArray, List.getElem_cons_zero, List.getElem_cons_succ, List.setIfInBounds_toArray, List.set_cons_zero, List.set_cons_succ]
      refine wpAnyH_take (i := 9) (v := ?_) rfl (by kernel_rfl) (by kernel_rfl) (by kernel_rfl) (fun _ _ _ h => h) (Or.inl ⟨by rfl, ?_⟩) hHeld ?_
      rotate_left 1
      · (intro w hSw; obtain ⟨q0, q1, q2, q3, q4, q5, q6, q7, q8, -⟩ := hSw; go_simp; try with_reducible rfl)
      try simp only [Act.put, List.getElem_toArray, List.getElem_cons_zero, List.getElem_cons_succ, List.setIfInBounds_toArray, List.set_cons_zero, List.set_cons_succ]
      refine wpAnyH_ready (rs := [10]) (by kernel_rfl) (by simp) (AllReadyH.cons rfl (fun K hK => ?_) AllReadyH.nil)
      clear hHeld
      (try refine (if_pos rfl).mpr ?_)
      go_simp
      refine (K1.out _ ((G.refl _).drew)).mono ?_
      rintro e w5 ⟨rfl, g5'⟩
      have g5 : G wr w5 := ((G.refl _).drew).trans g5'
      clear g5' K1
      go_wp2_with fail
      refine hK.out _ _ (HS.out w5 g5) (fun hHeld => ?_)
      clear hK K
      try simp only [Act.put, List.getElem_toArray, List.getElem_cons_zero, List.getElem_cons_succ, List.setIfInBounds_toArray, List.set_cons_zero, List.set_cons_succ]
      refine wpAnyH_take (i := 11) (v := ?_) rfl (by kernel_rfl) (by kernel_rfl) (by kernel_rfl) (fun _ _ _ h => h) (Or.inl ⟨by rfl, ?_⟩) hHeld ?_
      rotate_left 1
      · (intro w hSw; (try dsimp only at hSw); go_simp; try with_reducible rfl)
      try simp only [Act.put, List.getElem_toArray, List.getElem_cons_zero, List.getElem_cons_succ, List.setIfInBounds_toArray, List.set_cons_zero, List.set_cons_succ]
      refine wpAnyH_take (i := 12) (v := ?_) rfl (by kernel_rfl) (by kernel_rfl) (by kernel_rfl) (fun _ _ _ h => h) (Or.inl ⟨by rfl, ?_⟩) hHeld ?_
      rotate_left 1
      · (intro w hSw; (try dsimp only at hSw); go_simp; try with_reducible rfl)
      try simp only [Act.put, List.getElem_toArray, List.getElem_cons_zero, List.getElem_cons_succ, List.setIfInBounds_toArray, List.set_cons_zero, List.set_cons_succ]
      refine wpAnyH_take (i := 13) (v := ?_) rfl (by kernel_rfl) (by kernel_rfl) (by kernel_rfl) (fun _ _ _ h => h) (Or.inl ⟨by rfl, ?_⟩) hHeld ?_
      rotate_left 1
      · (intro w hSw; obtain ⟨q0, q1, q2, q3, q4, q5, q6, q7, q8, -⟩ := hSw; go_simp; try with_reducible rfl)
      try simp only [Act.put, List.getElem_toArray, List.getElem_cons_zero, List.getElem_cons_succ, List.setIfInBounds_toArray, List.set_cons_zero, List.set_cons_succ]
      refine wpAnyH_take (i := 14) (v := ?_) rfl (by kernel_rfl) (by kernel_rfl) (by kernel_rfl) (fun _ _ _ h => h) (Or.inl ⟨by rfl, ?_⟩) hHeld ?_
      rotate_left 1
      · (intro w hSw; obtain ⟨q0, q1, q2, q3, q4, q5, q6, q7, q8, -⟩ := hSw; go_simp; try with_reducible rfl)
      try simp only [Act.put, List.getElem_toArray, List.getElem_cons_zero, List.getElem_cons_succ, List.setIfInBounds_toArray, List.set_cons_zero, List.set_cons_succ]
      refine wpAnyH_take (i := 15) (v := ?_) rfl (by kernel_rfl) (by kernel_rfl) (by kernel_rfl) (fun _ _ _ h => h) (Or.inl ⟨by rfl, ?_⟩) hHeld ?_
      rotate_left 1
      · (intro w hSw; obtain ⟨q0, q1, q2, q3, q4, q5, q6, q7, q8, -⟩ := hSw; go_simp; try with_reducible rfl)
      try simp only [Act.put, List.getElem_toArray, List.getElem_cons_zero, List.getElem_cons_succ, List.setIfInBounds_toArray, List.set_cons_zero, List.set_cons_succ]
      refine wpAnyH_take (i := 16) (v := ?_) rfl (by kernel_rfl) (by kernel_rfl) (by kernel_rfl) (fun _ _ _ h => h) (Or.inl ⟨by rfl, ?_⟩) hHeld ?_
      rotate_left 1
      · (intro w hSw; obtain ⟨q0, q1, q2, q3, q4, q5, q6, q7, q8, -⟩ := hSw; go_simp; try with_reducible rfl)
      try simp only [Act.put, List.getElem_toArray, List.getElem_cons_zero, List.getElem_cons_succ, List.setIfInBounds_toArray, List.set_cons_zero, List.set_cons_succ]
      refine wpAnyH_take (i := 17) (v := ?_) rfl (by kernel_rfl) (by kernel_rfl) (by kernel_rfl) (fun _ _ _ h => h) (Or.inl ⟨by rfl, ?_⟩) hHeld ?_
      rotate_left 1
      · (intro w hSw; obtain ⟨q0, q1, q2, q3, q4, q5, q6, q7, q8, -⟩ := hSw; go_simp; try with_reducible rfl)
      try simp only [Act.put, List.getElem_toArray, List.getElem_cons_zero, List.getElem_cons_succ, List.setIfInBounds_toArray, List.set_cons_zero, List.set_cons_succ]
      refine wpAnyH_take (i := 18) (v := ?_) rfl (by kernel_rfl) (by kernel_rfl) (by kernel_rfl) (fun _ _ _ h => h) (Or.inl ⟨by rfl, ?_⟩) hHeld ?_
      rotate_left 1
      · (intro w hSw; obtain ⟨q0, q1, q2, q3, q4, q5, q6, q7, q8, -⟩ := hSw; go_simp; try with_reducible rfl)
      try simp only [Act.put, List.getElem_toArray, List.getElem_cons_zero, List.getElem_cons_succ, List.setIfInBounds_toArray, List.set_cons_zero, List.set_cons_succ]
      refine wpAnyH_take (i := 19) (v := ?_) rfl (by kernel_rfl) (by kernel_rfl) (by kernel_rfl) (fun _ _ _ h => h) (Or.inl ⟨by rfl, ?_⟩) hHeld ?_
      rotate_left 1
      · (intro w hSw; obtain ⟨q0, q1, q2, q3, q4, q5, q6, q7, q8, -⟩ := hSw; go_simp; try with_reducible rfl)
      try simp only [Act.put, List.getElem_toArray, List.getElem_cons_zero, List.getElem_cons_succ, List.setIfInBounds_toArray, List.set_cons_zero, List.set_cons_succ]
      refine wpAnyH_take (i := 20) (v := ?_) rfl (by kernel_rfl) (by kernel_rfl) (by kernel_rfl) (fun _ _ _ h => h) (Or.inl ⟨by rfl, ?_⟩) hHeld ?_
      rotate_left 1
      · (intro w hSw; obtain ⟨q0, q1, q2, q3, q4, q5, q6, q7, q8, -⟩ := hSw; go_simp; try with_reducible rfl)
      try simp only [Act.put, List.getElem_toArray, List.getElem_cons_zero, List.getElem_cons_succ, List.setIfInBounds_toArray, List.set_cons_zero, List.set_cons_succ]
      refine wpAnyH_take (i := 21) (v := ?_) rfl (by kernel_rfl) (by kernel_rfl) (by kernel_rfl) (fun _ _ _ h => h) (Or.inl ⟨by rfl, ?_⟩) hHeld ?_
      rotate_left 1
      · (intro w hSw; obtain ⟨q0, q1, q2, q3, q4, q5, q6, q7, q8, -⟩ := hSw; go_simp; try with_reducible rfl)
      try simp only [Act.put, List.getElem_toArray, List.getElem_cons_zero, List.getElem_cons_succ, List.setIfInBounds_toArray, List.set_cons_zero, List.set_cons_succ]
      refine wpAnyH_take (i := 22) (v := ?_) rfl (by kernel_rfl) (by kernel_rfl) (by kernel_rfl) (fun _ _ _ h => h) (Or.inl ⟨by rfl, ?_⟩) hHeld ?_
      rotate_left 1
      · (intro w hSw; obtain ⟨q0, q1, q2, q3, q4, q5, q6, q7, q8, -⟩ := hSw; go_simp; try with_reducible rfl)
      try simp only [Act.put, List.getElem_toArray, List.getElem_cons_zero, List.getElem_cons_succ, List.setIfInBounds_toArray, List.set_cons_zero, List.set_cons_succ]
      refine wpAnyH_ready (rs := [23]) (by kernel_rfl) (by simp) (AllReadyH.cons rfl (fun K hK => ?_) AllReadyH.nil)
      clear hHeld
      (try refine (if_pos rfl).mpr ?_)
      go_simp
      refine (K2.out _ g5).mono ?_
      rintro e w6 ⟨rfl, g6'⟩
      have g6 : G wr w6 := g5.trans g6'
      clear g6' K2
      go_wp2_with fail
      refine hK.out _ _ (HS.out w6 g6) (fun hHeld => ?_)
      clear hK K
      try simp only [Act.put, List.getElem_toArray, List.getElem_cons_zero, List.getElem_cons_succ, List.setIfInBounds_toArray, List.set_cons_zero, List.set_cons_succ]
      refine wpAnyH_take (i := 24) (v := ?_) rfl (by kernel_rfl) (by kernel_rfl) (by kernel_rfl) (fun _ _ _ h => h) (Or.inl ⟨by rfl, ?_⟩) hHeld ?_
      rotate_left 1
      · (intro w hSw; (try dsimp only at hSw); go_simp; try with_reducible rfl)
      try simp only [Act.put, List.getElem_toArray, List.getElem_cons_zero, List.getElem_cons_succ, List.setIfInBounds_toArray, List.set_cons_zero, List.set_cons_succ]
      refine wpAnyH_take (i := 25) (v := ?_) rfl (by kernel_rfl) (by kernel_rfl) (by kernel_rfl) (fun _ _ _ h => h) (Or.inl ⟨by rfl, ?_⟩) hHeld ?_
      rotate_left 1
      · (intro w hSw; (try dsimp only at hSw); go_simp; try with_reducible rfl)
      try simp only [Act.put, List.getElem_toArray, List.getElem_cons_zero, List.getElem_cons_succ, List.setIfInBounds_toArray, List.set_cons_zero, List.set_cons_succ]
      refine wpAnyH_done (by kernel_rfl) ?_ _
      refine NoPanic.normal ?_
      have HG6 := hide (HG.out.trans g6)
      clear g5 g6
      go_wp2_with fail
      exact ⟨⟨i + 1, by rw [HW.out]; exact srl i, HIL.out, HG6.out⟩, by rw [HW.out]; exact sms HIL.out⟩
    · have i1 : ¬ (i : Int) < (kn : Int) := by omega
      have HG := hide hg
      clear hik hil hg hl hsm kb1 kb2
      go_wp2_with fail
      clear i1
      go_loopw [10] (fun iv wr => ∃ i : Nat, iv = I i ∧ i ≤ es.length ∧ G w2 wr) (fun iv _ => es.length - (RowKit.intOf iv).toNat)
      case atStart => exact ⟨0, rfl, Nat.zero_le _, HG.out⟩
      case round =>
        clear HG
        rename_i wr hout
        obtain ⟨i, rfl, hik, hg⟩ := hrel
        have hl := HL.out
        have hsm := HSM.out
        have kb1 := (HB.out.1.G hg).cell
        have kb2 := (HB.out.2.G hg).cell
        by_cases hil : i < es.length
        · obtain ⟨x, hx⟩ : ∃ x, es[i]? = some x := ⟨_, List.getElem?_eq_getElem hil⟩
          have hxp := hsm.q x (List.mem_of_getElem? hx)
          obtain ⟨g9, cs, hga, hcap, ⟨v, hcs, hv⟩, -, hcell, -⟩ := (HR.out.2.1.G hg).at (i := i) (x := x) (by rw [List.getElem?_append_left hil]; exact hx)
          injection hga with hga
          injection hga with hga
          subst hga
          rw [hcs] at hcell
          obtain ⟨va, vc, hvf⟩ := hv.form
          obtain ⟨pn9, hpn9⟩ : ∃ pn9, pn9 = x.ps.length := ⟨_, rfl⟩
          rw [← hpn9] at hvf
          subst hvf
          obtain ⟨g2, o2, cp2, q'⟩ := HR.out.2.2.2.2.addr (by omega)
          injection q' with q1' q2' q3'
          subst q1' q3'
          obtain ⟨cs2, ⟨vp, hcs2, hvp⟩, hr2⟩ := HR.out.2.2.2.2.at hx
          subst hcs2
          obtain ⟨pa, pc, hvf⟩ := hvp.form
          rw [← hpn9] at hvf
          subst hvf
          obtain ⟨qi, hqi⟩ : ∃ qi, qi = kn + i := ⟨_, rfl⟩
          obtain ⟨gr, cs3, rfl, hcap3, ⟨v3, hcs3, hv3⟩, -, hcell3, -⟩ := (HR.out.2.2.1.G hg).at (i := qi) (x := rooms x.ps) (by rw [List.getElem?_append_right (by simp; omega), List.length_map, show qi - ns.length = i by omega, List.getElem?_map, hx]; rfl)
          rw [hcs3] at hcell3
          obtain ⟨ta, tc, hvf⟩ := hv3.form
          obtain ⟨tn, htn⟩ : ∃ tn, tn = (rooms x.ps).length := ⟨_, rfl⟩
          rw [← htn] at hvf
          subst hvf
          have z1 : wr.cell? ⟨gr, qi, none⟩ = some (.slice ta tn tc) := by have := hcell3 0 (by decide); simpa using this
          have hrn := HRN.out
          have i1 : (i : Int) < (ke : Int) := by omega
          have i2 : (i : Int) < (en : Int) := by omega
          have i3 : (qi : Int) < (rn : Int) := by omega
          have hw1 : IntKind.i64.wrap ((kn : Int) + (i : Int)) = (qi : Int) := by rw [Go.PlainAid.i64_is]; unfold wrap64; omega
          have HW : Hid (wrap64 ((i : Int) + 1) = (i : Int) + 1) := by show _ = _; unfold wrap64; omega
          have HS : Hid (∀ V, G wr V → V.cell? ⟨ge, i * 5, none⟩ = some (I x.id) ∧ V.cell? ⟨ge, i * 5 + 1, none⟩ = some (.string x.ty) ∧ V.cell? ⟨ge, i * 5 + 2, none⟩ = some (I x.fr) ∧ V.cell? ⟨ge, i * 5 + 3, none⟩ = some (I x.to) ∧ V.cell? ⟨ge, i * 5 + 4, none⟩ = some (.slice va pn9 vc) ∧ V.cell? ⟨g2, o2 + i * 5, none⟩ = some (I x.id) ∧ V.cell? ⟨g2, o2 + i * 5 + 1, none⟩ = some (.string x.ty) ∧ V.cell? ⟨g2, o2 + i * 5 + 2, none⟩ = some (I x.fr) ∧ V.cell? ⟨g2, o2 + i * 5 + 3, none⟩ = some (I x.to) ∧ V.cell? ⟨g2, o2 + i * 5 + 4, none⟩ = some (.slice pa pn9 pc) ∧ V.cell? ⟨gr, qi, none⟩ = some (.slice ta tn tc) ∧ (∀ o, V.cell? ⟨B1, o, none⟩ = ([.slice (some ⟨ga, 0, none⟩) nn nc, .slice (some ⟨ge, 0, none⟩) en ec] : List Value)[o]?) ∧ (∀ o, V.cell? ⟨B2, o, none⟩ = ([.slice pn kn pcn, .slice (some ⟨g2, o2, none⟩) ke pce] : List Value)[o]?) ∧ G wr V) := fun V h => ⟨cell_G (hcell 0 (by decide)) h, cell_G (hcell 1 (by decide)) h, cell_G (hcell 2 (by decide)) h, cell_G (hcell 3 (by decide)) h, cell_G (hcell 4 (by decide)) h, cell_G (rangeAt_G hr2 hg 0 _ rfl) h, cell_G (rangeAt_G hr2 hg 1 _ rfl) h, cell_G (rangeAt_G hr2 hg 2 _ rfl) h, cell_G (rangeAt_G hr2 hg 3 _ rfl) h, cell_G (rangeAt_G hr2 hg 4 _ rfl) h, cell_G z1 h, ((HB.out.1.G hg).G h).cell, ((HB.out.2.G hg).G h).cell, h⟩
          have K1 : Hid (∀ V, G wr V → Calls Tryz.prog 36 #[.agg #[I x.id, .string x.ty, I x.fr, I x.to, .slice va pn9 vc], .agg #[I x.id, .string x.ty, I x.fr, I x.to, .slice pa pn9 pc]] V fun e W' => e = .returned (.bool true) ∧ G V W') := fun V hV => sedge_any x _ _ V (hv.G hV).toRow ((hvp.G hg).G hV) (by omega)
          have K2 : Hid (∀ V, G wr V → Calls Tryz.prog 35 #[.slice ta tn tc, .slice pa pn9 pc] V fun e W' => e = .returned (.bool true) ∧ G V W') := fun V hV => sstays_any x.ps _ _ V (hv3.G hV) ((hvp.G hg).G hV) hxp
          have HIL := hide hil; have HG := hide hg
          clear hik hil hx q2' hg hv hvp hr2 hpn9 hcap hcs hcell hxp hcap3 hcs3 hcell3 hv3 htn z1 hl hsm hrn hqi
          go_wp2_with fail
          clear kb1 kb2
          refine wp_region_noPanic ?_
          refine wp_region_held_drew (S := (fun V => V.cell? ⟨ge, i * 5, none⟩ = some (I x.id) ∧ V.cell? ⟨ge, i * 5 + 1, none⟩ = some (.string x.ty) ∧ V.cell? ⟨ge, i * 5 + 2, none⟩ = some (I x.fr) ∧ V.cell? ⟨ge, i * 5 + 3, none⟩ = some (I x.to) ∧ V.cell? ⟨ge, i * 5 + 4, none⟩ = some (.slice va pn9 vc) ∧ V.cell? ⟨g2, o2 + i * 5, none⟩ = some (I x.id) ∧ V.cell? ⟨g2, o2 + i * 5 + 1, none⟩ = some (.string x.ty) ∧ V.cell? ⟨g2, o2 + i * 5 + 2, none⟩ = some (I x.fr) ∧ V.cell? ⟨g2, o2 + i * 5 + 3, none⟩ = some (I x.to) ∧ V.cell? ⟨g2, o2 + i * 5 + 4, none⟩ = some (.slice pa pn9 pc) ∧ V.cell? ⟨gr, qi, none⟩ = some (.slice ta tn tc) ∧ (∀ o, V.cell? ⟨B1, o, none⟩ = ([.slice (some ⟨ga, 0, none⟩) nn nc, .slice (some ⟨ge, 0, none⟩) en ec] : List Value)[o]?) ∧ (∀ o, V.cell? ⟨B2, o, none⟩ = ([.slice pn kn pcn, .slice (some ⟨g2, o2, none⟩) ke pce] : List Value)[o]?) ∧ G wr V)) (by kernel_rfl) (HS.out _ ((G.refl _).drew)) (fun hHeld => ?_)
          refine wpAnyH_take (i := 0) (v := ?_) rfl (by kernel_rfl) (by kernel_rfl) (by kernel_rfl) (fun _ _ _ h => h) (Or.inl ⟨by rfl, ?_⟩) hHeld ?_
          rotate_left 1
          · (intro w hSw; obtain ⟨q0, q1, q2, q3, q4, q5, q6, q7, q8, q9, q10, q11, q12, -⟩ := hSw; go_simp; try with_reducible rfl)
          try simp only [Act.put, List.getElem_toArray, List.getElem_cons_zero, List.setIfInBounds_toArray, List.set_cons_zero, List.set_cons_succ]
          refine wpAnyH_take (i := 1) (v := ?_) rfl (by kernel_rfl) (by kernel_rfl) (by kernel_rfl) (fun _ _ _ h => h) (Or.inl ⟨by rfl, ?_⟩) hHeld ?_
          rotate_left 1
          · (intro w hSw; obtain ⟨q0, q1, q2, q3, q4, q5, q6, q7, q8, q9, q10, q11, q12, -⟩ := hSw; go_simp; try with_reducible rfl)
          try simp only [Act.put, List.getElem_toArray, List.getElem_cons_zero, List.getElem_cons_succ, List.setIfInBounds_toArray, List.set_cons_zero, List.set_cons_succ]
          refine wpAnyH_take (i := 2) (v := ?_) rfl (by kernel_rfl) (by kernel_rfl) (by kernel_rfl) (fun _ _ _ h => h) (Or.inl ⟨by rfl, ?_⟩) hHeld ?_
          rotate_left 1
          · (intro w hSw; obtain ⟨q0, q1, q2, q3, q4, q5, q6, q7, q8, q9, q10, q11, q12, -⟩ := hSw; go_simp; try with_reducible rfl)
          try simp only [Act.put, List.getElem_toArray, List.getElem_cons_zero, List.getElem_cons_succ, List.setIfInBounds_toArray, List.set_cons_zero, List.set_cons_succ]
          refine wpAnyH_take (i := 3) (v := ?_) rfl (by kernel_rfl) (by kernel_rfl) (by kernel_rfl) (fun _ _ _ h => h) (Or.inl ⟨by rfl, ?_⟩) hHeld ?_
          rotate_left 1
          · (intro w hSw; obtain ⟨q0, q1, q2, q3, q4, q5, q6, q7, q8, q9, q10, q11, q12, -⟩ := hSw; go_simp; try with_reducible rfl)
          try simp only [Act.put, List.getElem_toArray, List.getElem_cons_zero, List.getElem_cons_succ, List.setIfInBounds_toArray, List.set_cons_zero, List.set_cons_succ]
          refine wpAnyH_take (i := 4) (v := ?_) rfl (by kernel_rfl) (by kernel_rfl) (by kernel_rfl) (fun _ _ _ h => h) (Or.inl ⟨by rfl, ?_⟩) hHeld ?_
          rotate_left 1
          · (intro w hSw; obtain ⟨q0, q1, q2, q3, q4, q5, q6, q7, q8, q9, q10, q11, q12, -⟩ := hSw; go_simp; try with_reducible rfl)
          try simp only [Act.put, List.getElem_toArray, List.getElem_cons_zero, List.getElem_cons_succ, List.setIfInBounds_toArray, List.set_cons_zero, List.set_cons_succ]
          refine wpAnyH_take (i := 5) (v := ?_) rfl (by kernel_rfl) (by kernel_rfl) (by kernel_rfl) (fun _ _ _ h => h) (Or.inl ⟨by rfl, ?_⟩) hHeld ?_
          rotate_left 1
          · (intro w hSw; obtain ⟨q0, q1, q2, q3, q4, q5, q6, q7, q8, q9, q10, q11, q12, -⟩ := hSw; go_simp; try with_reducible rfl)
          try simp only [Act.put, List.getElem_toArray, List.getElem_cons_zero, List.getElem_cons_succ, List.setIfInBounds_toArray, List.set_cons_zero, List.set_cons_succ]
          refine wpAnyH_take (i := 6) (v := ?_) rfl (by kernel_rfl) (by kernel_rfl) (by kernel_rfl) (fun _ _ _ h => h) (Or.inl ⟨by rfl, ?_⟩) hHeld ?_
          rotate_left 1
          · (intro w hSw; obtain ⟨q0, q1, q2, q3, q4, q5, q6, q7, q8, q9, q10, q11, q12, -⟩ := hSw; go_simp; try with_reducible rfl)
          try simp only [Act.put, List.getElem_toArray, List.getElem_cons_zero, List.getElem_cons_succ, List.setIfInBounds_toArray, List.set_cons_zero, List.set_cons_succ]
          refine wpAnyH_take (i := 7) (v := ?_) rfl (by kernel_rfl) (by kernel_rfl) (by kernel_rfl) (fun _ _ _ h => h) (Or.inl ⟨by rfl, ?_⟩) hHeld ?_
          rotate_left 1
          · (intro w hSw; obtain ⟨q0, q1, q2, q3, q4, q5, q6, q7, q8, q9, q10, q11, q12, -⟩ := hSw; go_simp; try with_reducible rfl)
          try simp only [Act.put, List.getElem_toArray, List.getElem_cons_zero, List.getElem_cons_succ, List.setIfInBounds_toArray, List.set_cons_zero, List.set_cons_succ]
          refine wpAnyH_take (i := 8) (v := ?_) rfl (by kernel_rfl) (by kernel_rfl) (by kernel_rfl) (fun _ _ _ h => h) (Or.inl ⟨by rfl, ?_⟩) hHeld ?_
          rotate_left 1
          · (intro w hSw; obtain ⟨q0, q1, q2, q3, q4, q5, q6, q7, q8, q9, q10, q11, q12, -⟩ := hSw; go_simp; try with_reducible rfl)
          try simp only [Act.put, List.getElem_toArray, List.getElem_cons_zero, List.getElem_cons_succ, List.setIfInBounds_toArray, List.set_cons_zero, List.set_cons_succ]
          refine wpAnyH_take (i := 9) (v := ?_) rfl (by kernel_rfl) (by kernel_rfl) (by kernel_rfl) (fun _ _ _ h => h) (Or.inl ⟨by rfl, ?_⟩) hHeld ?_
          rotate_left 1
          · (intro w hSw; obtain ⟨q0, q1, q2, q3, q4, q5, q6, q7, q8, q9, q10, q11, q12, -⟩ := hSw; go_simp; try with_reducible rfl)
          try simp only [Act.put, List.getElem_toArray, List.getElem_cons_zero, List.getElem_cons_succ, List.setIfInBounds_toArray, List.set_cons_zero, List.set_cons_succ]
          refine wpAnyH_ready (rs := [10]) (by kernel_rfl) (by simp) (AllReadyH.cons rfl (fun K hK => ?_) AllReadyH.nil)
          clear hHeld
          (try refine (if_pos rfl).mpr ?_)
          go_simp
          refine (K1.out _ ((G.refl _).drew)).mono ?_
          rintro e w5 ⟨rfl, g5'⟩
          have g5 : G wr w5 := ((G.refl _).drew).trans g5'
          clear g5' K1
          go_wp2_with fail
          refine hK.out _ _ (HS.out w5 g5) (fun hHeld => ?_)
          clear hK K
          try simp only [Act.put, List.getElem_toArray, List.getElem_cons_zero, List.getElem_cons_succ, List.setIfInBounds_toArray, List.set_cons_zero, List.set_cons_succ]
          refine wpAnyH_take (i := 11) (v := ?_) rfl (by kernel_rfl) (by kernel_rfl) (by kernel_rfl) (fun _ _ _ h => h) (Or.inl ⟨by rfl, ?_⟩) hHeld ?_
          rotate_left 1
          · (intro w hSw; (try dsimp only at hSw); go_simp; try with_reducible rfl)
          try simp only [Act.put, List.getElem_toArray, List.getElem_cons_zero, List.getElem_cons_succ, List.setIfInBounds_toArray, List.set_cons_zero, List.set_cons_succ]
          refine wpAnyH_take (i := 12) (v := ?_) rfl (by kernel_rfl) (by kernel_rfl) (by kernel_rfl) (fun _ _ _ h => h) (Or.inl ⟨by rfl, ?_⟩) hHeld ?_
          rotate_left 1
          · (intro w hSw; (try dsimp only at hSw); go_simp; try with_reducible rfl)
          try simp only [Act.put, List.getElem_toArray, List.getElem_cons_zero, List.getElem_cons_succ, List.setIfInBounds_toArray, List.set_cons_zero, List.set_cons_succ]
          refine wpAnyH_take (i := 13) (v := ?_) rfl (by kernel_rfl) (by kernel_rfl) (by kernel_rfl) (fun _ _ _ h => h) (Or.inl ⟨by rfl, ?_⟩) hHeld ?_
          rotate_left 1
          · (intro w hSw; obtain ⟨q0, q1, q2, q3, q4, q5, q6, q7, q8, q9, q10, q11, q12, -⟩ := hSw; go_simp; try with_reducible rfl)
          try simp only [Act.put, List.getElem_toArray, List.getElem_cons_zero, List.getElem_cons_succ, List.setIfInBounds_toArray, List.set_cons_zero, List.set_cons_succ]
          refine wpAnyH_take (i := 14) (v := ?_) rfl (by kernel_rfl) (by kernel_rfl) (by kernel_rfl) (fun _ _ _ h => h) (Or.inl ⟨by rfl, ?_⟩) hHeld ?_
          rotate_left 1
          · (intro w hSw; obtain ⟨q0, q1, q2, q3, q4, q5, q6, q7, q8, q9, q10, q11, q12, -⟩ := hSw; go_simp; try with_reducible rfl)
          try simp only [Act.put, List.getElem_toArray, List.getElem_cons_zero, List.getElem_cons_succ, List.setIfInBounds_toArray, List.set_cons_zero, List.set_cons_succ]
          refine wpAnyH_take (i := 15) (v := ?_) rfl (by kernel_rfl) (by kernel_rfl) (by kernel_rfl) (fun _ _ _ h => h) (Or.inl ⟨by rfl, ?_⟩) hHeld ?_
          rotate_left 1
          · (intro w hSw; obtain ⟨q0, q1, q2, q3, q4, q5, q6, q7, q8, q9, q10, q11, q12, -⟩ := hSw; go_simp; try with_reducible rfl)
          try simp only [Act.put, List.getElem_toArray, List.getElem_cons_zero, List.getElem_cons_succ, List.setIfInBounds_toArray, List.set_cons_zero, List.set_cons_succ]
          refine wpAnyH_take (i := 16) (v := ?_) rfl (by kernel_rfl) (by kernel_rfl) (by kernel_rfl) (fun _ _ _ h => h) (Or.inl ⟨by rfl, ?_⟩) hHeld ?_
          rotate_left 1
          · (intro w hSw; obtain ⟨q0, q1, q2, q3, q4, q5, q6, q7, q8, q9, q10, q11, q12, -⟩ := hSw; go_simp; try with_reducible rfl)
          try simp only [Act.put, List.getElem_toArray, List.getElem_cons_zero, List.getElem_cons_succ, List.setIfInBounds_toArray, List.set_cons_zero, List.set_cons_succ]
          refine wpAnyH_take (i := 17) (v := ?_) rfl (by kernel_rfl) (by kernel_rfl) (by kernel_rfl) (fun _ _ _ h => h) (Or.inl ⟨by rfl, ?_⟩) hHeld ?_
          rotate_left 1
          · (intro w hSw; obtain ⟨q0, q1, q2, q3, q4, q5, q6, q7, q8, q9, q10, q11, q12, -⟩ := hSw; go_simp; try with_reducible rfl)
          try simp only [Act.put, List.getElem_toArray, List.getElem_cons_zero, List.getElem_cons_succ, List.setIfInBounds_toArray, List.set_cons_zero, List.set_cons_succ]
          refine wpAnyH_take (i := 18) (v := ?_) rfl (by kernel_rfl) (by kernel_rfl) (by kernel_rfl) (fun _ _ _ h => h) (Or.inl ⟨by rfl, ?_⟩) hHeld ?_
          rotate_left 1
          · (intro w hSw; obtain ⟨q0, q1, q2, q3, q4, q5, q6, q7, q8, q9, q10, q11, q12, -⟩ := hSw; go_simp; try with_reducible rfl)
          try simp only [Act.put, List.getElem_toArray, List.getElem_cons_zero, List.getElem_cons_succ, List.setIfInBounds_toArray, List.set_cons_zero, List.set_cons_succ]
          refine wpAnyH_take (i := 19) (v := ?_) rfl (by kernel_rfl) (by kernel_rfl) (by kernel_rfl) (fun _ _ _ h => h) (Or.inl ⟨by rfl, ?_⟩) hHeld ?_
          rotate_left 1
          · (intro w hSw; obtain ⟨q0, q1, q2, q3, q4, q5, q6, q7, q8, q9, q10, q11, q12, -⟩ := hSw; go_simp; try with_reducible rfl)
          try simp only [Act.put, List.getElem_toArray, List.getElem_cons_zero, List.getElem_cons_succ, List.setIfInBounds_toArray, List.set_cons_zero, List.set_cons_succ]
          refine wpAnyH_take (i := 20) (v := ?_) rfl (by kernel_rfl) (by kernel_rfl) (by kernel_rfl) (fun _ _ _ h => h) (Or.inl ⟨by rfl, ?_⟩) hHeld ?_
          rotate_left 1
          · (intro w hSw; obtain ⟨q0, q1, q2, q3, q4, q5, q6, q7, q8, q9, q10, q11, q12, -⟩ := hSw; go_simp; try with_reducible rfl)
          try simp only [Act.put, List.getElem_toArray, List.getElem_cons_zero, List.getElem_cons_succ, List.setIfInBounds_toArray, List.set_cons_zero, List.set_cons_succ]
          refine wpAnyH_take (i := 21) (v := ?_) rfl (by kernel_rfl) (by kernel_rfl) (by kernel_rfl) (fun _ _ _ h => h) (Or.inl ⟨by rfl, ?_⟩) hHeld ?_
          rotate_left 1
          · (intro w hSw; obtain ⟨q0, q1, q2, q3, q4, q5, q6, q7, q8, q9, q10, q11, q12, -⟩ := hSw; go_simp; try with_reducible rfl)
          try simp only [Act.put, List.getElem_toArray, List.getElem_cons_zero, List.getElem_cons_succ, List.setIfInBounds_toArray, List.set_cons_zero, List.set_cons_succ]
          refine wpAnyH_take (i := 22) (v := ?_) rfl (by kernel_rfl) (by kernel_rfl) (by kernel_rfl) (fun _ _ _ h => h) (Or.inl ⟨by rfl, ?_⟩) hHeld ?_
          rotate_left 1
          · (intro w hSw; obtain ⟨q0, q1, q2, q3, q4, q5, q6, q7, q8, q9, q10, q11, q12, -⟩ := hSw; go_simp; try with_reducible rfl)
          try simp only [Act.put, List.getElem_toArray, List.getElem_cons_zero, List.getElem_cons_succ, List.setIfInBounds_toArray, List.set_cons_zero, List.set_cons_succ]
          refine wpAnyH_take (i := 23) (v := ?_) rfl (by kernel_rfl) (by kernel_rfl) (by kernel_rfl) (fun _ _ _ h => h) (Or.inl ⟨by rfl, ?_⟩) hHeld ?_
          rotate_left 1
          · (intro w hSw; obtain ⟨q0, q1, q2, q3, q4, q5, q6, q7, q8, q9, q10, q11, q12, -⟩ := hSw; go_simp; try with_reducible rfl)
          try simp only [Act.put, List.getElem_toArray, List.getElem_cons_zero, List.getElem_cons_succ, List.setIfInBounds_toArray, List.set_cons_zero, List.set_cons_succ]
          refine wpAnyH_take (i := 24) (v := ?_) rfl (by kernel_rfl) (by kernel_rfl) (by kernel_rfl) (fun _ _ _ h => h) (Or.inl ⟨by rfl, ?_⟩) hHeld ?_
          rotate_left 1
          · (intro w hSw; obtain ⟨q0, q1, q2, q3, q4, q5, q6, q7, q8, q9, q10, q11, q12, -⟩ := hSw; go_simp; try with_reducible rfl)
          try simp only [Act.put, List.getElem_toArray, List.getElem_cons_zero, List.getElem_cons_succ, List.setIfInBounds_toArray, List.set_cons_zero, List.set_cons_succ]
          refine wpAnyH_ready (rs := [25]) (by kernel_rfl) (by simp) (AllReadyH.cons rfl (fun K hK => ?_) AllReadyH.nil)
          clear hHeld
          (try refine (if_pos rfl).mpr ?_)
          go_simp
          refine (K2.out _ g5).mono ?_
          rintro e w6 ⟨rfl, g6'⟩
          have g6 : G wr w6 := g5.trans g6'
          clear g6' K2
          go_wp2_with fail
          refine hK.out _ _ (HS.out w6 g6) (fun hHeld => ?_)
          clear hK K
          try simp only [Act.put, List.getElem_toArray, List.getElem_cons_zero, List.getElem_cons_succ, List.setIfInBounds_toArray, List.set_cons_zero, List.set_cons_succ]
          refine wpAnyH_take (i := 26) (v := ?_) rfl (by kernel_rfl) (by kernel_rfl) (by kernel_rfl) (fun _ _ _ h => h) (Or.inl ⟨by rfl, ?_⟩) hHeld ?_
          rotate_left 1
          · (intro w hSw; (try dsimp only at hSw); go_simp; try with_reducible rfl)
          try simp only [Act.put, List.getElem_toArray, List.getElem_cons_zero, List.getElem_cons_succ, List.setIfInBounds_toArray, List.set_cons_zero, List.set_cons_succ]
          refine wpAnyH_take (i := 27) (v := ?_) rfl (by kernel_rfl) (by kernel_rfl) (by kernel_rfl) (fun _ _ _ h => h) (Or.inl ⟨by rfl, ?_⟩) hHeld ?_
          rotate_left 1
          · (intro w hSw; (try dsimp only at hSw); go_simp; try with_reducible rfl)
          try simp only [Act.put, List.getElem_toArray, List.getElem_cons_zero, List.getElem_cons_succ, List.setIfInBounds_toArray, List.set_cons_zero, List.set_cons_succ]
          refine wpAnyH_done (by kernel_rfl) ?_ _
          refine NoPanic.normal ?_
          have HG6 := hide (HG.out.trans g6)
          clear g5 g6
          go_wp2_with fail
          exact ⟨⟨i + 1, by rw [HW.out]; exact srl i, HIL.out, HG6.out⟩, by rw [HW.out]; exact sms HIL.out⟩
        · have i1 : ¬ (i : Int) < (ke : Int) := by omega
          have HG := hide hg
          clear hik hil hg hl hsm kb1 kb2
          go_wp2_with fail
          go_ret
          exact ⟨rfl, HGW.out.trans HG.out⟩
end Go.Proofs.YtifioikdhfhljaaGreatDoor
