/- Graphs: two that are the same. -/
import Derived.Test.YtifioikdhfhljaaGreatDoorSh10
namespace Go.Proofs.YtifioikdhfhljaaGreatDoor
open Go.RowKit

set_option maxRecDepth 100000 in
set_option maxHeartbeats 1000000 in
theorem sprops_any (l : List Pv) (u v : Value) (W : World) (h1 : Row eP.rel W u l) (h2 : Row eP.rel W v l) (hl : l.length ≤ 4611686018427387904) : Calls Tryz.prog 89 #[u, v] W fun e W' => e = .returned (.bool true) ∧ G W W' := by
  obtain ⟨p, cap, rfl⟩ := h1.form
  obtain ⟨p', cap', rfl⟩ := h2.form
  have HA := hide h1; have HB := hide h2; have HL := hide hl
  clear h1 h2 hl
  go_enter Tryz.func89, Tryz.ntmps89
  go_wp2_with fail
  go_loopw [5] (fun iv wr => ∃ i : Nat, iv = I i ∧ i ≤ l.length ∧ G W wr) (fun iv _ => l.length - (RowKit.intOf iv).toNat)
  case atStart => exact ⟨0, rfl, Nat.zero_le _, G.refl _⟩
  case round =>
    obtain ⟨i, rfl, hik, hg⟩ := hrel
    by_cases hil : i < l.length
    · obtain ⟨x, hx⟩ : ∃ x, l[i]? = some x := ⟨_, List.getElem?_eq_getElem hil⟩
      obtain ⟨g, o, cp, q⟩ := HA.out.addr (by omega)
      obtain ⟨g2, o2, cp2, q'⟩ := HB.out.addr (by omega)
      injection q with q1 q2 q3
      injection q' with q1' q2' q3'
      subst q1 q1' q3 q3'
      have x1 : wr.cell? ⟨g, o + i * 5, none⟩ = some (.string x.key) := by have := cell_G (HA.out.one hx 0 (u := .string x.key) rfl) hg; simpa using this
      have y1 : wr.cell? ⟨g2, o2 + i * 5, none⟩ = some (.string x.key) := by have := cell_G (HB.out.one hx 0 (u := .string x.key) rfl) hg; simpa using this
      have x2 : wr.cell? ⟨g, o + i * 5 + 1, none⟩ = some (I x.k) := by have := cell_G (HA.out.one hx 1 (u := I x.k) rfl) hg; simpa using this
      have y2 : wr.cell? ⟨g2, o2 + i * 5 + 1, none⟩ = some (I x.k) := by have := cell_G (HB.out.one hx 1 (u := I x.k) rfl) hg; simpa using this
      have x3 : wr.cell? ⟨g, o + i * 5 + 2, none⟩ = some (I x.a) := by have := cell_G (HA.out.one hx 2 (u := I x.a) rfl) hg; simpa using this
      have y3 : wr.cell? ⟨g2, o2 + i * 5 + 2, none⟩ = some (I x.a) := by have := cell_G (HB.out.one hx 2 (u := I x.a) rfl) hg; simpa using this
      have x4 : wr.cell? ⟨g, o + i * 5 + 3, none⟩ = some (I x.b) := by have := cell_G (HA.out.one hx 3 (u := I x.b) rfl) hg; simpa using this
      have y4 : wr.cell? ⟨g2, o2 + i * 5 + 3, none⟩ = some (I x.b) := by have := cell_G (HB.out.one hx 3 (u := I x.b) rfl) hg; simpa using this
      have x5 : wr.cell? ⟨g, o + i * 5 + 4, none⟩ = some (.string x.s) := by have := cell_G (HA.out.one hx 4 (u := .string x.s) rfl) hg; simpa using this
      have y5 : wr.cell? ⟨g2, o2 + i * 5 + 4, none⟩ = some (.string x.s) := by have := cell_G (HB.out.one hx 4 (u := .string x.s) rfl) hg; simpa using this
      have i1 : (i : Int) < l.length := Int.ofNat_lt.2 hil
      have HW : Hid (wrap64 ((i : Int) + 1) = (i : Int) + 1) := by show _ = _; have := HL.out; unfold wrap64; omega
      have HIL := hide hil; have HG := hide hg
      clear hik hil hx q2 q2' hg
      go_wp2_with fail
      go_quiet (fail)
      generalize hV : World.drewN wr _ = V
      have HGV : Hid (G W V) := by rw [← hV]; exact HG.out.drewN _
      clear hV x1 y1 x2 y2 x3 y3 x4 y4 x5 y5
      go_wp2_with fail
      exact ⟨⟨i + 1, by rw [HW.out]; exact srl i, HIL.out, HGV.out⟩, by rw [HW.out]; exact sms HIL.out⟩
    · have i1 : ¬ ((i : Int) < l.length) := by omega
      have HG := hide hg
      clear hik hil hg
      go_wp2_with fail
      go_ret
      exact ⟨rfl, HG.out⟩
set_option maxRecDepth 100000 in
set_option maxHeartbeats 1000000 in
theorem snode_any (x : Nd) (u v : Value) (W : World) (h1 : Row eP.rel W u x.ps) (h2 : Row eP.rel W v x.ps) (hl : x.ps.length ≤ 4611686018427387904) : Calls Tryz.prog 34 #[.agg #[I x.id, .string x.lb, u], .agg #[I x.id, .string x.lb, v]] W fun e W' => e = .returned (.bool true) ∧ G W W' := by
  obtain ⟨p, cap, hu⟩ := h1.form
  obtain ⟨p', cap', hv⟩ := h2.form
  obtain ⟨n, hn⟩ : ∃ n, n = x.ps.length := ⟨_, rfl⟩
  rw [← hn] at hu hv
  subst hu
  subst hv
  obtain ⟨w2, hw2⟩ : ∃ w2, w2 = (W.alloc (.cells #[I x.id, .string x.lb, .slice p n cap] 69)).alloc (.cells #[I x.id, .string x.lb, .slice p' n cap'] 69) := ⟨_, rfl⟩
  have hg2 : G W w2 := by rw [hw2]; exact ((G.refl W).alloc _).alloc _
  have hB2 : Blk w2 W.heap.size 69 [I x.id, .string x.lb, .slice p n cap] := by rw [hw2]; exact (Blk.new W [I x.id, .string x.lb, .slice p n cap] 69).G ((G.refl _).alloc _)
  have hC2 : Blk w2 (W.heap.size + 1) 69 [I x.id, .string x.lb, .slice p' n cap'] := by
    have := Blk.new (W.alloc (.cells #[I x.id, .string x.lb, .slice p n cap] 69)) [I x.id, .string x.lb, .slice p' n cap'] 69
    rw [hw2]
    simpa using this
  have HEW : Hid ((W.alloc (.cells #[I x.id, .string x.lb, .slice p n cap] 69)).alloc (.cells #[I x.id, .string x.lb, .slice p' n cap'] 69) = w2) := hw2.symm
  have HB := hide (And.intro hB2 hC2)
  have HG2 := hide hg2
  have b2 := hB2.cell
  have c2 := hC2.cell
  have KP := hide (sprops_any x.ps _ _ w2 (h1.G hg2) (h2.G hg2) hl)
  clear h1 h2 hl hw2 hg2 hB2 hC2 hn
  go_enter Tryz.func34, Tryz.ntmps34
  go_wp2_with fail
  rw [HEW.out]
  refine KP.out.mono ?_
  rintro e w3 ⟨rfl, hg3⟩
  have HG := hide (HG2.out.trans hg3)
  clear hg3 KP b2 c2
  go_wp2_with fail
  go_ret
  exact ⟨rfl, HG.out⟩
set_option maxRecDepth 100000 in
set_option maxHeartbeats 1000000 in
theorem sedge_any (x : Ed) (u v : Value) (W : World) (h1 : Row eP.rel W u x.ps) (h2 : Row eP.rel W v x.ps) (hl : x.ps.length ≤ 4611686018427387904) : Calls Tryz.prog 36 #[.agg #[I x.id, .string x.ty, I x.fr, I x.to, u], .agg #[I x.id, .string x.ty, I x.fr, I x.to, v]] W fun e W' => e = .returned (.bool true) ∧ G W W' := by
  obtain ⟨p, cap, hu⟩ := h1.form
  obtain ⟨p', cap', hv⟩ := h2.form
  obtain ⟨n, hn⟩ : ∃ n, n = x.ps.length := ⟨_, rfl⟩
  rw [← hn] at hu hv
  subst hu
  subst hv
  obtain ⟨w2, hw2⟩ : ∃ w2, w2 = (W.alloc (.cells #[I x.id, .string x.ty, I x.fr, I x.to, .slice p n cap] 72)).alloc (.cells #[I x.id, .string x.ty, I x.fr, I x.to, .slice p' n cap'] 72) := ⟨_, rfl⟩
  have hg2 : G W w2 := by rw [hw2]; exact ((G.refl W).alloc _).alloc _
  have hB2 : Blk w2 W.heap.size 72 [I x.id, .string x.ty, I x.fr, I x.to, .slice p n cap] := by rw [hw2]; exact (Blk.new W [I x.id, .string x.ty, I x.fr, I x.to, .slice p n cap] 72).G ((G.refl _).alloc _)
  have hC2 : Blk w2 (W.heap.size + 1) 72 [I x.id, .string x.ty, I x.fr, I x.to, .slice p' n cap'] := by
    have := Blk.new (W.alloc (.cells #[I x.id, .string x.ty, I x.fr, I x.to, .slice p n cap] 72)) [I x.id, .string x.ty, I x.fr, I x.to, .slice p' n cap'] 72
    rw [hw2]
    simpa using this
  have HEW : Hid ((W.alloc (.cells #[I x.id, .string x.ty, I x.fr, I x.to, .slice p n cap] 72)).alloc (.cells #[I x.id, .string x.ty, I x.fr, I x.to, .slice p' n cap'] 72) = w2) := hw2.symm
  have HB := hide (And.intro hB2 hC2)
  have HG2 := hide hg2
  have b2 := hB2.cell
  have c2 := hC2.cell
  have KP := hide (sprops_any x.ps _ _ w2 (h1.G hg2) (h2.G hg2) hl)
  clear h1 h2 hl hw2 hg2 hB2 hC2 hn
  go_enter Tryz.func36, Tryz.ntmps36
  go_wp2_with fail
  rw [HEW.out]
  refine KP.out.mono ?_
  rintro e w3 ⟨rfl, hg3⟩
  have HG := hide (HG2.out.trans hg3)
  clear hg3 KP b2 c2
  go_wp2_with fail
  go_ret
  exact ⟨rfl, HG.out⟩
set_option maxRecDepth 100000 in
set_option maxHeartbeats 1000000 in
theorem snodes_any (l : List Nd) (u v : Value) (W : World) (h1 : Row relN W u l) (h2 : Row relN W v l) (hl : l.length ≤ 4611686018427387904) (hp : ∀ x ∈ l, x.ps.length ≤ 4611686018427387904) : Calls Tryz.prog 41 #[u, v] W fun e W' => e = .returned (.bool true) ∧ G W W' := by
  obtain ⟨p, cap, rfl⟩ := h1.form
  obtain ⟨p', cap', rfl⟩ := h2.form
  have HA := hide h1; have HB := hide h2; have HL := hide hl; have HP := hide hp
  clear h1 h2 hl hp
  go_enter Tryz.func41, Tryz.ntmps41
  go_wp2_with fail
  go_loopw [5] (fun iv wr => ∃ i : Nat, iv = I i ∧ i ≤ l.length ∧ G W wr) (fun iv _ => l.length - (RowKit.intOf iv).toNat)
  case atStart => exact ⟨0, rfl, Nat.zero_le _, G.refl _⟩
  case round =>
    rename_i wr hout
    obtain ⟨i, rfl, hik, hg⟩ := hrel
    by_cases hil : i < l.length
    · obtain ⟨x, hx⟩ : ∃ x, l[i]? = some x := ⟨_, List.getElem?_eq_getElem hil⟩
      obtain ⟨g, o, cp, q⟩ := HA.out.addr (by omega)
      obtain ⟨g2, o2, cp2, q'⟩ := HB.out.addr (by omega)
      injection q with q1 q2 q3
      injection q' with q1' q2' q3'
      subst q1 q1' q3 q3'
      obtain ⟨cs, ⟨vp, hcs, hvp⟩, hr1⟩ := HA.out.at hx
      subst hcs
      obtain ⟨pa, pc, hvf⟩ := hvp.form
      obtain ⟨pn, hpn⟩ : ∃ pn, pn = x.ps.length := ⟨_, rfl⟩
      rw [← hpn] at hvf
      subst hvf
      obtain ⟨cs, ⟨vq, hcs, hvq⟩, hr2⟩ := HB.out.at hx
      subst hcs
      obtain ⟨ra, rc, hvf⟩ := hvq.form
      obtain ⟨rn, hrn⟩ : ∃ rn, rn = x.ps.length := ⟨_, rfl⟩
      rw [← hrn] at hvf
      subst hvf
      have x1 : ∀ V, G wr V → V.cell? ⟨g, o + i * 3, none⟩ = some (I x.id) := fun V hV => cell_G (by have := rangeAt_G hr1 hg 0 _ rfl; simpa using this) hV
      have x2 : ∀ V, G wr V → V.cell? ⟨g, o + i * 3 + 1, none⟩ = some (.string x.lb) := fun V hV => cell_G (by have := rangeAt_G hr1 hg 1 _ rfl; simpa using this) hV
      have x3 : ∀ V, G wr V → V.cell? ⟨g, o + i * 3 + 2, none⟩ = some (.slice pa pn pc) := fun V hV => cell_G (by have := rangeAt_G hr1 hg 2 _ rfl; simpa using this) hV
      have y1 : ∀ V, G wr V → V.cell? ⟨g2, o2 + i * 3, none⟩ = some (I x.id) := fun V hV => cell_G (by have := rangeAt_G hr2 hg 0 _ rfl; simpa using this) hV
      have y2 : ∀ V, G wr V → V.cell? ⟨g2, o2 + i * 3 + 1, none⟩ = some (.string x.lb) := fun V hV => cell_G (by have := rangeAt_G hr2 hg 1 _ rfl; simpa using this) hV
      have y3 : ∀ V, G wr V → V.cell? ⟨g2, o2 + i * 3 + 2, none⟩ = some (.slice ra rn rc) := fun V hV => cell_G (by have := rangeAt_G hr2 hg 2 _ rfl; simpa using this) hV
      have HS : Hid (∀ V, G wr V → V.cell? ⟨g, o + i * 3, none⟩ = some (I x.id) ∧ V.cell? ⟨g, o + i * 3 + 1, none⟩ = some (.string x.lb) ∧ V.cell? ⟨g, o + i * 3 + 2, none⟩ = some (.slice pa pn pc) ∧ V.cell? ⟨g2, o2 + i * 3, none⟩ = some (I x.id) ∧ V.cell? ⟨g2, o2 + i * 3 + 1, none⟩ = some (.string x.lb) ∧ V.cell? ⟨g2, o2 + i * 3 + 2, none⟩ = some (.slice ra rn rc) ∧ G wr V) := fun V h => ⟨x1 V h, x2 V h, x3 V h, y1 V h, y2 V h, y3 V h, h⟩
      have i1 : (i : Int) < l.length := Int.ofNat_lt.2 hil
      have HW : Hid (wrap64 ((i : Int) + 1) = (i : Int) + 1) := by show _ = _; have := HL.out; unfold wrap64; omega
      have KI : Hid (∀ V, G wr V → Calls Tryz.prog 34 #[.agg #[I x.id, .string x.lb, .slice pa pn pc], .agg #[I x.id, .string x.lb, .slice ra rn rc]] V fun e W' => e = .returned (.bool true) ∧ G V W') := fun V hV => snode_any x _ _ V ((hvp.G hg).G hV) ((hvq.G hg).G hV) (HP.out x (List.mem_of_getElem? hx))
      have HIL := hide hil; have HG := hide hg
      clear hik hil hx q2 q2' hg hvp hvq hr1 hr2 hpn hrn x1 y1 x2 y2 x3 y3
      go_wp2_with fail
      refine wp_region_noPanic ?_
      refine wp_region_held_drew (S := (fun V => V.cell? ⟨g, o + i * 3, none⟩ = some (I x.id) ∧ V.cell? ⟨g, o + i * 3 + 1, none⟩ = some (.string x.lb) ∧ V.cell? ⟨g, o + i * 3 + 2, none⟩ = some (.slice pa pn pc) ∧ V.cell? ⟨g2, o2 + i * 3, none⟩ = some (I x.id) ∧ V.cell? ⟨g2, o2 + i * 3 + 1, none⟩ = some (.string x.lb) ∧ V.cell? ⟨g2, o2 + i * 3 + 2, none⟩ = some (.slice ra rn rc) ∧ G wr V)) (by kernel_rfl) (HS.out _ ((G.refl _).drew)) (fun hHeld => ?_)
      refine wpAnyH_take (i := 0) (v := ?_) rfl (by kernel_rfl) (by kernel_rfl) (by kernel_rfl) (fun _ _ _ h => h) (Or.inl ⟨by rfl, ?_⟩) hHeld ?_
      rotate_left 1
      · (intro w hSw; (try dsimp only at hSw); go_simp; try with_reducible rfl)
      try simp only [Act.put, List.getElem_toArray, List.getElem_cons_zero, List.setIfInBounds_toArray, List.set_cons_zero, List.set_cons_succ]
      refine wpAnyH_take (i := 1) (v := ?_) rfl (by kernel_rfl) (by kernel_rfl) (by kernel_rfl) (fun _ _ _ h => h) (Or.inl ⟨by rfl, ?_⟩) hHeld ?_
      rotate_left 1
      · (intro w hSw; (try dsimp only at hSw); go_simp; try with_reducible rfl)
      try simp only [Act.put, List.getElem_toArray, List.getElem_cons_zero, List.getElem_cons_succ, List.setIfInBounds_toArray, List.set_cons_zero, List.set_cons_succ]
      refine wpAnyH_take (i := 2) (v := ?_) rfl (by kernel_rfl) (by kernel_rfl) (by kernel_rfl) (fun _ _ _ h => h) (Or.inl ⟨by rfl, ?_⟩) hHeld ?_
      rotate_left 1
      · (intro w hSw; obtain ⟨q0, q1, q2, q3, q4, q5, -⟩ := hSw; go_simp; try with_reducible rfl)
      try simp only [Act.put, List.getElem_toArray, List.getElem_cons_zero, List.getElem_cons_succ, List.setIfInBounds_toArray, List.set_cons_zero, List.set_cons_succ]
      refine wpAnyH_take (i := 3) (v := ?_) rfl (by kernel_rfl) (by kernel_rfl) (by kernel_rfl) (fun _ _ _ h => h) (Or.inl ⟨by rfl, ?_⟩) hHeld ?_
      rotate_left 1
      · (intro w hSw; obtain ⟨q0, q1, q2, q3, q4, q5, -⟩ := hSw; go_simp; try with_reducible rfl)
      try simp only [Act.put, List.getElem_toArray, List.getElem_cons_zero, List.getElem_cons_succ, List.setIfInBounds_toArray, List.set_cons_zero, List.set_cons_succ]
      refine wpAnyH_take (i := 4) (v := ?_) rfl (by kernel_rfl) (by kernel_rfl) (by kernel_rfl) (fun _ _ _ h => h) (Or.inl ⟨by rfl, ?_⟩) hHeld ?_
      rotate_left 1
      · (intro w hSw; (try dsimp only at hSw); go_simp; try with_reducible rfl)
      try simp only [Act.put, List.getElem_toArray, List.getElem_cons_zero, List.getElem_cons_succ, List.setIfInBounds_toArray, List.set_cons_zero, List.set_cons_succ]
      refine wpAnyH_take (i := 5) (v := ?_) rfl (by kernel_rfl) (by kernel_rfl) (by kernel_rfl) (fun _ _ _ h => h) (Or.inl ⟨by rfl, ?_⟩) hHeld ?_
      rotate_left 1
      · (intro w hSw; (try dsimp only at hSw); go_simp; try with_reducible rfl)
      try simp only [Act.put, List.getElem_toArray, List.getElem_cons_zero, List.getElem_cons_succ, List.setIfInBounds_toArray, List.set_cons_zero, List.set_cons_succ]
      refine wpAnyH_take (i := 6) (v := ?_) rfl (by kernel_rfl) (by kernel_rfl) (by kernel_rfl) (fun _ _ _ h => h) (Or.inl ⟨by rfl, ?_⟩) hHeld ?_
      rotate_left 1
      · (intro w hSw; obtain ⟨q0, q1, q2, q3, q4, q5, -⟩ := hSw; go_simp; try with_reducible rfl)
      try simp only [Act.put, List.getElem_toArray, List.getElem_cons_zero, List.getElem_cons_succ, List.setIfInBounds_toArray, List.set_cons_zero, List.set_cons_succ]
      refine wpAnyH_take (i := 7) (v := ?_) rfl (by kernel_rfl) (by kernel_rfl) (by kernel_rfl) (fun _ _ _ h => h) (Or.inl ⟨by rfl, ?_⟩) hHeld ?_
      rotate_left 1
      · (intro w hSw; obtain ⟨q0, q1, q2, q3, q4, q5, -⟩ := hSw; go_simp; try with_reducible rfl)
      try simp only [Act.put, List.getElem_toArray, List.getElem_cons_zero, List.getElem_cons_succ, List.setIfInBounds_toArray, List.set_cons_zero, List.set_cons_succ]
      refine wpAnyH_ready (rs := [8]) (by kernel_rfl) (by simp) (AllReadyH.cons rfl (fun K hK => ?_) AllReadyH.nil)
      clear hHeld
      (try refine (if_pos rfl).mpr ?_)
      go_simp
      refine (KI.out _ ((G.refl _).drew)).mono ?_
      rintro e w5 ⟨rfl, g5'⟩
      have g5 : G wr w5 := ((G.refl _).drew).trans g5'
      go_wp2_with fail
      refine hK.out _ _ (HS.out w5 g5) (fun hHeld => ?_)
      clear hK K
      try simp only [Act.put, List.getElem_toArray, List.getElem_cons_zero, List.getElem_cons_succ, List.setIfInBounds_toArray, List.set_cons_zero, List.set_cons_succ]
      refine wpAnyH_take (i := 9) (v := ?_) rfl (by kernel_rfl) (by kernel_rfl) (by kernel_rfl) (fun _ _ _ h => h) (Or.inl ⟨by rfl, ?_⟩) hHeld ?_
      rotate_left 1
      · (intro w hSw; (try dsimp only at hSw); go_simp; try with_reducible rfl)
      try simp only [Act.put, List.getElem_toArray, List.getElem_cons_zero, List.getElem_cons_succ, List.setIfInBounds_toArray, List.set_cons_zero, List.set_cons_succ]
      refine wpAnyH_done (by kernel_rfl) ?_ _
      refine NoPanic.normal ?_
      have HG5 := hide (HG.out.trans g5)
      clear g5 g5'
      go_wp2_with fail
      exact ⟨⟨i + 1, by rw [HW.out]; exact srl i, HIL.out, HG5.out⟩, by rw [HW.out]; exact sms HIL.out⟩
    · have i1 : ¬ ((i : Int) < l.length) := by omega
      have HG := hide hg
      clear hik hil hg
      go_wp2_with fail
      go_ret
      exact ⟨rfl, HG.out⟩
set_option maxRecDepth 100000 in
set_option maxHeartbeats 1000000 in
theorem sedges_any (l : List Ed) (u v : Value) (W : World) (h1 : Row relE W u l) (h2 : Row relE W v l) (hl : l.length ≤ 4611686018427387904) (hp : ∀ x ∈ l, x.ps.length ≤ 4611686018427387904) : Calls Tryz.prog 42 #[u, v] W fun e W' => e = .returned (.bool true) ∧ G W W' := by
  obtain ⟨p, cap, rfl⟩ := h1.form
  obtain ⟨p', cap', rfl⟩ := h2.form
  have HA := hide h1; have HB := hide h2; have HL := hide hl; have HP := hide hp
  clear h1 h2 hl hp
  go_enter Tryz.func42, Tryz.ntmps42
  go_wp2_with fail
  go_loopw [5] (fun iv wr => ∃ i : Nat, iv = I i ∧ i ≤ l.length ∧ G W wr) (fun iv _ => l.length - (RowKit.intOf iv).toNat)
  case atStart => exact ⟨0, rfl, Nat.zero_le _, G.refl _⟩
  case round =>
    rename_i wr hout
    obtain ⟨i, rfl, hik, hg⟩ := hrel
    by_cases hil : i < l.length
    · obtain ⟨x, hx⟩ : ∃ x, l[i]? = some x := ⟨_, List.getElem?_eq_getElem hil⟩
      obtain ⟨g, o, cp, q⟩ := HA.out.addr (by omega)
      obtain ⟨g2, o2, cp2, q'⟩ := HB.out.addr (by omega)
      injection q with q1 q2 q3
      injection q' with q1' q2' q3'
      subst q1 q1' q3 q3'
      obtain ⟨cs, ⟨vp, hcs, hvp⟩, hr1⟩ := HA.out.at hx
      subst hcs
      obtain ⟨pa, pc, hvf⟩ := hvp.form
      obtain ⟨pn, hpn⟩ : ∃ pn, pn = x.ps.length := ⟨_, rfl⟩
      rw [← hpn] at hvf
      subst hvf
      obtain ⟨cs, ⟨vq, hcs, hvq⟩, hr2⟩ := HB.out.at hx
      subst hcs
      obtain ⟨ra, rc, hvf⟩ := hvq.form
      obtain ⟨rn, hrn⟩ : ∃ rn, rn = x.ps.length := ⟨_, rfl⟩
      rw [← hrn] at hvf
      subst hvf
      have x1 : ∀ V, G wr V → V.cell? ⟨g, o + i * 5, none⟩ = some (I x.id) := fun V hV => cell_G (by have := rangeAt_G hr1 hg 0 _ rfl; simpa using this) hV
      have x2 : ∀ V, G wr V → V.cell? ⟨g, o + i * 5 + 1, none⟩ = some (.string x.ty) := fun V hV => cell_G (by have := rangeAt_G hr1 hg 1 _ rfl; simpa using this) hV
      have x3 : ∀ V, G wr V → V.cell? ⟨g, o + i * 5 + 2, none⟩ = some (I x.fr) := fun V hV => cell_G (by have := rangeAt_G hr1 hg 2 _ rfl; simpa using this) hV
      have x4 : ∀ V, G wr V → V.cell? ⟨g, o + i * 5 + 3, none⟩ = some (I x.to) := fun V hV => cell_G (by have := rangeAt_G hr1 hg 3 _ rfl; simpa using this) hV
      have x5 : ∀ V, G wr V → V.cell? ⟨g, o + i * 5 + 4, none⟩ = some (.slice pa pn pc) := fun V hV => cell_G (by have := rangeAt_G hr1 hg 4 _ rfl; simpa using this) hV
      have y1 : ∀ V, G wr V → V.cell? ⟨g2, o2 + i * 5, none⟩ = some (I x.id) := fun V hV => cell_G (by have := rangeAt_G hr2 hg 0 _ rfl; simpa using this) hV
      have y2 : ∀ V, G wr V → V.cell? ⟨g2, o2 + i * 5 + 1, none⟩ = some (.string x.ty) := fun V hV => cell_G (by have := rangeAt_G hr2 hg 1 _ rfl; simpa using this) hV
      have y3 : ∀ V, G wr V → V.cell? ⟨g2, o2 + i * 5 + 2, none⟩ = some (I x.fr) := fun V hV => cell_G (by have := rangeAt_G hr2 hg 2 _ rfl; simpa using this) hV
      have y4 : ∀ V, G wr V → V.cell? ⟨g2, o2 + i * 5 + 3, none⟩ = some (I x.to) := fun V hV => cell_G (by have := rangeAt_G hr2 hg 3 _ rfl; simpa using this) hV
      have y5 : ∀ V, G wr V → V.cell? ⟨g2, o2 + i * 5 + 4, none⟩ = some (.slice ra rn rc) := fun V hV => cell_G (by have := rangeAt_G hr2 hg 4 _ rfl; simpa using this) hV
      have HS : Hid (∀ V, G wr V → V.cell? ⟨g, o + i * 5, none⟩ = some (I x.id) ∧ V.cell? ⟨g, o + i * 5 + 1, none⟩ = some (.string x.ty) ∧ V.cell? ⟨g, o + i * 5 + 2, none⟩ = some (I x.fr) ∧ V.cell? ⟨g, o + i * 5 + 3, none⟩ = some (I x.to) ∧ V.cell? ⟨g, o + i * 5 + 4, none⟩ = some (.slice pa pn pc) ∧ V.cell? ⟨g2, o2 + i * 5, none⟩ = some (I x.id) ∧ V.cell? ⟨g2, o2 + i * 5 + 1, none⟩ = some (.string x.ty) ∧ V.cell? ⟨g2, o2 + i * 5 + 2, none⟩ = some (I x.fr) ∧ V.cell? ⟨g2, o2 + i * 5 + 3, none⟩ = some (I x.to) ∧ V.cell? ⟨g2, o2 + i * 5 + 4, none⟩ = some (.slice ra rn rc) ∧ G wr V) := fun V h => ⟨x1 V h, x2 V h, x3 V h, x4 V h, x5 V h, y1 V h, y2 V h, y3 V h, y4 V h, y5 V h, h⟩
      have i1 : (i : Int) < l.length := Int.ofNat_lt.2 hil
      have HW : Hid (wrap64 ((i : Int) + 1) = (i : Int) + 1) := by show _ = _; have := HL.out; unfold wrap64; omega
      have KI : Hid (∀ V, G wr V → Calls Tryz.prog 36 #[.agg #[I x.id, .string x.ty, I x.fr, I x.to, .slice pa pn pc], .agg #[I x.id, .string x.ty, I x.fr, I x.to, .slice ra rn rc]] V fun e W' => e = .returned (.bool true) ∧ G V W') := fun V hV => sedge_any x _ _ V ((hvp.G hg).G hV) ((hvq.G hg).G hV) (HP.out x (List.mem_of_getElem? hx))
      have HIL := hide hil; have HG := hide hg
      clear hik hil hx q2 q2' hg hvp hvq hr1 hr2 hpn hrn x1 y1 x2 y2 x3 y3 x4 y4 x5 y5
      go_wp2_with fail
      refine wp_region_noPanic ?_
      refine wp_region_held_drew (S := (fun V => V.cell? ⟨g, o + i * 5, none⟩ = some (I x.id) ∧ V.cell? ⟨g, o + i * 5 + 1, none⟩ = some (.string x.ty) ∧ V.cell? ⟨g, o + i * 5 + 2, none⟩ = some (I x.fr) ∧ V.cell? ⟨g, o + i * 5 + 3, none⟩ = some (I x.to) ∧ V.cell? ⟨g, o + i * 5 + 4, none⟩ = some (.slice pa pn pc) ∧ V.cell? ⟨g2, o2 + i * 5, none⟩ = some (I x.id) ∧ V.cell? ⟨g2, o2 + i * 5 + 1, none⟩ = some (.string x.ty) ∧ V.cell? ⟨g2, o2 + i * 5 + 2, none⟩ = some (I x.fr) ∧ V.cell? ⟨g2, o2 + i * 5 + 3, none⟩ = some (I x.to) ∧ V.cell? ⟨g2, o2 + i * 5 + 4, none⟩ = some (.slice ra rn rc) ∧ G wr V)) (by kernel_rfl) (HS.out _ ((G.refl _).drew)) (fun hHeld => ?_)
      refine wpAnyH_take (i := 0) (v := ?_) rfl (by kernel_rfl) (by kernel_rfl) (by kernel_rfl) (fun _ _ _ h => h) (Or.inl ⟨by rfl, ?_⟩) hHeld ?_
      rotate_left 1
      · (intro w hSw; (try dsimp only at hSw); go_simp; try with_reducible rfl)
      try simp only [Act.put, List.getElem_toArray, List.getElem_cons_zero, List.setIfInBounds_toArray, List.set_cons_zero, List.set_cons_succ]
      refine wpAnyH_take (i := 1) (v := ?_) rfl (by kernel_rfl) (by kernel_rfl) (by kernel_rfl) (fun _ _ _ h => h) (Or.inl ⟨by rfl, ?_⟩) hHeld ?_
      rotate_left 1
      · (intro w hSw; (try dsimp only at hSw); go_simp; try with_reducible rfl)
      try simp only [Act.put, List.getElem_toArray, List.getElem_cons_zero, List.getElem_cons_succ, List.setIfInBounds_toArray, List.set_cons_zero, List.set_cons_succ]
      refine wpAnyH_take (i := 2) (v := ?_) rfl (by kernel_rfl) (by kernel_rfl) (by kernel_rfl) (fun _ _ _ h => h) (Or.inl ⟨by rfl, ?_⟩) hHeld ?_
      rotate_left 1
      · (intro w hSw; obtain ⟨q0, q1, q2, q3, q4, q5, q6, q7, q8, q9, -⟩ := hSw; go_simp; try with_reducible rfl)
      try simp only [Act.put, List.getElem_toArray, List.getElem_cons_zero, List.getElem_cons_succ, List.setIfInBounds_toArray, List.set_cons_zero, List.set_cons_succ]
      refine wpAnyH_take (i := 3) (v := ?_) rfl (by kernel_rfl) (by kernel_rfl) (by kernel_rfl) (fun _ _ _ h => h) (Or.inl ⟨by rfl, ?_⟩) hHeld ?_
      rotate_left 1
      · (intro w hSw; obtain ⟨q0, q1, q2, q3, q4, q5, q6, q7, q8, q9, -⟩ := hSw; go_simp; try with_reducible rfl)
      try simp only [Act.put, List.getElem_toArray, List.getElem_cons_zero, List.getElem_cons_succ, List.setIfInBounds_toArray, List.set_cons_zero, List.set_cons_succ]
      refine wpAnyH_take (i := 4) (v := ?_) rfl (by kernel_rfl) (by kernel_rfl) (by kernel_rfl) (fun _ _ _ h => h) (Or.inl ⟨by rfl, ?_⟩) hHeld ?_
      rotate_left 1
      · (intro w hSw; (try dsimp only at hSw); go_simp; try with_reducible rfl)
      try simp only [Act.put, List.getElem_toArray, List.getElem_cons_zero, List.getElem_cons_succ, List.setIfInBounds_toArray, List.set_cons_zero, List.set_cons_succ]
      refine wpAnyH_take (i := 5) (v := ?_) rfl (by kernel_rfl) (by kernel_rfl) (by kernel_rfl) (fun _ _ _ h => h) (Or.inl ⟨by rfl, ?_⟩) hHeld ?_
      rotate_left 1
      · (intro w hSw; (try dsimp only at hSw); go_simp; try with_reducible rfl)
      try simp only [Act.put, List.getElem_toArray, List.getElem_cons_zero, List.getElem_cons_succ, List.setIfInBounds_toArray, List.set_cons_zero, List.set_cons_succ]
      refine wpAnyH_take (i := 6) (v := ?_) rfl (by kernel_rfl) (by kernel_rfl) (by kernel_rfl) (fun _ _ _ h => h) (Or.inl ⟨by rfl, ?_⟩) hHeld ?_
      rotate_left 1
      · (intro w hSw; obtain ⟨q0, q1, q2, q3, q4, q5, q6, q7, q8, q9, -⟩ := hSw; go_simp; try with_reducible rfl)
      try simp only [Act.put, List.getElem_toArray, List.getElem_cons_zero, List.getElem_cons_succ, List.setIfInBounds_toArray, List.set_cons_zero, List.set_cons_succ]
      refine wpAnyH_take (i := 7) (v := ?_) rfl (by kernel_rfl) (by kernel_rfl) (by kernel_rfl) (fun _ _ _ h => h) (Or.inl ⟨by rfl, ?_⟩) hHeld ?_
      rotate_left 1
      · (intro w hSw; obtain ⟨q0, q1, q2, q3, q4, q5, q6, q7, q8, q9, -⟩ := hSw; go_simp; try with_reducible rfl)
      try simp only [Act.put, List.getElem_toArray, List.getElem_cons_zero, List.getElem_cons_succ, List.setIfInBounds_toArray, List.set_cons_zero, List.set_cons_succ]
      refine wpAnyH_ready (rs := [8]) (by kernel_rfl) (by simp) (AllReadyH.cons rfl (fun K hK => ?_) AllReadyH.nil)
      clear hHeld
      (try refine (if_pos rfl).mpr ?_)
      go_simp
      refine (KI.out _ ((G.refl _).drew)).mono ?_
      rintro e w5 ⟨rfl, g5'⟩
      have g5 : G wr w5 := ((G.refl _).drew).trans g5'
      go_wp2_with fail
      refine hK.out _ _ (HS.out w5 g5) (fun hHeld => ?_)
      clear hK K
      try simp only [Act.put, List.getElem_toArray, List.getElem_cons_zero, List.getElem_cons_succ, List.setIfInBounds_toArray, List.set_cons_zero, List.set_cons_succ]
      refine wpAnyH_take (i := 9) (v := ?_) rfl (by kernel_rfl) (by kernel_rfl) (by kernel_rfl) (fun _ _ _ h => h) (Or.inl ⟨by rfl, ?_⟩) hHeld ?_
      rotate_left 1
      · (intro w hSw; (try dsimp only at hSw); go_simp; try with_reducible rfl)
      try simp only [Act.put, List.getElem_toArray, List.getElem_cons_zero, List.getElem_cons_succ, List.setIfInBounds_toArray, List.set_cons_zero, List.set_cons_succ]
      refine wpAnyH_done (by kernel_rfl) ?_ _
      refine NoPanic.normal ?_
      have HG5 := hide (HG.out.trans g5)
      clear g5 g5'
      go_wp2_with fail
      exact ⟨⟨i + 1, by rw [HW.out]; exact srl i, HIL.out, HG5.out⟩, by rw [HW.out]; exact sms HIL.out⟩
    · have i1 : ¬ ((i : Int) < l.length) := by omega
      have HG := hide hg
      clear hik hil hg
      go_wp2_with fail
      go_ret
      exact ⟨rfl, HG.out⟩
set_option maxRecDepth 100000 in
set_option maxHeartbeats 1000000 in
theorem sgraph_any (ns : List Nd) (es : List Ed) (u v u' v' : Value) (W : World) (h1 : Row relN W u ns) (h2 : Row relE W v es) (k1 : Row relN W u' ns) (k2 : Row relE W v' es) (hb : GrB ns es) : Calls Tryz.prog 13 #[.agg #[u, v], .agg #[u', v']] W fun e W' => e = .returned (.bool true) ∧ G W W' := by
  obtain ⟨p, cap, rfl⟩ := h1.form
  obtain ⟨q, caq, rfl⟩ := h2.form
  obtain ⟨p', cap', rfl⟩ := k1.form
  obtain ⟨q', caq', rfl⟩ := k2.form
  obtain ⟨w2, hw2⟩ : ∃ w2, w2 = (W.alloc (.cells #[.slice p ns.length cap, .slice q es.length caq] 25)).alloc (.cells #[.slice p' ns.length cap', .slice q' es.length caq'] 25) := ⟨_, rfl⟩
  have hg2 : G W w2 := by rw [hw2]; exact ((G.refl W).alloc _).alloc _
  have hB2 : Blk w2 W.heap.size 25 [.slice p ns.length cap, .slice q es.length caq] := by rw [hw2]; exact (Blk.new W [.slice p ns.length cap, .slice q es.length caq] 25).G ((G.refl _).alloc _)
  have hC2 : Blk w2 (W.heap.size + 1) 25 [.slice p' ns.length cap', .slice q' es.length caq'] := by
    have := Blk.new (W.alloc (.cells #[.slice p ns.length cap, .slice q es.length caq] 25)) [.slice p' ns.length cap', .slice q' es.length caq'] 25
    rw [hw2]
    simpa using this
  have HEW : Hid ((W.alloc (.cells #[.slice p ns.length cap, .slice q es.length caq] 25)).alloc (.cells #[.slice p' ns.length cap', .slice q' es.length caq'] 25) = w2) := hw2.symm
  have HB := hide (And.intro hB2 hC2)
  have HG2 := hide hg2
  have b2 := hB2.cell
  have c2 := hC2.cell
  have KN := hide (snodes_any ns _ _ w2 (h1.G hg2) (k1.G hg2) (by have := hb.n; omega) (fun x hx => by have := hb.p x hx; omega))
  have KE : Hid (∀ V, G w2 V → Calls Tryz.prog 42 #[.slice q es.length caq, .slice q' es.length caq'] V fun e W' => e = .returned (.bool true) ∧ G V W') := fun V hV => sedges_any es _ _ V ((h2.G hg2).G hV) ((k2.G hg2).G hV) (by have := hb.e; omega) (fun x hx => by have := hb.q x hx; omega)
  clear h1 h2 k1 k2 hb hw2 hg2 hB2 hC2
  go_enter Tryz.func13, Tryz.ntmps13
  go_wp2_with fail
  rw [HEW.out]
  refine KN.out.mono ?_
  rintro e w3 ⟨rfl, hg3⟩
  have b3 := (HB.out.1.G hg3).cell
  have c3 := (HB.out.2.G hg3).cell
  have KE3 := hide (KE.out w3 hg3)
  have HG3 := hide (HG2.out.trans hg3)
  clear hg3 KN b2 c2 KE
  go_wp2_with fail
  refine KE3.out.mono ?_
  rintro e w4 ⟨rfl, hg4⟩
  have HG := hide (HG3.out.trans hg4)
  clear hg4 KE3 b3 c3
  go_wp2_with fail
  go_ret
  exact ⟨rfl, HG.out⟩
end Go.Proofs.YtifioikdhfhljaaGreatDoor
