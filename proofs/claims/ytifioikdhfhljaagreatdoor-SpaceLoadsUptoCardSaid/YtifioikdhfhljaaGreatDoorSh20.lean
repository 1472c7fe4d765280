/- Graphs: SpaceLoads. -/
import Derived.Test.YtifioikdhfhljaaGreatDoorSh16
import Derived.Test.YtifioikdhfhljaaGreatDoorSh17
namespace Go.Proofs.YtifioikdhfhljaaGreatDoor
open Go.RowKit

theorem NRow.toRow {α : Type} {D : Nst α} {R : Rel α} {ty : TypeId} {w : World} {v : Value} {l : List α} (h : NRow D ty w v l) (hs : D.s = R.s) (hr : ∀ cs x, x ∈ l → D.r w cs x → R.r w cs x) : Row R w v l := by
  obtain ⟨rs, q1, q2, q3⟩ := h
  obtain ⟨p, cap, rfl, hc, hn, hx⟩ := q1.toRow
  refine ⟨p, cap, by rw [q2], by omega, fun q => by have := hn q; omega, fun i x e => ?_⟩
  have hi : i < rs.length := by rw [q2]; exact (List.getElem?_eq_some_iff.1 e).1
  obtain ⟨g, o, cs, h1, h2, h3⟩ := hx i _ (List.getElem?_eq_getElem hi)
  refine ⟨g, o, cs, h1, hr cs x (List.mem_of_getElem? e) ?_, by rw [← hs]; exact h3⟩
  rw [show cs = rs[i].1 from h2]
  exact q3 i _ x (List.getElem?_eq_getElem hi) e
theorem NRow.rowN {ty : TypeId} {w : World} {v : Value} {l : List Nd} (h : NRow dNo ty w v l) : Row relN w v l := h.toRow rfl fun _ _ _ ⟨v, e, hs⟩ => ⟨v, e, hs.toRow⟩
theorem NRow.rowE {ty : TypeId} {w : World} {v : Value} {l : List Ed} (h : NRow dEo ty w v l) : Row relE w v l := h.toRow rfl fun _ _ _ ⟨v, e, hs⟩ => ⟨v, e, hs.toRow⟩
theorem G.fill {W a b : World} {F : Nat → Prop} (h : G W a) (k : Chg F a b) (hF : ∀ i, F i → W.heap.size ≤ i) : G W b := ((h.chg (F := fun _ => False)).more k (fun i hi q => by have := hF i q; omega)).G (fun _ q => q.elim)
set_option maxRecDepth 100000 in
set_option maxHeartbeats 4000000 in
theorem loads_any (ns : List Nd) (es : List Ed) (nv ev : Value) (W : World) (h1 : Row relN W nv ns) (h2 : Row relE W ev es) (hs : SmB ns es) (hr : IdOk ns es) (hT : Tabs W)
    (hM : ∀ (u v : Value) (V : World), Row relN V u ns → Row relE V v es → Calls Tryz.prog 12 #[.agg #[u, v]] V fun e W' => e = .returned (.bool (mayB ns es)) ∧ G V W') :
    Calls Tryz.prog 3 #[.agg #[nv, ev]] W fun e W' => e = .returned (.bool true) ∧ G W W' := by
  have hb := hs.gr
  obtain ⟨sa, sc, rfl⟩ := h1.form
  obtain ⟨ta, tc, rfl⟩ := h2.form
  obtain ⟨sn, hsn⟩ : ∃ sn, sn = ns.length := ⟨_, rfl⟩
  obtain ⟨tn, htn⟩ : ∃ tn, tn = es.length := ⟨_, rfl⟩
  rw [← hsn] at h1 ⊢
  rw [← htn] at h2 ⊢
  obtain ⟨w2, hw2⟩ : ∃ w2, w2 = W.alloc (.cells #[.slice sa sn sc, .slice ta tn tc] 25) := ⟨_, rfl⟩
  obtain ⟨B1, hB1⟩ : ∃ B1, B1 = W.heap.size := ⟨_, rfl⟩
  have hgw : G W w2 := by rw [hw2]; exact (G.refl W).alloc _
  have hb1 : Blk w2 B1 25 [.slice sa sn sc, .slice ta tn tc] := by rw [hw2, hB1]; exact Blk.new W [.slice sa sn sc, .slice ta tn tc] 25
  have HEW : Hid (W.alloc (.cells #[.slice sa sn sc, .slice ta tn tc] 25) = w2) := hw2.symm
  have HE1 : Hid (W.heap.size = B1) := hB1.symm
  have K1 := hide (sfull_any ns es _ _ w2 (h1.G hgw) (h2.G hgw) hs w2.heap.size (Nat.le_refl _))
  have HOR := hide (And.intro h1 h2); have HSM := hide hs; have HRR := hide hr; have HT := hide hT; have HM := hide hM; have HB := hide hb; have HB1 := hide hb1; have HGW := hide hgw
  have HSN : Hid (sn = ns.length ∧ tn = es.length) := ⟨hsn, htn⟩
  have kb1 := hb1.cell
  have HB1L : Hid (B1 < w2.heap.size) := hb1.lt
  clear h1 h2 hs hr hT hM hb hsn htn hw2 hB1 hgw hb1
  go_enter Tryz.func3, Tryz.ntmps3
  go_wp2_with fail
  rw [HEW.out]
  try rw [HE1.out]
  clear HEW HE1 kb1
  refine K1.out.mono ?_
  rintro e w3 ⟨na, nn, nc, ea, en, ec, rfl, hn3, he3, hf1, hf2, hg3⟩
  obtain ⟨w4, hw4⟩ : ∃ w4, w4 = w3.alloc (.cells #[.slice na nn nc, .slice ea en ec] 25) := ⟨_, rfl⟩
  obtain ⟨B3, hB3⟩ : ∃ B3, B3 = w3.heap.size := ⟨_, rfl⟩
  have hg4 : G w3 w4 := by rw [hw4]; exact (G.refl w3).alloc _
  have hb3 : Blk w4 B3 25 [.slice na nn nc, .slice ea en ec] := by rw [hw4, hB3]; exact Blk.new w3 [.slice na nn nc, .slice ea en ec] 25
  have HEW : Hid (w3.alloc (.cells #[.slice na nn nc, .slice ea en ec] 25) = w4) := hw4.symm
  have HE1 : Hid (w3.heap.size = B3) := hB3.symm
  have hnn : nn = ns.length + 2 := by have := hn3.len_eq; simp [ndM] at this; omega
  have hen : en = es.length + 2 := by have := he3.len_eq; simp [edM] at this; omega
  have K2 := hide (srooms_any (ns.map Nd.full) (es.map Ed.full) ndM edM na nn nc ea en ec w4 (hn3.G hg4).plainN (he3.G hg4).plainE (by rw [List.length_map]; exact hnn) (by rw [List.length_map]; exact hen) (by rw [List.length_map, List.length_map]; exact ⟨HSM.out.n, HSM.out.e⟩))
  have HN3 := hide (And.intro (hn3.G hg4) (he3.G hg4)); have HF3 := hide (And.intro hf1 hf2); have HG4 := hide (hg3.trans hg4); have HB3 := hide hb3
  have kb3 := hb3.cell
  clear K1 hn3 he3 hf1 hf2 hg3 hw4 hB3 hg4 hb3 hnn hen
  go_wp2_with fail
  rw [HEW.out]
  try rw [HE1.out]
  clear HEW HE1 kb3
  refine K2.out.mono ?_
  rintro e w5 ⟨ra, rn, rc, rfl, hr5, -, hg5⟩
  have K3 := hide (shanded_any ns es na nn nc ea en ec w2.heap.size w2 w5 (HN3.out.1.G hg5) (HN3.out.2.G hg5) HSM.out (HG4.out.trans hg5) HF3.out.1 HF3.out.2)
  rw [← HSN.out.1, ← HSN.out.2] at K3
  have hb35 := HB3.out.G hg5
  have kb3 := hb35.cell
  have HR5 := hide hr5; have HG25 := hide (HG4.out.trans hg5); have HB35 := hide hb35
  clear K2 hr5 hg5 hb35 HN3 HB3 HG4
  go_wp2_with fail
  refine K3.out.mono ?_
  rintro e w6 ⟨rfl, hn6, he6, hfx6, hg6, hbk6⟩
  obtain ⟨w7, hw7⟩ : ∃ w7, w7 = w6.alloc (.cells #[.slice na sn nc, .slice ea tn ec] 25) := ⟨_, rfl⟩
  obtain ⟨B5, hB5⟩ : ∃ B5, B5 = w6.heap.size := ⟨_, rfl⟩
  have hg7 : G w6 w7 := by rw [hw7]; exact (G.refl w6).alloc _
  have hb5 : Blk w7 B5 25 [.slice na sn nc, .slice ea tn ec] := by rw [hw7, hB5]; exact Blk.new w6 [.slice na sn nc, .slice ea tn ec] 25
  have HEW : Hid (w6.alloc (.cells #[.slice na sn nc, .slice ea tn ec] 25) = w7) := hw7.symm
  have HE1 : Hid (w6.heap.size = B5) := hB5.symm
  have hnl := hn6.len_eq
  have hel := he6.len_eq
  rw [List.length_append, ← HSN.out.1] at hnl
  rw [List.length_append, ← HSN.out.2] at hel
  have htN := (hn6.G hg7).plainN.take (m := sn) (by omega)
  have htE := (he6.G hg7).plainE.take (m := tn) (by omega)
  rw [List.take_left' HSN.out.1.symm] at htN
  rw [List.take_left' HSN.out.2.symm] at htE
  have hg27 := hg6.trans hg7
  have HSH : Hid (Shp (fun k => w2.heap.size ≤ k ∧ k < w7.heap.size) w7 69 3 na sn ∧ Shp (fun k => w2.heap.size ≤ k ∧ k < w7.heap.size) w7 72 5 ea tn) := by
    rw [HSN.out.1, HSN.out.2]
    exact ⟨shpN (hn6.G hg7) HSM.out.p HF3.out.1, shpE (he6.G hg7) HSM.out.q HF3.out.2⟩
  have HN7 := hide (And.intro (hn6.G hg7).plainN (he6.G hg7).plainE)
  have HR7 := hide ((HR5.out.fx hfx6 (by decide) (by decide)).G hg7)
  have HB17 := hide ((hbk6 _ _ (HB1.out.G HG25.out)).G hg7)
  have HB37 := hide ((hbk6 _ _ HB35.out).G hg7)
  have HB5 := hide hb5
  have HGW7 := hide (HGW.out.trans hg27)
  have KT : Hid (mayB ns es = true → Calls Tryz.prog 10 #[.agg #[.slice na sn nc, .slice ea tn ec]] w7 fun e W' => LoadP w7 W' ns es e ∧ G w7 W') := fun e => load_yes ns es _ _ w7 htN.rowN htE.rowE HB.out HRR.out (HT.out.G HGW7.out) e
  have KF : Hid (mayB ns es = false → Calls Tryz.prog 10 #[.agg #[.slice na sn nc, .slice ea tn ec]] w7 fun e W' => e = .returned (.tuple #[.pointer none, I 122]) ∧ G w7 W') := fun e => load_no ns es _ _ w7 htN.rowN htE.rowE HB.out (HT.out.G HGW7.out) e
  have HMK : Hid (∀ V, G w7 V → Calls Tryz.prog 11 #[.agg #[.slice na nn nc, .slice ea en ec], .slice ra rn rc, .agg #[.slice sa sn sc, .slice ta tn tc]] V fun e W' => e = .returned (.bool true) ∧ G V W') := fun V hV =>
    smarks_any ns es na nn nc ea en ec _ _ _ V (HN7.out.1.G hV) (HN7.out.2.G hV) (by have q := HR7.out.G hV; rw [List.map_map, List.map_map] at q; exact q) (HOR.out.1.G (HGW7.out.trans hV)) (HOR.out.2.G (HGW7.out.trans hV)) HSM.out
  clear K3 kb3 hn6 he6 hfx6 hg6 hbk6 hw7 hB5 hg7 hb5 hnl hel htN htE hg27 HR5 HG25 HB35
  cases hm : mayB ns es with
  | false =>
    have KL := hide (KF.out hm)
    have HMY : Hid (∀ V, G w7 V → Calls Tryz.prog 12 #[.agg #[.slice sa sn sc, .slice ta tn tc]] V fun e W' => e = .returned (.bool false) ∧ G V W') := fun V hV => by
      have := HM.out _ _ V (HOR.out.1.G (HGW7.out.trans hV)) (HOR.out.2.G (HGW7.out.trans hV))
      rw [hm] at this
      exact this
    clear hm KT KF
    go_wp2_with fail
    rw [HEW.out]
    try rw [HE1.out]
    refine KL.out.mono ?_
    rintro e w8 ⟨rfl, hg8⟩
    have kb3 := (HB37.out.G hg8).cell
    have kb1 := (HB17.out.G hg8).cell
    go_wp2_with fail
    refine (HMK.out w8 hg8).mono ?_
    rintro e w9 ⟨rfl, hg9'⟩
    have hg9 := hg8.trans hg9'
    clear hg9' kb1 kb3 hg8
    have kb1 := (HB17.out.G hg9).cell
    go_wp2_with fail
    refine (HMY.out w9 hg9).mono ?_
    rintro e w10 ⟨rfl, hg10'⟩
    have hg10 := hg9.trans hg10'
    clear hg10' kb1 hg9
    go_wp2_with fail
    refine (graph_nil w10).mono ?_
    rintro e w11 ⟨rfl, hg11⟩
    go_wp2_with fail
    refine (sgraph_any [] [] _ _ _ _ w11 (NRow.nil dNo 69 w11).rowN (NRow.nil dEo 72 w11).rowE (NRow.nil dNo 69 w11).rowN (NRow.nil dEo 72 w11).rowE ⟨by simp, by simp, by simp, by simp⟩).mono ?_
    rintro e w12 ⟨rfl, hg12⟩
    go_wp2_with fail
    go_ret
    exact ⟨rfl, ((HGW7.out.trans hg10).trans hg11).trans hg12⟩
  | true =>
    have KL := hide (KT.out hm)
    have HMY : Hid (∀ V, G w7 V → Calls Tryz.prog 12 #[.agg #[.slice sa sn sc, .slice ta tn tc]] V fun e W' => e = .returned (.bool true) ∧ G V W') := fun V hV => by
      have := HM.out _ _ V (HOR.out.1.G (HGW7.out.trans hV)) (HOR.out.2.G (HGW7.out.trans hV))
      rw [hm] at this
      exact this
    clear hm KT KF
    go_wp2_with fail
    rw [HEW.out]
    try rw [HE1.out]
    refine KL.out.mono ?_
    rintro e w8 ⟨⟨mb, nid, eid, m1, m2, b1, b2, g1, g2, f1, f2, rfl, hMG⟩, hg8⟩
    have kb3 := (HB37.out.G hg8).cell
    have kb1 := (HB17.out.G hg8).cell
    have HG8 := hide hg8; have HMG := hide hMG
    clear hMG hg8 KL
    go_wp2_with fail
    refine (HMK.out w8 HG8.out).mono ?_
    rintro e w9 ⟨rfl, hg9'⟩
    have hg9 := HG8.out.trans hg9'
    have HG89 := hide hg9'
    clear hg9' kb1 kb3
    have kb1 := (HB17.out.G hg9).cell
    go_wp2_with fail
    refine (HMY.out w9 hg9).mono ?_
    rintro e w10 ⟨rfl, hg10'⟩
    have HG10 := hide (hg9.trans hg10')
    have HMG10 := hide (HMG.out.G (HG89.out.trans hg10'))
    have HGW10 := hide (HGW7.out.trans HG10.out)
    clear hg10' kb1 hg9
    have K7 : Hid (∀ V, G w10 V → _) := fun V hV => graph_any _ mb ns es _ nid eid m1 m2 b1 b2 g1 g2 f1 f2 V (HMG10.out.G hV) HRR.out HB.out
    have HS : Hid (∀ V, G w10 V → (∀ o, V.cell? ⟨B1, o, none⟩ = ([.slice sa sn sc, .slice ta tn tc] : List Value)[o]?) ∧ G w10 V) := fun V hV => ⟨((HB17.out.G HG10.out).G hV).cell, hV⟩
    go_wp2_with fail
    refine wp_region_noPanic ?_
    refine wp_region_held_drew (S := (fun V => (∀ o, V.cell? ⟨B1, o, none⟩ = ([.slice sa sn sc, .slice ta tn tc] : List Value)[o]?) ∧ G w10 V)) (by kernel_rfl) (HS.out _ ((G.refl w10).drew)) (fun hHeld => ?_)
    refine wpAnyH_take (i := 0) (v := ?_) rfl (by kernel_rfl) (by kernel_rfl) (by kernel_rfl) (fun _ _ _ h => h) (Or.inl ⟨by rfl, ?_⟩) hHeld ?_
    rotate_left 1
    · (intro w hSw; (try dsimp only at hSw); go_simp; try with_reducible rfl)
    try simp only [Act.put, List.getElem_toArray, List.getElem_cons_zero, List.setIfInBounds_toArray, List.set_cons_zero, List.set_cons_succ]
    refine wpAnyH_take (i := 1) (v := ?_) rfl (by kernel_rfl) (by kernel_rfl) (by kernel_rfl) (fun _ _ _ h => h) (Or.inl ⟨by rfl, ?_⟩) hHeld ?_
    rotate_left 1
    · (intro w hSw; (try dsimp only at hSw); go_simp; try with_reducible rfl)
    try simp only [Act.put, List.getElem_toArray, List.getElem_cons_zero, List.getElem_cons_succ, List.setIfInBounds_toArray, List.set_cons_zero, List.set_cons_succ]
    refine wpAnyH_take (i := 2) (v := ?_) rfl (by kernel_rfl) (by kernel_rfl) (by kernel_rfl) (fun _ _ _ h => h) (Or.inl ⟨by rfl, ?_⟩) hHeld ?_
    rotate_left 1
    · (intro w hSw; (try dsimp only at hSw); go_simp; try with_reducible rfl)
    try simp only [Act.put, List.getElem_toArray, List.getElem_cons_zero, List.getElem_cons_succ, List.setIfInBounds_toArray, List.set_cons_zero, List.set_cons_succ]
    refine wpAnyH_take (i := 3) (v := ?_) rfl (by kernel_rfl) (by kernel_rfl) (by kernel_rfl) (fun _ _ _ h => h) (Or.inl ⟨by rfl, ?_⟩) hHeld ?_
    rotate_left 1
    · (intro w hSw; (try dsimp only at hSw); go_simp; try with_reducible rfl)
    try simp only [Act.put, List.getElem_toArray, List.getElem_cons_zero, List.getElem_cons_succ, List.setIfInBounds_toArray, List.set_cons_zero, List.set_cons_succ]
    refine wpAnyH_take (i := 4) (v := ?_) rfl (by kernel_rfl) (by kernel_rfl) (by kernel_rfl) (fun _ _ _ h => h) (Or.inl ⟨by rfl, ?_⟩) hHeld ?_
    rotate_left 1
    · (intro w hSw; (try dsimp only at hSw); go_simp; try with_reducible rfl)
    try simp only [Act.put, List.getElem_toArray, List.getElem_cons_zero, List.getElem_cons_succ, List.setIfInBounds_toArray, List.set_cons_zero, List.set_cons_succ]
    refine wpAnyH_take (i := 5) (v := ?_) rfl (by kernel_rfl) (by kernel_rfl) (by kernel_rfl) (fun _ _ _ h => h) (Or.inl ⟨by rfl, ?_⟩) hHeld ?_
    rotate_left 1
    · (intro w hSw; (try dsimp only at hSw); go_simp; try with_reducible rfl)
    try simp only [Act.put, List.getElem_toArray, List.getElem_cons_zero, List.getElem_cons_succ, List.setIfInBounds_toArray, List.set_cons_zero, List.set_cons_succ]
    refine wpAnyH_take (i := 6) (v := ?_) rfl (by kernel_rfl) (by kernel_rfl) (by kernel_rfl) (fun _ _ _ h => h) (Or.inl ⟨by rfl, ?_⟩) hHeld ?_
    rotate_left 1
    · (intro w hSw; (try dsimp only at hSw); go_simp; try with_reducible rfl)
    try simp only [Act.put, List.getElem_toArray, List.getElem_cons_zero, List.getElem_cons_succ, List.setIfInBounds_toArray, List.set_cons_zero, List.set_cons_succ]
    refine wpAnyH_take (i := 7) (v := ?_) rfl (by kernel_rfl) (by kernel_rfl) (by kernel_rfl) (fun _ _ _ h => h) (Or.inl ⟨by rfl, ?_⟩) hHeld ?_
    rotate_left 1
    · (intro w hSw; (try dsimp only at hSw); go_simp; try with_reducible rfl)
    try simp only [Act.put, List.getElem_toArray, List.getElem_cons_zero, List.getElem_cons_succ, List.setIfInBounds_toArray, List.set_cons_zero, List.set_cons_succ]
    refine wpAnyH_take (i := 9) (v := ?_) rfl (by kernel_rfl) (by kernel_rfl) (by kernel_rfl) (fun _ _ _ h => h) (Or.inl ⟨by rfl, ?_⟩) hHeld ?_
    rotate_left 1
    · (intro w hSw; have q1 := hSw.1; go_simp; try with_reducible rfl)
    try simp only [Act.put, List.getElem_toArray, List.getElem_cons_zero, List.getElem_cons_succ, List.setIfInBounds_toArray, List.set_cons_zero, List.set_cons_succ]
    refine wpAnyH_ready (rs := [8]) (by kernel_rfl) (by simp) (AllReadyH.cons rfl (fun K hK => ?_) AllReadyH.nil)
    clear hHeld
    (try refine (if_pos rfl).mpr ?_)
    go_simp
    refine (K7.out _ ((G.refl w10).drew)).mono ?_
    rintro e w11 ⟨ya, yn, yc, za, zn, zc, rfl, hy, hz, g11'⟩
    have g11 := ((G.refl w10).drew).trans g11'
    have HX := hide (And.intro hy hz)
    clear g11' hy hz
    go_wp2_with fail
    refine hK.out _ _ (HS.out w11 g11) (fun hHeld => ?_)
    clear hK K
    try simp only [Act.put, List.getElem_toArray, List.getElem_cons_zero, List.getElem_cons_succ, List.setIfInBounds_toArray, List.set_cons_zero, List.set_cons_succ]
    refine wpAnyH_ready (rs := [10]) (by kernel_rfl) (by simp) (AllReadyH.cons rfl (fun K hK => ?_) AllReadyH.nil)
    clear hHeld
    (try refine (if_pos rfl).mpr ?_)
    go_simp
    refine (sgraph_any ns es _ _ _ _ w11 HX.out.1.rowN HX.out.2.rowE (HOR.out.1.G (HGW10.out.trans g11)) (HOR.out.2.G (HGW10.out.trans g11)) HB.out).mono ?_
    rintro e w12 ⟨rfl, g12'⟩
    have g12 := g11.trans g12'
    clear g12'
    go_wp2_with fail
    refine hK.out _ _ (HS.out w12 g12) (fun hHeld => ?_)
    clear hK K
    try simp only [Act.put, List.getElem_toArray, List.getElem_cons_zero, List.getElem_cons_succ, List.setIfInBounds_toArray, List.set_cons_zero, List.set_cons_succ]
    refine wpAnyH_take (i := 11) (v := ?_) rfl (by kernel_rfl) (by kernel_rfl) (by kernel_rfl) (fun _ _ _ h => h) (Or.inl ⟨by rfl, ?_⟩) hHeld ?_
    rotate_left 1
    · (intro w hSw; (try dsimp only at hSw); go_simp; try with_reducible rfl)
    try simp only [Act.put, List.getElem_toArray, List.getElem_cons_zero, List.getElem_cons_succ, List.setIfInBounds_toArray, List.set_cons_zero, List.set_cons_succ]
    refine wpAnyH_take (i := 12) (v := ?_) rfl (by kernel_rfl) (by kernel_rfl) (by kernel_rfl) (fun _ _ _ h => h) (Or.inl ⟨by rfl, ?_⟩) hHeld ?_
    rotate_left 1
    · (intro w hSw; (try dsimp only at hSw); go_simp; try with_reducible rfl)
    try simp only [Act.put, List.getElem_toArray, List.getElem_cons_zero, List.getElem_cons_succ, List.setIfInBounds_toArray, List.set_cons_zero, List.set_cons_succ]
    refine wpAnyH_done (by kernel_rfl) ?_ _
    refine NoPanic.normal ?_
    have kb5 := ((HB5.out.G HG10.out).G g12).cell
    have HG12 := hide g12
    have hg712 := HG10.out.trans g12
    have K9 := hide (sfill_any _ na sn nc ea tn ec w12 (ShpN.fl HSH.out.1 (Fq.of_G hg712)) (ShpE.fl HSH.out.2 (Fq.of_G hg712)) (by rw [HSN.out.1, HSN.out.2]; exact ⟨HSM.out.n, HSM.out.e⟩))
    clear hg712 g11 g12 HX K7 HS
    go_wp2_with fail
    refine K9.out.mono ?_
    rintro e w13 ⟨rfl, hch⟩
    have hMG13 := (HMG10.out.G HG12.out).keep (fun k hk hl => hch.block k hl (fun q => by have := q.2; omega))
    have hb13 := ((HB17.out.G HG10.out).G HG12.out).chg hch (fun q => by have := q.1; have := HB1L.out; omega)
    have HGW13 : Hid (G W w13) := G.fill (HGW10.out.trans HG12.out) hch (fun i q => by have := q.1; have := HGW.out.size; omega)
    have K7 : Hid (∀ V, G w13 V → _) := fun V hV => graph_any _ mb ns es _ nid eid m1 m2 b1 b2 g1 g2 f1 f2 V (hMG13.G hV) HRR.out HB.out
    have HS : Hid (∀ V, G w13 V → (∀ o, V.cell? ⟨B1, o, none⟩ = ([.slice sa sn sc, .slice ta tn tc] : List Value)[o]?) ∧ G w13 V) := fun V hV => ⟨(hb13.G hV).cell, hV⟩
    clear hch hMG13 hb13 kb5 K9
    go_wp2_with fail
    refine wp_region_noPanic ?_
    refine wp_region_held_drew (S := (fun V => (∀ o, V.cell? ⟨B1, o, none⟩ = ([.slice sa sn sc, .slice ta tn tc] : List Value)[o]?) ∧ G w13 V)) (by kernel_rfl) (HS.out _ ((G.refl w13).drew)) (fun hHeld => ?_)
    refine wpAnyH_take (i := 0) (v := ?_) rfl (by kernel_rfl) (by kernel_rfl) (by kernel_rfl) (fun _ _ _ h => h) (Or.inl ⟨by rfl, ?_⟩) hHeld ?_
    rotate_left 1
    · (intro w hSw; (try dsimp only at hSw); go_simp; try with_reducible rfl)
    try simp only [Act.put, List.getElem_toArray, List.getElem_cons_zero, List.setIfInBounds_toArray, List.set_cons_zero, List.set_cons_succ]
    refine wpAnyH_take (i := 2) (v := ?_) rfl (by kernel_rfl) (by kernel_rfl) (by kernel_rfl) (fun _ _ _ h => h) (Or.inl ⟨by rfl, ?_⟩) hHeld ?_
    rotate_left 1
    · (intro w hSw; have q1 := hSw.1; go_simp; try with_reducible rfl)
    try simp only [Act.put, List.getElem_toArray, List.getElem_cons_zero, List.getElem_cons_succ, List.setIfInBounds_toArray, List.set_cons_zero, List.set_cons_succ]
    refine wpAnyH_ready (rs := [1]) (by kernel_rfl) (by simp) (AllReadyH.cons rfl (fun K hK => ?_) AllReadyH.nil)
    clear hHeld
    (try refine (if_pos rfl).mpr ?_)
    go_simp
    refine (K7.out _ ((G.refl w13).drew)).mono ?_
    rintro e w14 ⟨ya, yn, yc, za, zn, zc, rfl, hy, hz, g14'⟩
    have g14 := ((G.refl w13).drew).trans g14'
    have HX := hide (And.intro hy hz)
    clear g14' hy hz
    go_wp2_with fail
    refine hK.out _ _ (HS.out w14 g14) (fun hHeld => ?_)
    clear hK K
    try simp only [Act.put, List.getElem_toArray, List.getElem_cons_zero, List.getElem_cons_succ, List.setIfInBounds_toArray, List.set_cons_zero, List.set_cons_succ]
    refine wpAnyH_ready (rs := [3]) (by kernel_rfl) (by simp) (AllReadyH.cons rfl (fun K hK => ?_) AllReadyH.nil)
    clear hHeld
    (try refine (if_pos rfl).mpr ?_)
    go_simp
    refine (sgraph_any ns es _ _ _ _ w14 HX.out.1.rowN HX.out.2.rowE (HOR.out.1.G (HGW13.out.trans g14)) (HOR.out.2.G (HGW13.out.trans g14)) HB.out).mono ?_
    rintro e w15 ⟨rfl, g15'⟩
    have g15 := g14.trans g15'
    clear g15'
    go_wp2_with fail
    refine hK.out _ _ (HS.out w15 g15) (fun hHeld => ?_)
    clear hK K
    try simp only [Act.put, List.getElem_toArray, List.getElem_cons_zero, List.getElem_cons_succ, List.setIfInBounds_toArray, List.set_cons_zero, List.set_cons_succ]
    refine wpAnyH_take (i := 4) (v := ?_) rfl (by kernel_rfl) (by kernel_rfl) (by kernel_rfl) (fun _ _ _ h => h) (Or.inl ⟨by rfl, ?_⟩) hHeld ?_
    rotate_left 1
    · (intro w hSw; (try dsimp only at hSw); go_simp; try with_reducible rfl)
    try simp only [Act.put, List.getElem_toArray, List.getElem_cons_zero, List.getElem_cons_succ, List.setIfInBounds_toArray, List.set_cons_zero, List.set_cons_succ]
    refine wpAnyH_done (by kernel_rfl) ?_ _
    refine NoPanic.normal ?_
    go_wp2_with fail
    go_ret
    exact ⟨rfl, HGW13.out.trans g15⟩
end Go.Proofs.YtifioikdhfhljaaGreatDoor
