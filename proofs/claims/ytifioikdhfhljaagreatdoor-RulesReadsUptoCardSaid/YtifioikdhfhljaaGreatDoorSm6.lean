/- Graphs: a graph in new memory. -/
import Derived.Test.YtifioikdhfhljaaGreatDoorSh10
namespace Go.Proofs.YtifioikdhfhljaaGreatDoor
open Go.RowKit

theorem G.far {w w4 w5 : World} (hg : Go.Proofs.YtifioikdhfhljaaGreatDoor.G w w4) (hc : Chg (fun k => w.heap.size ≤ k) w4 w5) : Go.Proofs.YtifioikdhfhljaaGreatDoor.G w w5 :=
  ((hg.chg (F := fun _ => False)).more hc (fun i hi q => by omega)).G (fun _ q => q.elim)
set_option maxRecDepth 100000 in
set_option maxHeartbeats 1000000 in
theorem cprops_any (l : List Pv) (v : Value) (W : World) (h : Row eP.rel W v l) (hn : l.length ≤ 1099511627776) :
    Calls Tryz.prog 91 #[v] W fun e W' => ∃ v', e = .returned v' ∧ Sw eP 101 W' v' l ∧ G W W' := by
  obtain ⟨i0, hi0, hz0, hz1, hz2⟩ := info_P
  have hmx : (1099511627776 : Nat) ≤ maxLen := of_decide_eq_true (by kernel_rfl)
  obtain ⟨v5, w5, hr5, hs5, hch5, hob5⟩ := app_row (P := Tryz.prog) (E := eP) (tr := 42) i0 _ 56 Tryz.underlying42 hi0 hz0 hz1 hz2 rfl (by decide) (Sw.nil eP 101 W) h (by simp; omega) (by simp; omega)
  rw [List.nil_append] at hs5
  obtain ⟨_, hg5⟩ := (Fresh.nil W).app (G.refl W) hch5 hob5
  obtain ⟨p, cap, rfl⟩ := h.form
  have HF : Hid (∃ v', Ending.returned v5 = .returned v' ∧ Sw eP 101 w5 v' l ∧ G W w5) := ⟨v5, rfl, hs5, hg5⟩
  have HR5 := hide hr5
  clear h hn hi0 hz0 hz1 hz2 hmx hr5 hs5 hch5 hob5 hg5
  go_enter Tryz.func91, Tryz.ntmps91
  go_wp2_with (first | (at_builtin; refine wpList_append_run rfl _ _ 42 rfl (.slice none 0 0) (.slice p l.length cap) rfl rfl HR5.out ?_) | fail)
  go_ret
  exact HF.out
set_option maxRecDepth 100000 in
set_option maxHeartbeats 1000000 in
theorem cnode_any (x : Nd) (v : Value) (W : World) (h : Row eP.rel W v x.ps) (hn : x.ps.length ≤ 1099511627776) :
    Calls Tryz.prog 49 #[.agg #[I x.id, .string x.lb, v]] W fun e W' => ∃ qa qn qc, e = .returned (.agg #[I x.id, .string x.lb, .slice qa qn qc]) ∧ Sw eP 101 W' (.slice qa qn qc) x.ps ∧ G W W' := by
  have hv := h
  obtain ⟨pa, pc9, rfl⟩ := h.form
  obtain ⟨pn9, hpn⟩ : ∃ pn9, pn9 = x.ps.length := ⟨_, rfl⟩
  rw [← hpn] at h hv ⊢
  obtain ⟨w2, hw2⟩ : ∃ w2, w2 = (W.alloc (.cells #[I x.id, .string x.lb, .slice pa pn9 pc9] 69)).alloc (.cells #[I 0, .string { data := #[] }, .slice none 0 0] 69) := ⟨_, rfl⟩
  have hg2 : G W w2 := by rw [hw2]; exact ((G.refl W).alloc _).alloc _
  have hB2 : Blk w2 W.heap.size 69 [I x.id, .string x.lb, .slice pa pn9 pc9] := by rw [hw2]; exact (Blk.new W [I x.id, .string x.lb, .slice pa pn9 pc9] 69).G ((G.refl _).alloc _)
  have hC2 : Blk w2 (W.heap.size + 1) 69 [I 0, .string { data := #[] }, .slice none 0 0] := by
    have := Blk.new (W.alloc (.cells #[I x.id, .string x.lb, .slice pa pn9 pc9] 69)) [I 0, .string { data := #[] }, .slice none 0 0] 69
    rw [hw2]
    simpa using this
  have HEW : Hid ((W.alloc (.cells #[I x.id, .string x.lb, .slice pa pn9 pc9] 69)).alloc (.cells #[I 0, .string { data := #[] }, .slice none 0 0] 69) = w2) := hw2.symm
  have KP := hide (cprops_any x.ps _ w2 (hv.G hg2) hn)
  have HB := hide (And.intro hB2 (And.intro hC2 hg2))
  have b2 := hB2.cell
  clear h hv hn hw2 hg2 hB2 hC2 hpn
  go_enter Tryz.func49, Tryz.ntmps49
  go_wp2_with fail
  rw [HEW.out]
  refine KP.out.mono ?_
  rintro e w3 ⟨v3, rfl, hn3, hg3⟩
  obtain ⟨qa, qc, rfl⟩ := hn3.form
  obtain ⟨qn, hqn⟩ : ∃ qn, qn = x.ps.length := ⟨_, rfl⟩
  rw [← hqn] at hn3 ⊢
  obtain ⟨hB2, hC2, hg2⟩ := HB.out
  have hB3 := hB2.G hg3
  have hC3 := hC2.G hg3
  have b3 := hB3.cell
  have f3 := hB3.frozen
  have c3 := (hC3.off (b := W.heap.size) (o := 2) (v := .slice qa qn qc) (by omega)).cell
  have z3 := (hC3.off (b := W.heap.size) (o := 2) (v := .slice qa qn qc) (by omega)).frozen
  have hC4 := hide (hC3.off (b := W.heap.size) (o := 2) (v := .slice qa qn qc) (by omega))
  have HF : Hid (∀ u, Chg (fun k => k = W.heap.size + 1) (w3.setCell ⟨W.heap.size, 2, none⟩ (.slice qa qn qc)) u → Sw eP 101 u (.slice qa qn qc) x.ps ∧ G W u) := fun u hu => by
    have k1 : Kx [69] w3 (w3.setCell ⟨W.heap.size, 2, none⟩ (.slice qa qn qc)) := Kx.set hB3 (by simp)
    have k2 : Kx [69] (w3.setCell ⟨W.heap.size, 2, none⟩ (.slice qa qn qc)) u := Kx.one hu hC4.out (by simp)
    refine ⟨hn3.kx (k1.trans k2) (by decide), ?_⟩
    have g4 : G W (w3.setCell ⟨W.heap.size, 2, none⟩ (.slice qa qn qc)) := (hg2.trans hg3).setCell (Nat.le_refl _) _
    exact g4.far (hu.mono (fun k hk => by rw [hk]; exact Nat.le_succ _))
  clear hn3 hg3 hB2 hC2 hg2 hB3 hC3 KP b2 hqn
  go_wp2_with fail
  have hC9 := (((hC4.out.set 0 (I x.id)).set 1 (.string x.lb)).set 2 (.slice qa qn qc))
  have hF9 := HF.out _ (((chg_setCell (F := fun k => k = W.heap.size + 1) (b := W.heap.size + 1) (o := 0) _ (I x.id) (.inl rfl)).trans (chg_setCell (F := fun k => k = W.heap.size + 1) (b := W.heap.size + 1) (o := 1) _ (.string x.lb) (.inl rfl))).trans (chg_setCell (F := fun k => k = W.heap.size + 1) (b := W.heap.size + 1) (o := 2) _ (.slice qa qn qc) (.inl rfl)))
  exact bodyPost_ret_by (v := .agg #[I x.id, .string x.lb, .slice qa qn qc]) (results_cell_row Tryz.results49 _ _ (W.heap.size + 1) 69 _ (0, 0) _ rfl hC9.h Tryz.underlying69 rfl (by kernel_rfl)) rfl ⟨qa, qn, qc, rfl, hF9.1, hF9.2⟩
set_option maxRecDepth 100000 in
set_option maxHeartbeats 1000000 in
theorem cedge_any (x : Ed) (v : Value) (W : World) (h : Row eP.rel W v x.ps) (hn : x.ps.length ≤ 1099511627776) :
    Calls Tryz.prog 50 #[.agg #[I x.id, .string x.ty, I x.fr, I x.to, v]] W fun e W' => ∃ qa qn qc, e = .returned (.agg #[I x.id, .string x.ty, I x.fr, I x.to, .slice qa qn qc]) ∧ Sw eP 101 W' (.slice qa qn qc) x.ps ∧ G W W' := by
  have hv := h
  obtain ⟨pa, pc9, rfl⟩ := h.form
  obtain ⟨pn9, hpn⟩ : ∃ pn9, pn9 = x.ps.length := ⟨_, rfl⟩
  rw [← hpn] at h hv ⊢
  obtain ⟨w2, hw2⟩ : ∃ w2, w2 = (W.alloc (.cells #[I x.id, .string x.ty, I x.fr, I x.to, .slice pa pn9 pc9] 72)).alloc (.cells #[I 0, .string { data := #[] }, I 0, I 0, .slice none 0 0] 72) := ⟨_, rfl⟩
  have hg2 : G W w2 := by rw [hw2]; exact ((G.refl W).alloc _).alloc _
  have hB2 : Blk w2 W.heap.size 72 [I x.id, .string x.ty, I x.fr, I x.to, .slice pa pn9 pc9] := by rw [hw2]; exact (Blk.new W [I x.id, .string x.ty, I x.fr, I x.to, .slice pa pn9 pc9] 72).G ((G.refl _).alloc _)
  have hC2 : Blk w2 (W.heap.size + 1) 72 [I 0, .string { data := #[] }, I 0, I 0, .slice none 0 0] := by
    have := Blk.new (W.alloc (.cells #[I x.id, .string x.ty, I x.fr, I x.to, .slice pa pn9 pc9] 72)) [I 0, .string { data := #[] }, I 0, I 0, .slice none 0 0] 72
    rw [hw2]
    simpa using this
  have HEW : Hid ((W.alloc (.cells #[I x.id, .string x.ty, I x.fr, I x.to, .slice pa pn9 pc9] 72)).alloc (.cells #[I 0, .string { data := #[] }, I 0, I 0, .slice none 0 0] 72) = w2) := hw2.symm
  have KP := hide (cprops_any x.ps _ w2 (hv.G hg2) hn)
  have HB := hide (And.intro hB2 (And.intro hC2 hg2))
  have b2 := hB2.cell
  clear h hv hn hw2 hg2 hB2 hC2 hpn
  go_enter Tryz.func50, Tryz.ntmps50
  go_wp2_with fail
  rw [HEW.out]
  refine KP.out.mono ?_
  rintro e w3 ⟨v3, rfl, hn3, hg3⟩
  obtain ⟨qa, qc, rfl⟩ := hn3.form
  obtain ⟨qn, hqn⟩ : ∃ qn, qn = x.ps.length := ⟨_, rfl⟩
  rw [← hqn] at hn3 ⊢
  obtain ⟨hB2, hC2, hg2⟩ := HB.out
  have hB3 := hB2.G hg3
  have hC3 := hC2.G hg3
  have b3 := hB3.cell
  have f3 := hB3.frozen
  have c3 := (hC3.off (b := W.heap.size) (o := 4) (v := .slice qa qn qc) (by omega)).cell
  have z3 := (hC3.off (b := W.heap.size) (o := 4) (v := .slice qa qn qc) (by omega)).frozen
  have hC4 := hide (hC3.off (b := W.heap.size) (o := 4) (v := .slice qa qn qc) (by omega))
  have HF : Hid (∀ u, Chg (fun k => k = W.heap.size + 1) (w3.setCell ⟨W.heap.size, 4, none⟩ (.slice qa qn qc)) u → Sw eP 101 u (.slice qa qn qc) x.ps ∧ G W u) := fun u hu => by
    have k1 : Kx [72] w3 (w3.setCell ⟨W.heap.size, 4, none⟩ (.slice qa qn qc)) := Kx.set hB3 (by simp)
    have k2 : Kx [72] (w3.setCell ⟨W.heap.size, 4, none⟩ (.slice qa qn qc)) u := Kx.one hu hC4.out (by simp)
    refine ⟨hn3.kx (k1.trans k2) (by decide), ?_⟩
    have g4 : G W (w3.setCell ⟨W.heap.size, 4, none⟩ (.slice qa qn qc)) := (hg2.trans hg3).setCell (Nat.le_refl _) _
    exact g4.far (hu.mono (fun k hk => by rw [hk]; exact Nat.le_succ _))
  clear hn3 hg3 hB2 hC2 hg2 hB3 hC3 KP b2 hqn
  go_wp2_with fail
  have hC9 := (((((hC4.out.set 0 (I x.id)).set 1 (.string x.ty)).set 2 (I x.fr)).set 3 (I x.to)).set 4 (.slice qa qn qc))
  have hF9 := HF.out _ (((((chg_setCell (F := fun k => k = W.heap.size + 1) (b := W.heap.size + 1) (o := 0) _ (I x.id) (.inl rfl)).trans (chg_setCell (F := fun k => k = W.heap.size + 1) (b := W.heap.size + 1) (o := 1) _ (.string x.ty) (.inl rfl))).trans (chg_setCell (F := fun k => k = W.heap.size + 1) (b := W.heap.size + 1) (o := 2) _ (I x.fr) (.inl rfl))).trans (chg_setCell (F := fun k => k = W.heap.size + 1) (b := W.heap.size + 1) (o := 3) _ (I x.to) (.inl rfl))).trans (chg_setCell (F := fun k => k = W.heap.size + 1) (b := W.heap.size + 1) (o := 4) _ (.slice qa qn qc) (.inl rfl)))
  exact bodyPost_ret_by (v := .agg #[I x.id, .string x.ty, I x.fr, I x.to, .slice qa qn qc]) (results_cell_row Tryz.results50 _ _ (W.heap.size + 1) 72 _ (0, 0) _ rfl hC9.h Tryz.underlying72 rfl (by kernel_rfl)) rfl ⟨qa, qn, qc, rfl, hF9.1, hF9.2⟩
set_option maxRecDepth 100000 in
set_option maxHeartbeats 4000000 in
theorem copy_g (ns : List Nd) (es : List Ed) (d e : Value) (W : World) (h1 : Row relN W d ns) (h2 : Row relE W e es) (l1 : ns.length ≤ 1099511627776) (l2 : es.length ≤ 1099511627776) (p1 : ∀ x ∈ ns, x.ps.length ≤ 1099511627776) (p2 : ∀ x ∈ es, x.ps.length ≤ 1099511627776) :
    Calls Tryz.prog 16 #[.agg #[d, e]] W fun en W' => ∃ na nn nc ra rn rc, en = .returned (.agg #[.slice na nn nc, .slice ra rn rc]) ∧ NRow dNo 69 W' (.slice na nn nc) ns ∧ NRow dEo 72 W' (.slice ra rn rc) es ∧ G W W' := by
  obtain ⟨da, dc, rfl⟩ := h1.form
  obtain ⟨ea, ec, rfl⟩ := h2.form
  obtain ⟨w1, hw1⟩ : ∃ w1, w1 = (W.alloc (.cells #[.slice da ns.length dc, .slice ea es.length ec] 25)).alloc (.cells #[.slice none 0 0, .slice none 0 0] 25) := ⟨_, rfl⟩
  obtain ⟨w2, hw2⟩ : ∃ w2, w2 = w1.alloc (.cells #[.slice none 0 0, .slice none 0 0] 25) := ⟨_, rfl⟩
  have hg1 : G W w1 := by rw [hw1]; exact ((G.refl W).alloc _).alloc _
  have hg2 : G w1 w2 := by rw [hw2]; exact (G.refl w1).alloc _
  have hB1 : Blk w1 W.heap.size 25 [.slice da ns.length dc, .slice ea es.length ec] := by rw [hw1]; exact (Blk.new W [.slice da ns.length dc, .slice ea es.length ec] 25).G ((G.refl _).alloc _)
  have hC1 : Blk w1 (W.heap.size + 1) 25 [.slice none 0 0, .slice none 0 0] := by
    have := Blk.new (W.alloc (.cells #[.slice da ns.length dc, .slice ea es.length ec] 25)) [.slice none 0 0, .slice none 0 0] 25
    rw [hw1]
    simpa using this
  obtain ⟨gb, hgb⟩ : ∃ gb, gb = W.heap.size + 1 + 1 := ⟨_, rfl⟩
  have hs1 : w1.heap.size = gb := by rw [hw1, hgb]; simp
  have hG2 : Blk w2 gb 25 [.slice none 0 0, .slice none 0 0] := by rw [hw2, ← hs1]; exact Blk.new w1 [.slice none 0 0, .slice none 0 0] 25
  have HS := hide (And.intro hG2 hg2)
  have HBX := hide hB1
  have HRS := hide (And.intro hC1 hg1)
  have HV := hide (And.intro (h1.G hg1) (h2.G hg1))
  have HP := hide (And.intro p1 p2)
  have HL : Hid (ns.length ≤ 1099511627776 ∧ es.length ≤ 1099511627776) := ⟨l1, l2⟩
  have HGE : Hid (w1.heap.size ≤ gb) := by show _ ≤ _; omega
  have HEW : Hid (((W.alloc (.cells #[.slice da ns.length dc, .slice ea es.length ec] 25)).alloc (.cells #[.slice none 0 0, .slice none 0 0] 25)).alloc (.cells #[.slice none 0 0, .slice none 0 0] 25) = w2) := by show _ = _; rw [hw2, hw1]
  have HGB : Hid (W.heap.size + 1 + 1 = gb) := hgb.symm
  have b1 := (hB1.G hg2).cell
  clear h1 h2 l1 l2 p1 p2 hw1 hw2 hg1 hg2 hB1 hC1 hgb hs1 hG2
  go_enter Tryz.func16, Tryz.ntmps16
  go_wp2_with fail
  rw [HEW.out]
  try rw [HGB.out]
  clear b1
  go_loopw [4] (fun iv wr => ∃ (i : Nat) (ra : Option Addr) (rn rc : Nat) (rs : List (Raw dNo.s)), iv = I i ∧ i ≤ ns.length ∧ Blk wr gb 25 [.slice ra rn rc, .slice none 0 0] ∧ Sw (eR dNo.s) 69 wr (.slice ra rn rc) rs ∧ Fresh w1 (.slice ra rn rc) ∧ G w1 wr ∧ rs.length = i ∧ ∀ (j : Nat) (c : Raw dNo.s) (y : Nd), rs[j]? = some c → (ns.take i)[j]? = some y → dNo.r wr c.1 y) (fun iv _ => ns.length - (RowKit.intOf iv).toNat)
  case atStart =>
    obtain ⟨q1, q2⟩ := HS.out
    exact ⟨0, none, 0, 0, [], rfl, Nat.zero_le _, q1, Sw.nil _ _ _, Fresh.nil _, q2, rfl, fun j c y e => by simp at e⟩
  case round =>
    obtain ⟨i, ra, rn, rc, rs, rfl, hin, hB, ho, hof, hg, hxl, hrr⟩ := hrel
    obtain ⟨wo, hwo⟩ : ∃ wo, wo = wr := ⟨_, rfl⟩
    subst hwo
    clear HS
    have kb := (HBX.out.G hg).cell
    by_cases hlt : i < ns.length
    · have i2 : (i : Int) < ns.length := by omega
      obtain ⟨x, hx⟩ : ∃ x, ns[i]? = some x := ⟨_, List.getElem?_eq_getElem hlt⟩
      obtain ⟨g, o, c9, qq⟩ := HV.out.1.addr (by omega)
      injection qq with p1 p2 p3
      subst p1 p3
      obtain ⟨cs, ⟨vp, hcs, hvp⟩, hr1⟩ := HV.out.1.at hx
      subst hcs
      have KC : Hid (∀ w', G wo w' → _) := fun w' g' => cnode_any x vp w' ((hvp.G hg).G g') (HP.out.1 x (List.mem_of_getElem? hx))
      obtain ⟨pp, pc9, rfl⟩ := hvp.form
      have HSR : Hid (∀ V, G w1 V → V.cell? ⟨g, o + i * 3, none⟩ = some (I x.id) ∧ V.cell? ⟨g, o + i * 3 + 1, none⟩ = some (.string x.lb) ∧ V.cell? ⟨g, o + i * 3 + 2, none⟩ = some (.slice pp x.ps.length pc9)) := fun V gV => ⟨rangeAt_G hr1 gV 0 _ rfl, rangeAt_G hr1 gV 1 _ rfl, rangeAt_G hr1 gV 2 _ rfl⟩
      have HC := hide (And.intro hg (And.intro hB (And.intro ho hof)))
      have HX := hide (And.intro hxl (And.intro hlt (And.intro hrr hx)))
      clear hin hB ho hof hg hxl hrr hlt hx hvp hr1 p2
      go_wp2_with fail
      clear kb
      refine wp_region_noPanic ?_
      refine wp_region_L (S := (fun V => G w1 V ∧ ∀ o, V.cell? ⟨gb, o, none⟩ = ([.slice ra rn rc, .slice none 0 0] : List Value)[o]?)) 11 (by kernel_rfl) (⟨HC.out.1.drew, HC.out.2.1.drew.cell⟩) (fun hHeld => ?_)
      refine wpAnyL_take (i := 0) (v := ?_) rfl (by kernel_rfl) (by kernel_rfl) (by kernel_rfl) (by kernel_rfl) (fun _ _ _ h => h) (Or.inl ⟨by rfl, ?_⟩) hHeld ?_
      rotate_left 1
      · (intro w hSw; have q1 := hSw.2; have q2 := (HBX.out.G hSw.1).cell; obtain ⟨y0, y1, y2⟩ := HSR.out _ hSw.1; go_simp; try with_reducible rfl)
      try simp only [Act.put, List.getElem_toArray, List.getElem_cons_zero, List.setIfInBounds_toArray, List.set_cons_zero, List.set_cons_succ]
      refine wpAnyL_take (i := 1) (v := ?_) rfl (by kernel_rfl) (by kernel_rfl) (by kernel_rfl) (by kernel_rfl) (fun _ _ _ h => h) (Or.inl ⟨by rfl, ?_⟩) hHeld ?_
      rotate_left 1
      · (intro w hSw; have q1 := hSw.2; have q2 := (HBX.out.G hSw.1).cell; obtain ⟨y0, y1, y2⟩ := HSR.out _ hSw.1; go_simp; try with_reducible rfl)
      try simp only [Act.put, List.getElem_toArray, List.getElem_cons_zero, List.getElem_cons_succ, List.setIfInBounds_toArray, List.set_cons_zero, List.set_cons_succ]
      refine wpAnyL_take (i := 2) (v := ?_) rfl (by kernel_rfl) (by kernel_rfl) (by kernel_rfl) (by kernel_rfl) (fun _ _ _ h => h) (Or.inl ⟨by rfl, ?_⟩) hHeld ?_
      rotate_left 1
      · (intro w hSw; have q1 := hSw.2; have q2 := (HBX.out.G hSw.1).cell; obtain ⟨y0, y1, y2⟩ := HSR.out _ hSw.1; go_simp; try with_reducible rfl)
      try simp only [Act.put, List.getElem_toArray, List.getElem_cons_zero, List.getElem_cons_succ, List.setIfInBounds_toArray, List.set_cons_zero, List.set_cons_succ]
      refine wpAnyL_take (i := 3) (v := ?_) rfl (by kernel_rfl) (by kernel_rfl) (by kernel_rfl) (by kernel_rfl) (fun _ _ _ h => h) (Or.inl ⟨by rfl, ?_⟩) hHeld ?_
      rotate_left 1
      · (intro w hSw; have q1 := hSw.2; have q2 := (HBX.out.G hSw.1).cell; obtain ⟨y0, y1, y2⟩ := HSR.out _ hSw.1; go_simp; try with_reducible rfl)
      try simp only [Act.put, List.getElem_toArray, List.getElem_cons_zero, List.getElem_cons_succ, List.setIfInBounds_toArray, List.set_cons_zero, List.set_cons_succ]
      refine wpAnyL_take (i := 4) (v := ?_) rfl (by kernel_rfl) (by kernel_rfl) (by kernel_rfl) (by kernel_rfl) (fun _ _ _ h => h) (Or.inl ⟨by rfl, ?_⟩) hHeld ?_
      rotate_left 1
      · (intro w hSw; have q1 := hSw.2; have q2 := (HBX.out.G hSw.1).cell; obtain ⟨y0, y1, y2⟩ := HSR.out _ hSw.1; go_simp; try with_reducible rfl)
      try simp only [Act.put, List.getElem_toArray, List.getElem_cons_zero, List.getElem_cons_succ, List.setIfInBounds_toArray, List.set_cons_zero, List.set_cons_succ]
      refine wpAnyL_take (i := 5) (v := ?_) rfl (by kernel_rfl) (by kernel_rfl) (by kernel_rfl) (by kernel_rfl) (fun _ _ _ h => h) (Or.inl ⟨by rfl, ?_⟩) hHeld ?_
      rotate_left 1
      · (intro w hSw; have q1 := hSw.2; have q2 := (HBX.out.G hSw.1).cell; obtain ⟨y0, y1, y2⟩ := HSR.out _ hSw.1; go_simp; try with_reducible rfl)
      try simp only [Act.put, List.getElem_toArray, List.getElem_cons_zero, List.getElem_cons_succ, List.setIfInBounds_toArray, List.set_cons_zero, List.set_cons_succ]
      refine wpAnyL_take (i := 6) (v := ?_) rfl (by kernel_rfl) (by kernel_rfl) (by kernel_rfl) (by kernel_rfl) (fun _ _ _ h => h) (Or.inl ⟨by rfl, ?_⟩) hHeld ?_
      rotate_left 1
      · (intro w hSw; have q1 := hSw.2; have q2 := (HBX.out.G hSw.1).cell; obtain ⟨y0, y1, y2⟩ := HSR.out _ hSw.1; go_simp; try with_reducible rfl)
      try simp only [Act.put, List.getElem_toArray, List.getElem_cons_zero, List.getElem_cons_succ, List.setIfInBounds_toArray, List.set_cons_zero, List.set_cons_succ]
      refine wpAnyL_one (i := 7) (by kernel_rfl) rfl (by kernel_rfl) (fun K hK => ?_)
      clear hHeld
      refine (if_pos rfl).mpr ?_
      go_simp
      refine (KC.out _ ((G.refl wo).drew)).mono ?_
      rintro e w3 ⟨qa, qn, qc, rfl, hn3, hg3'⟩
      have hg3 : G wo w3 := ((G.refl wo).drew).trans hg3'
      have HB9 := hide (HC.out.2.1.G hg3)
      have H3 := hide (And.intro hg3 hn3)
      clear hg3 hg3' hn3 KC
      go_wp2_with fail
      refine hK.out _ _ (⟨HC.out.1.trans H3.out.1, HB9.out.cell⟩) (fun hHeld => ?_)
      clear hK K
      try simp only [Act.put, List.getElem_toArray, List.getElem_cons_zero, List.getElem_cons_succ, List.setIfInBounds_toArray, List.set_cons_zero, List.set_cons_succ]
      refine wpAnyL_one (i := 8) (by kernel_rfl) rfl (by kernel_rfl) (fun K hK => ?_)
      clear hHeld
      obtain ⟨hg3, hn3⟩ := H3.out
      obtain ⟨hgw, hB, ho, hof⟩ := HC.out
      have hA := (G.refl w3).alloc (.cells #[I x.id, .string x.lb, .slice qa qn qc] 69)
      have ho4 := (ho.G hg3).G hA
      obtain ⟨i0, hi0, hz0, hz1, hz2⟩ := info_N
      have hmx : (1099511627777 : Nat) ≤ maxLen := of_decide_eq_true (by kernel_rfl)
      obtain ⟨hxl, hlt, hrr, hx⟩ := HX.out
      have hl9 := HL.out
      obtain ⟨c, hc⟩ : ∃ c : Raw dNo.s, c.1 = [I x.id, .string x.lb, .slice qa qn qc] := ⟨⟨[I x.id, .string x.lb, .slice qa qn qc], rfl, fun u hu => by simp at hu; rcases hu with rfl | rfl | rfl <;> rfl⟩, rfl⟩
      have hlit : Row (eR dNo.s).rel (w3.alloc (.cells #[I x.id, .string x.lb, .slice qa qn qc] 69)) (.slice (some ⟨w3.heap.size, 0, none⟩) 1 1) [c] := by
        have := Row.lit (E := eR dNo.s) w3 69 [c] 1 (by simp)
        rw [show (eR dNo.s).fl [c] = [I x.id, .string x.lb, .slice qa qn qc] by simp [Enc.fl, hc]] at this
        exact this
      obtain ⟨v5, w5, hr5, hs5, hch5, hob5⟩ := app_row (P := Tryz.prog) (tr := 22) (ns := [c]) i0 _ 48 Tryz.underlying22 hi0 hz0 hz1 hz2 rfl (by decide) ho4 hlit (by simp; omega) (by simp; omega)
      have kx2 : Kx [69] w3 w5 := (Kx.of_G hA).trans (Kx.own hch5 ho4 (by simp))
      have kx1 : Kx [69] wo w3 := Kx.of_G hg3
      have hB5 : Blk w5 gb 25 [.slice ra rn rc, .slice none 0 0] := (kx1.trans kx2).blk hB (by decide)
      obtain ⟨hf5, hg5⟩ := hof.app (hgw.trans (hg3.trans hA)) hch5 hob5
      obtain ⟨a5, c5, hv5⟩ := hs5.form
      generalize (rs ++ [c]).length = n5 at hv5
      subst hv5
      have kx3 : Kx [69, 25] w5 (w5.setCell ⟨gb, 0, none⟩ (.slice a5 n5 c5)) := Kx.set hB5 (by simp)
      have kx4 : Kx [69, 25] wo (w5.setCell ⟨gb, 0, none⟩ (.slice a5 n5 c5)) := ((kx1.trans kx2).mono (fun t q => by simp at q ⊢; omega)).trans kx3
      have kx5 : Kx [69, 25] w3 (w5.setCell ⟨gb, 0, none⟩ (.slice a5 n5 c5)) := (kx2.mono (fun t q => by simp at q ⊢; omega)).trans kx3
      have HNX : Hid (∀ (j : Nat) (c' : Raw dNo.s) (y : Nd), (rs ++ [c])[j]? = some c' → (ns.take (i + 1))[j]? = some y → dNo.r (w5.setCell ⟨gb, 0, none⟩ (.slice a5 n5 c5)) c'.1 y) := by
        rw [List.take_add_one, hx]
        refine nrow_step (fun j c' y e1 e2 => dNo.keep kx4 (by decide) (hrr j c' y e1 e2)) (by rw [hxl, List.length_take]; omega) ?_
        rw [hc]
        exact ⟨_, rfl, hn3.kx kx5 (by decide)⟩
      have HR5 := hide hr5
      have HF : Hid (Blk (w5.setCell ⟨gb, 0, none⟩ (.slice a5 n5 c5)) gb 25 [.slice a5 n5 c5, .slice none 0 0] ∧ Sw (eR dNo.s) 69 (w5.setCell ⟨gb, 0, none⟩ (.slice a5 n5 c5)) (.slice a5 n5 c5) (rs ++ [c]) ∧ Fresh w1 (.slice a5 n5 c5) ∧ G w1 (w5.setCell ⟨gb, 0, none⟩ (.slice a5 n5 c5)) ∧ (rs ++ [c]).length = i + 1 ∧ i < ns.length) :=
        ⟨hB5.set 0 _, hs5.kx (X := [25]) (Kx.set hB5 (by simp)) (by decide), hf5, hg5.setCell HGE.out _, by simp; exact hxl, hlt⟩
      have HWI : Hid (wrap64 ((i : Int) + 1) = ((i + 1 : Nat) : Int)) := by show _ = _; unfold wrap64; omega
      have HBA := hide (HB9.out.G hA)
      have HGA := hide (hgw.trans (hg3.trans hA))
      have HB5 := hide hB5
      have HG5 := hide hg5
      clear hg3 hn3 hgw hB ho hof hA ho4 hi0 hz0 hz1 hz2 hmx hxl hlt hrr hx hl9 hlit hr5 hs5 hch5 hob5 kx1 kx2 hB5 hf5 hg5 kx3 kx4 kx5 hc HX
      go_simp
      generalize w3.alloc (.cells #[I x.id, .string x.lb, .slice qa qn qc] 69) = w3a at HR5 HBA HGA ⊢
      refine hK.out _ _ (⟨HGA.out, HBA.out.cell⟩) (fun hHeld => ?_)
      clear hK K
      try simp only [Act.put, List.getElem_toArray, List.getElem_cons_zero, List.getElem_cons_succ, List.setIfInBounds_toArray, List.set_cons_zero, List.set_cons_succ]
      refine wpAnyL_one (i := 9) (by kernel_rfl) rfl (by kernel_rfl) (fun K hK => ?_)
      clear hHeld
      refine (if_pos rfl).mpr ?_
      refine wp_of_exec (exec_append _ _ 22 rfl (.slice ra rn rc) (.slice (some ⟨w3.heap.size, 0, none⟩) 1 1) rfl rfl 22 rfl HR5.out) ?_
      refine hK.out _ _ (⟨HG5.out, HB5.out.cell⟩) (fun hHeld => ?_)
      clear hK K
      try simp only [Act.put, List.getElem_toArray, List.getElem_cons_zero, List.getElem_cons_succ, List.setIfInBounds_toArray, List.set_cons_zero, List.set_cons_succ]
      refine wpAnyL_take (i := 10) (v := ?_) rfl (by kernel_rfl) (by kernel_rfl) (by kernel_rfl) (by kernel_rfl) (fun _ _ _ h => h) (Or.inl ⟨by rfl, ?_⟩) hHeld ?_
      rotate_left 1
      · (intro w hSw; (try dsimp only at hSw); go_simp; try with_reducible rfl)
      try simp only [Act.put, List.getElem_toArray, List.getElem_cons_zero, List.getElem_cons_succ, List.setIfInBounds_toArray, List.set_cons_zero, List.set_cons_succ]
      refine wpAnyL_last (by kernel_rfl) rfl (by kernel_rfl) (fun K hK => ?_)
      clear hHeld
      have hc7 := HB5.out.cell
      have hz7 := HB5.out.frozen
      go_simp
      refine hK.out _ _ ?_
      clear hK K
      refine NoPanic.normal ?_
      clear i2
      go_wp2_with fail
      try rw [HWI.out]
      obtain ⟨r1, r2, r3, r4, r5, r6⟩ := HF.out
      refine ⟨⟨i + 1, a5, n5, c5, rs ++ [c], rfl, r6, r1, r2, r3, r4, r5, HNX.out⟩, ?_⟩
      simp only [RowKit.intOf]; omega
    · have i2 : ¬ (i : Int) < ns.length := by omega
      have HP0 : Hid (Blk wo gb 25 [.slice ra rn rc, .slice none 0 0] ∧ G w1 wo ∧ NRow dNo 69 wo (.slice ra rn rc) ns) := ⟨hB, hg, rs, ho, by omega, fun j c y e1 e2 => hrr j c y e1 (by rw [List.take_of_length_le (by omega)]; exact e2)⟩
      clear hin hB ho hof hg hxl hrr hlt
      obtain ⟨hb9, hg9, hr9⟩ := HP0.out
      have HS := hide (And.intro hb9 (And.intro hg9 hr9))
      clear hb9 hg9 hr9 HP0
      go_wp2_with fail
      clear kb i2
      generalize ra = na at HS ⊢
      generalize rn = nn at HS ⊢
      generalize rc = nc at HS ⊢
      go_loopw [5] (fun iv wr => ∃ (i : Nat) (ra : Option Addr) (rn rc : Nat) (rs : List (Raw dEo.s)), iv = I i ∧ i ≤ es.length ∧ Blk wr gb 25 [.slice na nn nc, .slice ra rn rc] ∧ Sw (eR dEo.s) 72 wr (.slice ra rn rc) rs ∧ Fresh w1 (.slice ra rn rc) ∧ G w1 wr ∧ NRow dNo 69 wr (.slice na nn nc) ns ∧ rs.length = i ∧ ∀ (j : Nat) (c : Raw dEo.s) (y : Ed), rs[j]? = some c → (es.take i)[j]? = some y → dEo.r wr c.1 y) (fun iv _ => es.length - (RowKit.intOf iv).toNat)
      case atStart =>
        obtain ⟨q1, q2, q3⟩ := HS.out
        exact ⟨0, none, 0, 0, [], rfl, Nat.zero_le _, q1, Sw.nil _ _ _, Fresh.nil _, q2, q3, rfl, fun j c y e => by simp at e⟩
      case round =>
        obtain ⟨i, ra, rn, rc, rs, rfl, hin, hB, ho, hof, hg, hkn, hxl, hrr⟩ := hrel
        obtain ⟨wo, hwo⟩ : ∃ wo, wo = wr := ⟨_, rfl⟩
        subst hwo
        clear HS
        have kb := (HBX.out.G hg).cell
        by_cases hlt : i < es.length
        · have i2 : (i : Int) < es.length := by omega
          obtain ⟨x, hx⟩ : ∃ x, es[i]? = some x := ⟨_, List.getElem?_eq_getElem hlt⟩
          obtain ⟨g, o, c9, qq⟩ := HV.out.2.addr (by omega)
          injection qq with p1 p2 p3
          subst p1 p3
          obtain ⟨cs, ⟨vp, hcs, hvp⟩, hr1⟩ := HV.out.2.at hx
          subst hcs
          have KC : Hid (∀ w', G wo w' → _) := fun w' g' => cedge_any x vp w' ((hvp.G hg).G g') (HP.out.2 x (List.mem_of_getElem? hx))
          obtain ⟨pp, pc9, rfl⟩ := hvp.form
          have HSR : Hid (∀ V, G w1 V → V.cell? ⟨g, o + i * 5, none⟩ = some (I x.id) ∧ V.cell? ⟨g, o + i * 5 + 1, none⟩ = some (.string x.ty) ∧ V.cell? ⟨g, o + i * 5 + 2, none⟩ = some (I x.fr) ∧ V.cell? ⟨g, o + i * 5 + 3, none⟩ = some (I x.to) ∧ V.cell? ⟨g, o + i * 5 + 4, none⟩ = some (.slice pp x.ps.length pc9)) := fun V gV => ⟨rangeAt_G hr1 gV 0 _ rfl, rangeAt_G hr1 gV 1 _ rfl, rangeAt_G hr1 gV 2 _ rfl, rangeAt_G hr1 gV 3 _ rfl, rangeAt_G hr1 gV 4 _ rfl⟩
          have HC := hide (And.intro hg (And.intro hB (And.intro ho hof)))
          have HKN := hide hkn
          have HX := hide (And.intro hxl (And.intro hlt (And.intro hrr hx)))
          clear hin hB ho hof hg hkn hxl hrr hlt hx hvp hr1 p2
          go_wp2_with fail
          clear kb
          refine wp_region_noPanic ?_
          refine wp_region_L (S := (fun V => G w1 V ∧ ∀ o, V.cell? ⟨gb, o, none⟩ = ([.slice na nn nc, .slice ra rn rc] : List Value)[o]?)) 11 (by kernel_rfl) (⟨HC.out.1.drew, HC.out.2.1.drew.cell⟩) (fun hHeld => ?_)
          refine wpAnyL_take (i := 0) (v := ?_) rfl (by kernel_rfl) (by kernel_rfl) (by kernel_rfl) (by kernel_rfl) (fun _ _ _ h => h) (Or.inl ⟨by rfl, ?_⟩) hHeld ?_
          rotate_left 1
          · (intro w hSw; have q1 := hSw.2; have q2 := (HBX.out.G hSw.1).cell; obtain ⟨y0, y1, y2, y3, y4⟩ := HSR.out _ hSw.1; go_simp; try with_reducible rfl)
          try simp only [Act.put, List.getElem_toArray, List.getElem_cons_zero, List.setIfInBounds_toArray, List.set_cons_zero, List.set_cons_succ]
          refine wpAnyL_take (i := 1) (v := ?_) rfl (by kernel_rfl) (by kernel_rfl) (by kernel_rfl) (by kernel_rfl) (fun _ _ _ h => h) (Or.inl ⟨by rfl, ?_⟩) hHeld ?_
          rotate_left 1
          · (intro w hSw; have q1 := hSw.2; have q2 := (HBX.out.G hSw.1).cell; obtain ⟨y0, y1, y2, y3, y4⟩ := HSR.out _ hSw.1; go_simp; try with_reducible rfl)
          try simp only [Act.put, List.getElem_toArray, List.getElem_cons_zero, List.getElem_cons_succ, List.setIfInBounds_toArray, List.set_cons_zero, List.set_cons_succ]
          refine wpAnyL_take (i := 2) (v := ?_) rfl (by kernel_rfl) (by kernel_rfl) (by kernel_rfl) (by kernel_rfl) (fun _ _ _ h => h) (Or.inl ⟨by rfl, ?_⟩) hHeld ?_
          rotate_left 1
          · (intro w hSw; have q1 := hSw.2; have q2 := (HBX.out.G hSw.1).cell; obtain ⟨y0, y1, y2, y3, y4⟩ := HSR.out _ hSw.1; go_simp; try with_reducible rfl)
          try simp only [Act.put, List.getElem_toArray, List.getElem_cons_zero, List.getElem_cons_succ, List.setIfInBounds_toArray, List.set_cons_zero, List.set_cons_succ]
          refine wpAnyL_take (i := 3) (v := ?_) rfl (by kernel_rfl) (by kernel_rfl) (by kernel_rfl) (by kernel_rfl) (fun _ _ _ h => h) (Or.inl ⟨by rfl, ?_⟩) hHeld ?_
          rotate_left 1
          · (intro w hSw; have q1 := hSw.2; have q2 := (HBX.out.G hSw.1).cell; obtain ⟨y0, y1, y2, y3, y4⟩ := HSR.out _ hSw.1; go_simp; try with_reducible rfl)
          try simp only [Act.put, List.getElem_toArray, List.getElem_cons_zero, List.getElem_cons_succ, List.setIfInBounds_toArray, List.set_cons_zero, List.set_cons_succ]
          refine wpAnyL_take (i := 4) (v := ?_) rfl (by kernel_rfl) (by kernel_rfl) (by kernel_rfl) (by kernel_rfl) (fun _ _ _ h => h) (Or.inl ⟨by rfl, ?_⟩) hHeld ?_
          rotate_left 1
          · (intro w hSw; have q1 := hSw.2; have q2 := (HBX.out.G hSw.1).cell; obtain ⟨y0, y1, y2, y3, y4⟩ := HSR.out _ hSw.1; go_simp; try with_reducible rfl)
          try simp only [Act.put, List.getElem_toArray, List.getElem_cons_zero, List.getElem_cons_succ, List.setIfInBounds_toArray, List.set_cons_zero, List.set_cons_succ]
          refine wpAnyL_take (i := 5) (v := ?_) rfl (by kernel_rfl) (by kernel_rfl) (by kernel_rfl) (by kernel_rfl) (fun _ _ _ h => h) (Or.inl ⟨by rfl, ?_⟩) hHeld ?_
          rotate_left 1
          · (intro w hSw; have q1 := hSw.2; have q2 := (HBX.out.G hSw.1).cell; obtain ⟨y0, y1, y2, y3, y4⟩ := HSR.out _ hSw.1; go_simp; try with_reducible rfl)
          try simp only [Act.put, List.getElem_toArray, List.getElem_cons_zero, List.getElem_cons_succ, List.setIfInBounds_toArray, List.set_cons_zero, List.set_cons_succ]
          refine wpAnyL_take (i := 6) (v := ?_) rfl (by kernel_rfl) (by kernel_rfl) (by kernel_rfl) (by kernel_rfl) (fun _ _ _ h => h) (Or.inl ⟨by rfl, ?_⟩) hHeld ?_
          rotate_left 1
          · (intro w hSw; have q1 := hSw.2; have q2 := (HBX.out.G hSw.1).cell; obtain ⟨y0, y1, y2, y3, y4⟩ := HSR.out _ hSw.1; go_simp; try with_reducible rfl)
          try simp only [Act.put, List.getElem_toArray, List.getElem_cons_zero, List.getElem_cons_succ, List.setIfInBounds_toArray, List.set_cons_zero, List.set_cons_succ]
          refine wpAnyL_one (i := 7) (by kernel_rfl) rfl (by kernel_rfl) (fun K hK => ?_)
          clear hHeld
          refine (if_pos rfl).mpr ?_
          go_simp
          refine (KC.out _ ((G.refl wo).drew)).mono ?_
          rintro e w3 ⟨qa, qn, qc, rfl, hn3, hg3'⟩
          have hg3 : G wo w3 := ((G.refl wo).drew).trans hg3'
          have HB9 := hide (HC.out.2.1.G hg3)
          have H3 := hide (And.intro hg3 hn3)
          clear hg3 hg3' hn3 KC
          go_wp2_with fail
          refine hK.out _ _ (⟨HC.out.1.trans H3.out.1, HB9.out.cell⟩) (fun hHeld => ?_)
          clear hK K
          try simp only [Act.put, List.getElem_toArray, List.getElem_cons_zero, List.getElem_cons_succ, List.setIfInBounds_toArray, List.set_cons_zero, List.set_cons_succ]
          refine wpAnyL_one (i := 8) (by kernel_rfl) rfl (by kernel_rfl) (fun K hK => ?_)
          clear hHeld
          obtain ⟨hg3, hn3⟩ := H3.out
          obtain ⟨hgw, hB, ho, hof⟩ := HC.out
          have hA := (G.refl w3).alloc (.cells #[I x.id, .string x.ty, I x.fr, I x.to, .slice qa qn qc] 72)
          have ho4 := (ho.G hg3).G hA
          obtain ⟨i0, hi0, hz0, hz1, hz2⟩ := info_E
          have hmx : (1099511627777 : Nat) ≤ maxLen := of_decide_eq_true (by kernel_rfl)
          obtain ⟨hxl, hlt, hrr, hx⟩ := HX.out
          have hl9 := HL.out
          obtain ⟨c, hc⟩ : ∃ c : Raw dEo.s, c.1 = [I x.id, .string x.ty, I x.fr, I x.to, .slice qa qn qc] := ⟨⟨[I x.id, .string x.ty, I x.fr, I x.to, .slice qa qn qc], rfl, fun u hu => by simp at hu; rcases hu with rfl | rfl | rfl | rfl | rfl <;> rfl⟩, rfl⟩
          have hlit : Row (eR dEo.s).rel (w3.alloc (.cells #[I x.id, .string x.ty, I x.fr, I x.to, .slice qa qn qc] 72)) (.slice (some ⟨w3.heap.size, 0, none⟩) 1 1) [c] := by
            have := Row.lit (E := eR dEo.s) w3 72 [c] 1 (by simp)
            rw [show (eR dEo.s).fl [c] = [I x.id, .string x.ty, I x.fr, I x.to, .slice qa qn qc] by simp [Enc.fl, hc]] at this
            exact this
          obtain ⟨v5, w5, hr5, hs5, hch5, hob5⟩ := app_row (P := Tryz.prog) (tr := 23) (ns := [c]) i0 _ 64 Tryz.underlying23 hi0 hz0 hz1 hz2 rfl (by decide) ho4 hlit (by simp; omega) (by simp; omega)
          have kx2 : Kx [72] w3 w5 := (Kx.of_G hA).trans (Kx.own hch5 ho4 (by simp))
          have kx1 : Kx [72] wo w3 := Kx.of_G hg3
          have hB5 : Blk w5 gb 25 [.slice na nn nc, .slice ra rn rc] := (kx1.trans kx2).blk hB (by decide)
          obtain ⟨hf5, hg5⟩ := hof.app (hgw.trans (hg3.trans hA)) hch5 hob5
          obtain ⟨a5, c5, hv5⟩ := hs5.form
          generalize (rs ++ [c]).length = n5 at hv5
          subst hv5
          have kx3 : Kx [72, 25] w5 (w5.setCell ⟨gb, 1, none⟩ (.slice a5 n5 c5)) := Kx.set hB5 (by simp)
          have kx4 : Kx [72, 25] wo (w5.setCell ⟨gb, 1, none⟩ (.slice a5 n5 c5)) := ((kx1.trans kx2).mono (fun t q => by simp at q ⊢; omega)).trans kx3
          have kx5 : Kx [72, 25] w3 (w5.setCell ⟨gb, 1, none⟩ (.slice a5 n5 c5)) := (kx2.mono (fun t q => by simp at q ⊢; omega)).trans kx3
          have HNX : Hid (∀ (j : Nat) (c' : Raw dEo.s) (y : Ed), (rs ++ [c])[j]? = some c' → (es.take (i + 1))[j]? = some y → dEo.r (w5.setCell ⟨gb, 1, none⟩ (.slice a5 n5 c5)) c'.1 y) := by
            rw [List.take_add_one, hx]
            refine nrow_step (fun j c' y e1 e2 => dEo.keep kx4 (by decide) (hrr j c' y e1 e2)) (by rw [hxl, List.length_take]; omega) ?_
            rw [hc]
            exact ⟨_, rfl, hn3.kx kx5 (by decide)⟩
          have HR5 := hide hr5
          have HF : Hid (Blk (w5.setCell ⟨gb, 1, none⟩ (.slice a5 n5 c5)) gb 25 [.slice na nn nc, .slice a5 n5 c5] ∧ Sw (eR dEo.s) 72 (w5.setCell ⟨gb, 1, none⟩ (.slice a5 n5 c5)) (.slice a5 n5 c5) (rs ++ [c]) ∧ Fresh w1 (.slice a5 n5 c5) ∧ G w1 (w5.setCell ⟨gb, 1, none⟩ (.slice a5 n5 c5)) ∧ NRow dNo 69 (w5.setCell ⟨gb, 1, none⟩ (.slice a5 n5 c5)) (.slice na nn nc) ns ∧ (rs ++ [c]).length = i + 1 ∧ i < es.length) :=
            ⟨hB5.set 1 _, hs5.kx (X := [25]) (Kx.set hB5 (by simp)) (by decide), hf5, hg5.setCell HGE.out _, HKN.out.kx kx4 (by decide) (by decide), by simp; exact hxl, hlt⟩
          have HWI : Hid (wrap64 ((i : Int) + 1) = ((i + 1 : Nat) : Int)) := by show _ = _; unfold wrap64; omega
          have HBA := hide (HB9.out.G hA)
          have HGA := hide (hgw.trans (hg3.trans hA))
          have HB5 := hide hB5
          have HG5 := hide hg5
          clear hg3 hn3 hgw hB ho hof hA ho4 hi0 hz0 hz1 hz2 hmx hxl hlt hrr hx hl9 hlit hr5 hs5 hch5 hob5 kx1 kx2 hB5 hf5 hg5 kx3 kx4 kx5 hc HX
          go_simp
          generalize w3.alloc (.cells #[I x.id, .string x.ty, I x.fr, I x.to, .slice qa qn qc] 72) = w3a at HR5 HBA HGA ⊢
          refine hK.out _ _ (⟨HGA.out, HBA.out.cell⟩) (fun hHeld => ?_)
          clear hK K
          try simp only [Act.put, List.getElem_toArray, List.getElem_cons_zero, List.getElem_cons_succ, List.setIfInBounds_toArray, List.set_cons_zero, List.set_cons_succ]
          refine wpAnyL_one (i := 9) (by kernel_rfl) rfl (by kernel_rfl) (fun K hK => ?_)
          clear hHeld
          refine (if_pos rfl).mpr ?_
          refine wp_of_exec (exec_append _ _ 23 rfl (.slice ra rn rc) (.slice (some ⟨w3.heap.size, 0, none⟩) 1 1) rfl rfl 23 rfl HR5.out) ?_
          refine hK.out _ _ (⟨HG5.out, HB5.out.cell⟩) (fun hHeld => ?_)
          clear hK K
          try simp only [Act.put, List.getElem_toArray, List.getElem_cons_zero, List.getElem_cons_succ, List.setIfInBounds_toArray, List.set_cons_zero, List.set_cons_succ]
          refine wpAnyL_take (i := 10) (v := ?_) rfl (by kernel_rfl) (by kernel_rfl) (by kernel_rfl) (by kernel_rfl) (fun _ _ _ h => h) (Or.inl ⟨by rfl, ?_⟩) hHeld ?_
          rotate_left 1
          · (intro w hSw; (try dsimp only at hSw); go_simp; try with_reducible rfl)
          try simp only [Act.put, List.getElem_toArray, List.getElem_cons_zero, List.getElem_cons_succ, List.setIfInBounds_toArray, List.set_cons_zero, List.set_cons_succ]
          refine wpAnyL_last (by kernel_rfl) rfl (by kernel_rfl) (fun K hK => ?_)
          clear hHeld
          have hc7 := HB5.out.cell
          have hz7 := HB5.out.frozen
          go_simp
          refine hK.out _ _ ?_
          clear hK K
          refine NoPanic.normal ?_
          clear i2
          go_wp2_with fail
          try rw [HWI.out]
          obtain ⟨r1, r2, r3, r4, r4b, r5, r6⟩ := HF.out
          refine ⟨⟨i + 1, a5, n5, c5, rs ++ [c], rfl, r6, r1, r2, r3, r4, r4b, r5, HNX.out⟩, ?_⟩
          simp only [RowKit.intOf]; omega
        · have i2 : ¬ (i : Int) < es.length := by omega
          have HN0 := hide hkn
          have HP1 : Hid (Blk wo gb 25 [.slice na nn nc, .slice ra rn rc] ∧ G w1 wo ∧ NRow dEo 72 wo (.slice ra rn rc) es) := ⟨hB, hg, rs, ho, by omega, fun j c y e1 e2 => hrr j c y e1 (by rw [List.take_of_length_le (by omega)]; exact e2)⟩
          clear hin hB ho hof hg hkn hxl hrr hlt
          obtain ⟨hb9, hg9, hr9⟩ := HP1.out
          have hq9 := HRS.out.1.G hg9
          have c9 := hb9.cell
          have m9 := hq9.cell
          have z9 := hq9.frozen
          have HQ9 := hide hq9
          have HF : Hid (∀ u, Chg (fun k => k = W.heap.size + 1) wo u → NRow dNo 69 u (.slice na nn nc) ns ∧ NRow dEo 72 u (.slice ra rn rc) es ∧ G W u) := fun u hu => by
            have k1 : Kx [25] wo u := Kx.one hu HQ9.out (by simp)
            exact ⟨HN0.out.kx k1 (by decide) (by decide), hr9.kx k1 (by decide) (by decide), (HRS.out.2.trans hg9).far (hu.mono (fun k hk => by rw [hk]; exact Nat.le_succ _))⟩
          clear hb9 hg9 hr9 hq9 HP1
          go_wp2_with fail
          have hC9 := ((HQ9.out.set 0 (.slice na nn nc)).set 1 (.slice ra rn rc))
          have hF9 := HF.out _ ((chg_setCell (F := fun k => k = W.heap.size + 1) (b := W.heap.size + 1) (o := 0) _ (.slice na nn nc) (.inl rfl)).trans (chg_setCell (F := fun k => k = W.heap.size + 1) (b := W.heap.size + 1) (o := 1) _ (.slice ra rn rc) (.inl rfl)))
          exact bodyPost_ret_by (v := .agg #[.slice na nn nc, .slice ra rn rc]) (results_cell_row Tryz.results16 _ _ (W.heap.size + 1) 25 _ (0, 0) _ rfl hC9.h Tryz.underlying25 rfl (by kernel_rfl)) rfl ⟨na, nn, nc, ra, rn, rc, rfl, hF9.1, hF9.2.1, hF9.2.2⟩
end Go.Proofs.YtifioikdhfhljaaGreatDoor
