/- Graphs: Node, Edge. -/
import Derived.Test.YtifioikdhfhljaaGreatDoorSm5
namespace Go.Proofs.YtifioikdhfhljaaGreatDoor
open Go.RowKit Go.Maps

theorem MemQ.fx {lo : Nat} {w w' : World} {mb : Nat} {ns : List Nd} {es : List Ed} {qv : Value} {qs : List As} {X : List Nat} (h : MemQ lo w mb ns es qv qs) (k : Fx X [] w w') (h1 : 2 ∉ X) (h2 : 101 ∉ X) (h3 : 81 ∉ X) (h4 : 49 ∉ X) : MemQ lo w' mb ns es qv qs := by
  obtain ⟨nid, eid, m1, m2, b1, b2, g1, g2, f1, f2, hm⟩ := h.mem
  exact ⟨⟨nid, eid, m1, m2, b1, b2, g1, g2, f1, f2, hm.fxq k h1 h2 (hm.blk.fx k h3)⟩, h.row.fx k h4, h.qlo⟩
theorem NtP.far {lo : Nat} {W w w' : World} {mb : Nat} {ns : List Nd} {es : List Ed} {qv qv' : Value} {qs : List As} {X : List Nat} (h : NtP lo W w mb ns es qv qv' qs) (k : Fx X [] w w') (h1 : 2 ∉ X) (h2 : 101 ∉ X) (h3 : 81 ∉ X) (h4 : 49 ∉ X) (c : Chg (fun j => W.heap.size ≤ j) w w') : NtP lo W w' mb ns es qv qv' qs :=
  ⟨h.m.fx k h1 h2 h3 h4, h.chg.more c (fun i hi q => by omega), h.own⟩
/-- What it answers. -/
def AnsN (W' : World) (e : Ending) (id : Int) (l : List Nd) : Prop := (id ∉ (l.map fun y => y.id) ∧ e = .returned (.tuple #[.agg #[I 0, .string { data := #[] }, .slice none 0 0], I 70])) ∨ ∃ x ∈ l, x.id = id ∧ ∃ va vn vc, e = .returned (.tuple #[.agg #[I x.id, .string x.lb, .slice va vn vc], I 0]) ∧ Sw eP 101 W' (.slice va vn vc) x.ps
theorem retN (tmps : Array Value) (W : World) (rb : Nat) (cs : List Value) (c : Int) (hp : tmps.getD 4 undef = .pointer (some ⟨rb, 0, none⟩)) (hc : tmps.getD 5 undef = I c) (hr : Blk W rb 69 cs) (hl : cs.length = 3) :
    (results Tryz.f56 tmps).run Tryz.prog W = .ok (.tuple #[.agg cs.toArray, I c]) W := by
  rw [results_cell_tmp Tryz.results56, hp, hc]
  have h := run_loadVar_mid (P := Tryz.prog) W rb 0 69 cs _ (by have := hr.range 0 3; rw [List.drop_zero, List.take_of_length_le (by omega)] at this; exact this) Tryz.underlying69 rfl (by rw [hl]; kernel_rfl)
  simp only [asAddr, Sem.run_pure, Result.andThen_ok, h]
set_option maxRecDepth 100000 in
set_option maxHeartbeats 4000000 in
theorem mnode_any (lo mb : Nat) (ns : List Nd) (es : List Ed) (qv : Value) (qs : List As) (id : Int) (W : World) (h : MemQ lo W mb ns es qv qs) (hq : qs.length ≤ 1000000000000) (hid : R64 id) (hp : ∀ x ∈ ns, x.ps.length ≤ 1048576) :
    Calls Tryz.prog 56 #[ptr mb, I id] W fun e W' => AnsN W' e id ns ∧ ∃ qa qn qc, NtP lo W W' mb ns es qv (.slice qa qn qc) (qs ++ [aId 3 id]) := by
  obtain ⟨rb, hrb⟩ : ∃ rb, rb = W.heap.size := ⟨_, rfl⟩
  obtain ⟨w1, hw1⟩ : ∃ w1, w1 = (W.alloc (.cells #[I 0, .string { data := #[] }, .slice none 0 0] 69)) := ⟨_, rfl⟩
  have hg1 : G W w1 := by rw [hw1]; exact (G.refl W).alloc _
  have hbx : Blk w1 rb 69 [I 0, .string { data := #[] }, .slice none 0 0] := by rw [hw1, hrb]; exact Blk.new W [I 0, .string { data := #[] }, .slice none 0 0] 69
  have h1 := h.G hg1
  have KN := hide (note_any lo mb ns es qv qs (aId 3 id) _ h1 hq)
  have HEW : Hid ((W.alloc (.cells #[I 0, .string { data := #[] }, .slice none 0 0] 69)) = w1) := hw1.symm
  have HE1 : Hid (W.heap.size = rb) := hrb.symm
  have HRB : Hid (W.heap.size ≤ rb) := by show _ ≤ _; omega
  have HH := hide h1; have HG1 := hide hg1; have HB := hide hbx; have HI := hide hid; have HP := hide hp
  clear h hq hid hp hg1 hbx h1 hw1 hrb
  go_enter Tryz.func56, Tryz.ntmps56
  go_wp2_with (first | (rw [HEW.out]; (try rw [HE1.out]); clear HEW) | fail)
  try rw [HEW.out]
  try rw [HE1.out]
  refine KN.out.mono ?_
  rintro e w2 ⟨rfl, qa, qn, qc, hn⟩
  have hbx2 := HB.out.fx (hn.fx HH.out) (by decide)
  obtain ⟨nid, eid, m1, m2, b1, b2, g1, g2, f1, f2, hm⟩ := hn.m.mem
  obtain ⟨na, nc, rfl⟩ := hm.nrow.form
  obtain ⟨ea, ec, rfl⟩ := hm.erow.form
  obtain ⟨nn, hnn⟩ : ∃ nn, nn = (ns.map fun y => y.id).length := ⟨_, rfl⟩
  obtain ⟨en, hen⟩ : ∃ en, en = (es.map fun y => y.id).length := ⟨_, rfl⟩
  rw [← hnn, ← hen] at hm
  have hmc := hm.blk.cell
  have hgA : G w2 (w2.alloc (.cells #[I id] 2)) := (G.refl w2).alloc _
  have KL := hide (lacks_any (ns.map Nd.ed) 70 na nn nc m1 lo w2.heap.size g1 id _ (hm.ntb.G hgA) (Blk.new w2 [I id] 2) HI.out)
  rw [ed_ids] at KL
  have HGA := hide hgA
  have HMM := hide hm
  have HN := hide (hn.from HG1.out)
  have HB2 := hide hbx2
  clear hn hm hnn hen hgA hbx2 KN HH HB
  by_cases hin : id ∈ ns.map fun y => y.id
  · rw [if_pos hin] at KL
    obtain ⟨x, hx, hxi⟩ := List.mem_map.1 hin
    have HX := hide (And.intro hx hxi)
    clear hin
    go_wp2_with fail
    refine KL.out.mono ?_
    rintro e w3 ⟨rfl, hg3⟩
    have HG3 := hide (HGA.out.trans hg3)
    have hm3 := HMM.out.G HG3.out
    clear hg3 hmc KL
    have hmc := hm3.blk.cell
    obtain ⟨u, hu, vv, rfl, hsv, hlv⟩ := hm3.ntb.th x.ed (List.mem_map.2 ⟨x, hx, rfl⟩)
    obtain ⟨pa, pc, rfl⟩ := hsv.form
    obtain ⟨pn, hpn⟩ : ∃ pn, pn = x.ps.length := ⟨_, rfl⟩
    have hlk := hm3.ntb.mp.look kyI Tryz.underlying74 (Tryz.zeroValue83 _) (kyI_ok.2 HI.out)
    have hu2 : g1 id = some (.agg #[.string x.lb, I 0, I 0, .slice pa pn pc]) := by rw [← hxi, hpn]; exact hu
    rw [hu2, Option.getD_some] at hlk
    have hsv2 : Sw eP 101 w3 (.slice pa pn pc) x.ps := by rw [hpn]; exact hsv
    have KC := hide (tnode_any x.ed _ w3 hsv2.toRow (by have := HP.out x hx; show x.ps.length ≤ _; omega))
    have KC : Hid (Calls Tryz.prog 45 #[.agg #[.string x.lb, I 0, I 0, .slice pa pn pc], I id] w3 fun e W' => ∃ va vn vc, e = .returned (.agg #[I x.id, .string x.lb, .slice va vn vc]) ∧ Sw eP 101 W' (.slice va vn vc) x.ps ∧ Fresh w3 (.slice va vn vc) ∧ G w3 W') := by
      have := KC.out
      rw [← hxi]
      exact this
    clear hm3 hu hsv hlv hu2 hsv2 hpn hx hxi
    go_wp2_with fail
    refine KC.out.mono ?_
    rintro e w4 ⟨va, vn, vc, rfl, hs, -, hg4⟩
    have hb4 := (HB2.out.G HG3.out).G hg4
    have hc4 := hb4.cell
    have hz4 := hb4.frozen
    have hfx : Fx [69] [] w4 (((w4.setCell ⟨rb, 0, none⟩ (I x.id)).setCell ⟨rb, 1, none⟩ (.string x.lb)).setCell ⟨rb, 2, none⟩ (.slice va vn vc)) := (((Fx.set (X := [69]) (M := []) hb4 (by simp) (o := 0) (v := I x.id)).trans (Fx.set (X := [69]) (M := []) (hb4.set 0 (I x.id)) (by simp) (o := 1) (v := .string x.lb))).trans (Fx.set (X := [69]) (M := []) ((hb4.set 0 (I x.id)).set 1 (.string x.lb)) (by simp) (o := 2) (v := .slice va vn vc)))
    have hch : Chg (fun k => k = rb) w4 (((w4.setCell ⟨rb, 0, none⟩ (I x.id)).setCell ⟨rb, 1, none⟩ (.string x.lb)).setCell ⟨rb, 2, none⟩ (.slice va vn vc)) := (((chg_setCell (F := fun k => k = rb) (b := rb) (o := 0) w4 (I x.id) (.inl rfl)).trans (chg_setCell (F := fun k => k = rb) (b := rb) (o := 1) _ (.string x.lb) (.inl rfl))).trans (chg_setCell (F := fun k => k = rb) (b := rb) (o := 2) _ (.slice va vn vc) (.inl rfl)))
    have HS : Hid (Sw eP 101 (((w4.setCell ⟨rb, 0, none⟩ (I x.id)).setCell ⟨rb, 1, none⟩ (.string x.lb)).setCell ⟨rb, 2, none⟩ (.slice va vn vc)) (.slice va vn vc) x.ps ∧ ∃ qa qn qc, NtP lo W (((w4.setCell ⟨rb, 0, none⟩ (I x.id)).setCell ⟨rb, 1, none⟩ (.string x.lb)).setCell ⟨rb, 2, none⟩ (.slice va vn vc)) mb ns es qv (.slice qa qn qc) (qs ++ [aId 3 id])) := by
      refine ⟨hs.fx hfx (by decide), _, _, _, (((HN.out.G HG3.out).G hg4).far hfx (by decide) (by decide) (by decide) (by decide) (hch.mono fun k e => by rw [e]; exact HRB.out))⟩
    have hC9 := (((hb4.set 0 (I x.id)).set 1 (.string x.lb)).set 2 (.slice va vn vc))
    have HC9 := hide hC9
    clear hs hg4 hb4 hfx hch hC9 KC hlk hmc
    go_wp2_with fail
    exact bodyPost_ret_by (v := .tuple #[.agg #[I x.id, .string x.lb, .slice va vn vc], I 0]) (retN _ _ rb _ 0 rfl rfl HC9.out rfl) rfl ⟨.inr ⟨x, HX.out.1, HX.out.2, va, vn, vc, rfl, HS.out.1⟩, HS.out.2⟩
  · rw [if_neg hin] at KL
    have HX := hide hin
    clear hin
    go_wp2_with fail
    refine KL.out.mono ?_
    rintro e w3 ⟨rfl, hg3⟩
    have hb4 := (HB2.out.G HGA.out).G hg3
    have hc4 := hb4.cell
    have hz4 := hb4.frozen
    have hfx : Fx [69] [] w3 (((w3.setCell ⟨rb, 0, none⟩ (I 0)).setCell ⟨rb, 1, none⟩ (.string { data := #[] })).setCell ⟨rb, 2, none⟩ (.slice none 0 0)) := (((Fx.set (X := [69]) (M := []) hb4 (by simp) (o := 0) (v := I 0)).trans (Fx.set (X := [69]) (M := []) (hb4.set 0 (I 0)) (by simp) (o := 1) (v := .string { data := #[] }))).trans (Fx.set (X := [69]) (M := []) ((hb4.set 0 (I 0)).set 1 (.string { data := #[] })) (by simp) (o := 2) (v := .slice none 0 0)))
    have hch : Chg (fun k => k = rb) w3 (((w3.setCell ⟨rb, 0, none⟩ (I 0)).setCell ⟨rb, 1, none⟩ (.string { data := #[] })).setCell ⟨rb, 2, none⟩ (.slice none 0 0)) := (((chg_setCell (F := fun k => k = rb) (b := rb) (o := 0) w3 (I 0) (.inl rfl)).trans (chg_setCell (F := fun k => k = rb) (b := rb) (o := 1) _ (.string { data := #[] }) (.inl rfl))).trans (chg_setCell (F := fun k => k = rb) (b := rb) (o := 2) _ (.slice none 0 0) (.inl rfl)))
    have HS : Hid (∃ qa qn qc, NtP lo W (((w3.setCell ⟨rb, 0, none⟩ (I 0)).setCell ⟨rb, 1, none⟩ (.string { data := #[] })).setCell ⟨rb, 2, none⟩ (.slice none 0 0)) mb ns es qv (.slice qa qn qc) (qs ++ [aId 3 id])) :=
      ⟨_, _, _, (((HN.out.G HGA.out).G hg3).far hfx (by decide) (by decide) (by decide) (by decide) (hch.mono fun k e => by rw [e]; exact HRB.out))⟩
    have hC9 := (((hb4.set 0 (I 0)).set 1 (.string { data := #[] })).set 2 (.slice none 0 0))
    have HC9 := hide hC9
    clear hg3 hb4 hfx hch hC9 KL hmc
    go_wp2_with fail
    exact bodyPost_ret_by (v := .tuple #[.agg #[I 0, .string { data := #[] }, .slice none 0 0], I 70]) (retN _ _ rb _ 70 rfl rfl HC9.out rfl) rfl ⟨.inl ⟨HX.out, rfl⟩, HS.out⟩
/-- What it answers. -/
def AnsE (W' : World) (e : Ending) (id : Int) (l : List Ed) : Prop := (id ∉ (l.map fun y => y.id) ∧ e = .returned (.tuple #[.agg #[I 0, .string { data := #[] }, I 0, I 0, .slice none 0 0], I 71])) ∨ ∃ x ∈ l, x.id = id ∧ ∃ va vn vc, e = .returned (.tuple #[.agg #[I x.id, .string x.ty, I x.fr, I x.to, .slice va vn vc], I 0]) ∧ Sw eP 101 W' (.slice va vn vc) x.ps
theorem retE (tmps : Array Value) (W : World) (rb : Nat) (cs : List Value) (c : Int) (hp : tmps.getD 4 undef = .pointer (some ⟨rb, 0, none⟩)) (hc : tmps.getD 5 undef = I c) (hr : Blk W rb 72 cs) (hl : cs.length = 5) :
    (results Tryz.f57 tmps).run Tryz.prog W = .ok (.tuple #[.agg cs.toArray, I c]) W := by
  rw [results_cell_tmp Tryz.results57, hp, hc]
  have h := run_loadVar_mid (P := Tryz.prog) W rb 0 72 cs _ (by have := hr.range 0 5; rw [List.drop_zero, List.take_of_length_le (by omega)] at this; exact this) Tryz.underlying72 rfl (by rw [hl]; kernel_rfl)
  simp only [asAddr, Sem.run_pure, Result.andThen_ok, h]
set_option maxRecDepth 100000 in
set_option maxHeartbeats 4000000 in
theorem medge_any (lo mb : Nat) (ns : List Nd) (es : List Ed) (qv : Value) (qs : List As) (id : Int) (W : World) (h : MemQ lo W mb ns es qv qs) (hq : qs.length ≤ 1000000000000) (hid : R64 id) (hp : ∀ x ∈ es, x.ps.length ≤ 1048576) :
    Calls Tryz.prog 57 #[ptr mb, I id] W fun e W' => AnsE W' e id es ∧ ∃ qa qn qc, NtP lo W W' mb ns es qv (.slice qa qn qc) (qs ++ [aId 4 id]) := by
  obtain ⟨rb, hrb⟩ : ∃ rb, rb = W.heap.size := ⟨_, rfl⟩
  obtain ⟨w1, hw1⟩ : ∃ w1, w1 = (W.alloc (.cells #[I 0, .string { data := #[] }, I 0, I 0, .slice none 0 0] 72)) := ⟨_, rfl⟩
  have hg1 : G W w1 := by rw [hw1]; exact (G.refl W).alloc _
  have hbx : Blk w1 rb 72 [I 0, .string { data := #[] }, I 0, I 0, .slice none 0 0] := by rw [hw1, hrb]; exact Blk.new W [I 0, .string { data := #[] }, I 0, I 0, .slice none 0 0] 72
  have h1 := h.G hg1
  have KN := hide (note_any lo mb ns es qv qs (aId 4 id) _ h1 hq)
  have HEW : Hid ((W.alloc (.cells #[I 0, .string { data := #[] }, I 0, I 0, .slice none 0 0] 72)) = w1) := hw1.symm
  have HE1 : Hid (W.heap.size = rb) := hrb.symm
  have HRB : Hid (W.heap.size ≤ rb) := by show _ ≤ _; omega
  have HH := hide h1; have HG1 := hide hg1; have HB := hide hbx; have HI := hide hid; have HP := hide hp
  clear h hq hid hp hg1 hbx h1 hw1 hrb
  go_enter Tryz.func57, Tryz.ntmps57
  go_wp2_with (first | (rw [HEW.out]; (try rw [HE1.out]); clear HEW) | fail)
  try rw [HEW.out]
  try rw [HE1.out]
  refine KN.out.mono ?_
  rintro e w2 ⟨rfl, qa, qn, qc, hn⟩
  have hbx2 := HB.out.fx (hn.fx HH.out) (by decide)
  obtain ⟨nid, eid, m1, m2, b1, b2, g1, g2, f1, f2, hm⟩ := hn.m.mem
  obtain ⟨na, nc, rfl⟩ := hm.nrow.form
  obtain ⟨ea, ec, rfl⟩ := hm.erow.form
  obtain ⟨nn, hnn⟩ : ∃ nn, nn = (ns.map fun y => y.id).length := ⟨_, rfl⟩
  obtain ⟨en, hen⟩ : ∃ en, en = (es.map fun y => y.id).length := ⟨_, rfl⟩
  rw [← hnn, ← hen] at hm
  have hmc := hm.blk.cell
  have hgA : G w2 (w2.alloc (.cells #[I id] 2)) := (G.refl w2).alloc _
  have KL := hide (lacks_any es 71 ea en ec m2 lo w2.heap.size g2 id _ (hm.etb.G hgA) (Blk.new w2 [I id] 2) HI.out)
  skip
  have HGA := hide hgA
  have HMM := hide hm
  have HN := hide (hn.from HG1.out)
  have HB2 := hide hbx2
  clear hn hm hnn hen hgA hbx2 KN HH HB
  by_cases hin : id ∈ es.map fun y => y.id
  · rw [if_pos hin] at KL
    obtain ⟨x, hx, hxi⟩ := List.mem_map.1 hin
    have HX := hide (And.intro hx hxi)
    clear hin
    go_wp2_with fail
    refine KL.out.mono ?_
    rintro e w3 ⟨rfl, hg3⟩
    have HG3 := hide (HGA.out.trans hg3)
    have hm3 := HMM.out.G HG3.out
    clear hg3 hmc KL
    have hmc := hm3.blk.cell
    obtain ⟨u, hu, vv, rfl, hsv, hlv⟩ := hm3.etb.th x hx
    obtain ⟨pa, pc, rfl⟩ := hsv.form
    obtain ⟨pn, hpn⟩ : ∃ pn, pn = x.ps.length := ⟨_, rfl⟩
    have hlk := hm3.etb.mp.look kyI Tryz.underlying74 (Tryz.zeroValue83 _) (kyI_ok.2 HI.out)
    have hu2 : g2 id = some (.agg #[.string x.ty, I x.fr, I x.to, .slice pa pn pc]) := by rw [← hxi, hpn]; exact hu
    rw [hu2, Option.getD_some] at hlk
    have hsv2 : Sw eP 101 w3 (.slice pa pn pc) x.ps := by rw [hpn]; exact hsv
    have KC := hide (tedge_any x _ w3 hsv2.toRow (by have := HP.out x hx; show x.ps.length ≤ _; omega))
    have KC : Hid (Calls Tryz.prog 48 #[.agg #[.string x.ty, I x.fr, I x.to, .slice pa pn pc], I id] w3 fun e W' => ∃ va vn vc, e = .returned (.agg #[I x.id, .string x.ty, I x.fr, I x.to, .slice va vn vc]) ∧ Sw eP 101 W' (.slice va vn vc) x.ps ∧ Fresh w3 (.slice va vn vc) ∧ G w3 W') := by
      have := KC.out
      rw [← hxi]
      exact this
    clear hm3 hu hsv hlv hu2 hsv2 hpn hx hxi
    go_wp2_with fail
    refine KC.out.mono ?_
    rintro e w4 ⟨va, vn, vc, rfl, hs, -, hg4⟩
    have hb4 := (HB2.out.G HG3.out).G hg4
    have hc4 := hb4.cell
    have hz4 := hb4.frozen
    have hfx : Fx [72] [] w4 (((((w4.setCell ⟨rb, 0, none⟩ (I x.id)).setCell ⟨rb, 1, none⟩ (.string x.ty)).setCell ⟨rb, 2, none⟩ (I x.fr)).setCell ⟨rb, 3, none⟩ (I x.to)).setCell ⟨rb, 4, none⟩ (.slice va vn vc)) := (((((Fx.set (X := [72]) (M := []) hb4 (by simp) (o := 0) (v := I x.id)).trans (Fx.set (X := [72]) (M := []) (hb4.set 0 (I x.id)) (by simp) (o := 1) (v := .string x.ty))).trans (Fx.set (X := [72]) (M := []) ((hb4.set 0 (I x.id)).set 1 (.string x.ty)) (by simp) (o := 2) (v := I x.fr))).trans (Fx.set (X := [72]) (M := []) (((hb4.set 0 (I x.id)).set 1 (.string x.ty)).set 2 (I x.fr)) (by simp) (o := 3) (v := I x.to))).trans (Fx.set (X := [72]) (M := []) ((((hb4.set 0 (I x.id)).set 1 (.string x.ty)).set 2 (I x.fr)).set 3 (I x.to)) (by simp) (o := 4) (v := .slice va vn vc)))
    have hch : Chg (fun k => k = rb) w4 (((((w4.setCell ⟨rb, 0, none⟩ (I x.id)).setCell ⟨rb, 1, none⟩ (.string x.ty)).setCell ⟨rb, 2, none⟩ (I x.fr)).setCell ⟨rb, 3, none⟩ (I x.to)).setCell ⟨rb, 4, none⟩ (.slice va vn vc)) := (((((chg_setCell (F := fun k => k = rb) (b := rb) (o := 0) w4 (I x.id) (.inl rfl)).trans (chg_setCell (F := fun k => k = rb) (b := rb) (o := 1) _ (.string x.ty) (.inl rfl))).trans (chg_setCell (F := fun k => k = rb) (b := rb) (o := 2) _ (I x.fr) (.inl rfl))).trans (chg_setCell (F := fun k => k = rb) (b := rb) (o := 3) _ (I x.to) (.inl rfl))).trans (chg_setCell (F := fun k => k = rb) (b := rb) (o := 4) _ (.slice va vn vc) (.inl rfl)))
    have HS : Hid (Sw eP 101 (((((w4.setCell ⟨rb, 0, none⟩ (I x.id)).setCell ⟨rb, 1, none⟩ (.string x.ty)).setCell ⟨rb, 2, none⟩ (I x.fr)).setCell ⟨rb, 3, none⟩ (I x.to)).setCell ⟨rb, 4, none⟩ (.slice va vn vc)) (.slice va vn vc) x.ps ∧ ∃ qa qn qc, NtP lo W (((((w4.setCell ⟨rb, 0, none⟩ (I x.id)).setCell ⟨rb, 1, none⟩ (.string x.ty)).setCell ⟨rb, 2, none⟩ (I x.fr)).setCell ⟨rb, 3, none⟩ (I x.to)).setCell ⟨rb, 4, none⟩ (.slice va vn vc)) mb ns es qv (.slice qa qn qc) (qs ++ [aId 4 id])) := by
      refine ⟨hs.fx hfx (by decide), _, _, _, (((HN.out.G HG3.out).G hg4).far hfx (by decide) (by decide) (by decide) (by decide) (hch.mono fun k e => by rw [e]; exact HRB.out))⟩
    have hC9 := (((((hb4.set 0 (I x.id)).set 1 (.string x.ty)).set 2 (I x.fr)).set 3 (I x.to)).set 4 (.slice va vn vc))
    have HC9 := hide hC9
    clear hs hg4 hb4 hfx hch hC9 KC hlk hmc
    go_wp2_with fail
    exact bodyPost_ret_by (v := .tuple #[.agg #[I x.id, .string x.ty, I x.fr, I x.to, .slice va vn vc], I 0]) (retE _ _ rb _ 0 rfl rfl HC9.out rfl) rfl ⟨.inr ⟨x, HX.out.1, HX.out.2, va, vn, vc, rfl, HS.out.1⟩, HS.out.2⟩
  · rw [if_neg hin] at KL
    have HX := hide hin
    clear hin
    go_wp2_with fail
    refine KL.out.mono ?_
    rintro e w3 ⟨rfl, hg3⟩
    have hb4 := (HB2.out.G HGA.out).G hg3
    have hc4 := hb4.cell
    have hz4 := hb4.frozen
    have hfx : Fx [72] [] w3 (((((w3.setCell ⟨rb, 0, none⟩ (I 0)).setCell ⟨rb, 1, none⟩ (.string { data := #[] })).setCell ⟨rb, 2, none⟩ (I 0)).setCell ⟨rb, 3, none⟩ (I 0)).setCell ⟨rb, 4, none⟩ (.slice none 0 0)) := (((((Fx.set (X := [72]) (M := []) hb4 (by simp) (o := 0) (v := I 0)).trans (Fx.set (X := [72]) (M := []) (hb4.set 0 (I 0)) (by simp) (o := 1) (v := .string { data := #[] }))).trans (Fx.set (X := [72]) (M := []) ((hb4.set 0 (I 0)).set 1 (.string { data := #[] })) (by simp) (o := 2) (v := I 0))).trans (Fx.set (X := [72]) (M := []) (((hb4.set 0 (I 0)).set 1 (.string { data := #[] })).set 2 (I 0)) (by simp) (o := 3) (v := I 0))).trans (Fx.set (X := [72]) (M := []) ((((hb4.set 0 (I 0)).set 1 (.string { data := #[] })).set 2 (I 0)).set 3 (I 0)) (by simp) (o := 4) (v := .slice none 0 0)))
    have hch : Chg (fun k => k = rb) w3 (((((w3.setCell ⟨rb, 0, none⟩ (I 0)).setCell ⟨rb, 1, none⟩ (.string { data := #[] })).setCell ⟨rb, 2, none⟩ (I 0)).setCell ⟨rb, 3, none⟩ (I 0)).setCell ⟨rb, 4, none⟩ (.slice none 0 0)) := (((((chg_setCell (F := fun k => k = rb) (b := rb) (o := 0) w3 (I 0) (.inl rfl)).trans (chg_setCell (F := fun k => k = rb) (b := rb) (o := 1) _ (.string { data := #[] }) (.inl rfl))).trans (chg_setCell (F := fun k => k = rb) (b := rb) (o := 2) _ (I 0) (.inl rfl))).trans (chg_setCell (F := fun k => k = rb) (b := rb) (o := 3) _ (I 0) (.inl rfl))).trans (chg_setCell (F := fun k => k = rb) (b := rb) (o := 4) _ (.slice none 0 0) (.inl rfl)))
    have HS : Hid (∃ qa qn qc, NtP lo W (((((w3.setCell ⟨rb, 0, none⟩ (I 0)).setCell ⟨rb, 1, none⟩ (.string { data := #[] })).setCell ⟨rb, 2, none⟩ (I 0)).setCell ⟨rb, 3, none⟩ (I 0)).setCell ⟨rb, 4, none⟩ (.slice none 0 0)) mb ns es qv (.slice qa qn qc) (qs ++ [aId 4 id])) :=
      ⟨_, _, _, (((HN.out.G HGA.out).G hg3).far hfx (by decide) (by decide) (by decide) (by decide) (hch.mono fun k e => by rw [e]; exact HRB.out))⟩
    have hC9 := (((((hb4.set 0 (I 0)).set 1 (.string { data := #[] })).set 2 (I 0)).set 3 (I 0)).set 4 (.slice none 0 0))
    have HC9 := hide hC9
    clear hg3 hb4 hfx hch hC9 KL hmc
    go_wp2_with fail
    exact bodyPost_ret_by (v := .tuple #[.agg #[I 0, .string { data := #[] }, I 0, I 0, .slice none 0 0], I 71]) (retE _ _ rb _ 71 rfl rfl HC9.out rfl) rfl ⟨.inl ⟨HX.out, rfl⟩, HS.out⟩
end Go.Proofs.YtifioikdhfhljaaGreatDoor
