/- Graphs: a graph in memory as a view. -/
import Derived.Test.YtifioikdhfhljaaGreatDoorSm3
import Derived.Test.YtifioikdhfhljaaGreatDoorSm4
namespace Go.Proofs.YtifioikdhfhljaaGreatDoor
open Go.RowKit Go.Maps

theorem ed_ids (ns : List Nd) : (ns.map Nd.ed).map (fun y => y.id) = ns.map fun y => y.id := by rw [List.map_map]; rfl
/-- A list of ids of one's own, with a code. -/
def AnsI (W W' : World) (e : Ending) (r : Int × List Int) : Prop := ∃ ra rn rc, e = .returned (.tuple #[.slice ra rn rc, I r.1]) ∧ Sw eI 2 W' (.slice ra rn rc) r.2 ∧ Fresh W (.slice ra rn rc)
theorem AnsI.bad {W W' : World} (c : Int) : AnsI W W' (.returned (.tuple #[.slice none 0 0, I c])) (c, []) := ⟨none, 0, 0, rfl, Sw.nil _ _ _, Fresh.nil _⟩
abbrev aNodes (label : ByteArray) : As := ⟨1, 0, label, { data := #[] }, 0, 0, 0, { data := #[] }, 0, { data := #[] }, 0, 0⟩
abbrev aFind (label : ByteArray) (y : Pv) : As := ⟨2, 0, label, y.key, y.k, y.a, y.b, y.s, 0, { data := #[] }, 0, 0⟩
abbrev aId (what id : Int) : As := ⟨what, id, { data := #[] }, { data := #[] }, 0, 0, 0, { data := #[] }, 0, { data := #[] }, 0, 0⟩
noncomputable def nodesA (label : ByteArray) (ns : List Nd) : Int × List Int := if (!label.toList.isEmpty && !nameB label) = true then (73, []) else (0, ((ns.map Nd.ed).filter (viewB label)).map (·.id))
noncomputable def findA (label : ByteArray) (y : Pv) (ns : List Nd) : Int × List Int := if (!nameB label || !nameB y.key) = true then (73, []) else if okV y.k y.a y.b y.s = false then (16, []) else (0, ((ns.map Nd.ed).filter (findB label y)).map (·.id))
def fanA (f : Ed → Int) (id : Int) (ns : List Nd) (es : List Ed) : Int × List Int := if id ∈ ns.map (fun y => y.id) then (0, fanF f es id) else (70, [])
set_option maxRecDepth 100000 in
set_option maxHeartbeats 4000000 in
theorem nodes_any (lo mb : Nat) (ns : List Nd) (es : List Ed) (qv : Value) (qs : List As) (label : ByteArray) (W : World) (h : MemQ lo W mb ns es qv qs) (hq : qs.length ≤ 1000000000000) (hr : IdOk ns es) (hL : ns.length ≤ 1048576) :
    Calls Tryz.prog 51 #[ptr mb, .string label] W fun e W' => AnsI W W' e (nodesA label ns) ∧ ∃ qa qn qc, NtP lo W W' mb ns es qv (.slice qa qn qc) (qs ++ [aNodes label]) := by
  have hg1 : G W (W.alloc (.cells #[.string label] 9)) := (G.refl W).alloc _
  have hbx : Blk (W.alloc (.cells #[.string label] 9)) W.heap.size 9 [.string label] := Blk.new W [.string label] 9
  have h1 := h.G hg1
  have KN := hide (note_any lo mb ns es qv qs (aNodes label) _ h1 hq)
  have KM := hide (fun w : World => Name_any label w)
  have HH := hide h1; have HG1 := hide hg1; have HB := hide hbx; have HR := hide hr; have HL := hide hL
  have hcb := hbx.cell
  clear h hq hr hL hg1 hbx h1
  go_enter Tryz.func51, Tryz.ntmps51
  go_wp2_with fail
  refine KN.out.mono ?_
  rintro e w2 ⟨rfl, qa, qn, qc, hn⟩
  have hbx2 := HB.out.fx (hn.fx HH.out) (by decide)
  clear hcb
  have hcb := hbx2.cell
  obtain ⟨nid, eid, m1, m2, b1, b2, g1, g2, f1, f2, hm⟩ := hn.m.mem
  obtain ⟨na, nc, rfl⟩ := hm.nrow.form
  obtain ⟨ea, ec, rfl⟩ := hm.erow.form
  obtain ⟨nn, hnn⟩ : ∃ nn, nn = (ns.map fun y => y.id).length := ⟨_, rfl⟩
  obtain ⟨en, hen⟩ : ∃ en, en = (es.map fun y => y.id).length := ⟨_, rfl⟩
  rw [← hnn, ← hen] at hm
  have hmc := hm.blk.cell
  have hrow : Sw eI 2 w2 (.slice na nn nc) ((ns.map Nd.ed).map (·.id)) := by rw [ed_ids]; exact hm.nrow
  have KW := hide (whN_any W.heap.size (viewB label) (ns.map Nd.ed) 70 _ m1 lo g1 w2 hrow hm.ntb (fun x hx => by obtain ⟨y, hy, rfl⟩ := List.mem_map.1 hx; exact (HR.out.1 y hy).1) (by rw [List.length_map]; have := HL.out; omega) (fun x hx pa pn pc W' hg hrow => n1_any label W.heap.size x pa pn pc W' (hbx2.G hg)))
  have HN := hide (hn.from HG1.out)
  clear hn hm hrow hnn hen hbx2 KN HH
  cases he : label.toList.isEmpty with
  | true =>
    have HF : Hid (nodesA label ns = (0, ((ns.map Nd.ed).filter (viewB label)).map (·.id))) := by rw [Hid, nodesA, he]; rfl
    go_wp2_with fail
    refine KW.out.mono ?_
    rintro e w3 ⟨ra, rn, rc, rfl, hs, hf, hg⟩
    have HS : Hid (AnsI W w3 (.returned (.tuple #[.slice ra rn rc, I 0])) (nodesA label ns) ∧ ∃ qa qn qc, NtP lo W w3 mb ns es qv (.slice qa qn qc) (qs ++ [aNodes label])) := by
      rw [HF.out]
      have hx : Fresh W (.slice ra rn rc) := fun k e => Nat.le_trans HN.out.chg.size (hf k e)
      exact ⟨⟨ra, rn, rc, rfl, hs, hx⟩, _, _, _, HN.out.G hg⟩
    clear hs hf hg KW hmc hcb
    go_wp2_with fail
    go_ret2
    exact HS.out
  | false =>
    cases hm2 : nameB label with
    | true =>
      have HF : Hid (nodesA label ns = (0, ((ns.map Nd.ed).filter (viewB label)).map (·.id))) := by rw [Hid, nodesA, he, hm2]; rfl
      rw [hm2] at KM
      clear hm2
      go_wp2_with fail
      refine (KM.out _).mono ?_
      rintro e w3 ⟨rfl, h9⟩
      subst w3
      go_wp2_with fail
      refine KW.out.mono ?_
      rintro e w3 ⟨ra, rn, rc, rfl, hs, hf, hg⟩
      have HS : Hid (AnsI W w3 (.returned (.tuple #[.slice ra rn rc, I 0])) (nodesA label ns) ∧ ∃ qa qn qc, NtP lo W w3 mb ns es qv (.slice qa qn qc) (qs ++ [aNodes label])) := by
        rw [HF.out]
        have hx : Fresh W (.slice ra rn rc) := fun k e => Nat.le_trans HN.out.chg.size (hf k e)
        exact ⟨⟨ra, rn, rc, rfl, hs, hx⟩, _, _, _, HN.out.G hg⟩
      clear hs hf hg KW hmc hcb
      go_wp2_with fail
      go_ret2
      exact HS.out
    | false =>
      have HF : Hid (nodesA label ns = (73, [])) := by rw [Hid, nodesA, he, hm2]; rfl
      rw [hm2] at KM
      clear hm2
      go_wp2_with fail
      refine (KM.out _).mono ?_
      rintro e w3 ⟨rfl, h9⟩
      subst w3
      go_wp2_with fail
      go_ret2
      exact ⟨by rw [HF.out]; exact AnsI.bad 73, _, _, _, HN.out⟩
set_option maxRecDepth 100000 in
set_option maxHeartbeats 4000000 in
theorem find_any (lo mb : Nat) (ns : List Nd) (es : List Ed) (qv : Value) (qs : List As) (label : ByteArray) (y : Pv) (W0 W : World) (h : MemQ lo W mb ns es qv qs) (hq : qs.length ≤ 1000000000000) (hr : IdOk ns es) (hL : ns.length ≤ 1048576) (hp : ∀ x ∈ ns, x.ps.length ≤ 1048576) (hT : Tabs W0) (hg0 : G W0 W) (hlo : W0.heap.size ≤ lo) :
    Calls Tryz.prog 54 #[ptr mb, .string label, .string y.key, .agg #[I y.k, I y.a, I y.b, .string y.s]] W fun e W' => AnsI W W' e (findA label y ns) ∧ ∃ qa qn qc, NtP lo W W' mb ns es qv (.slice qa qn qc) (qs ++ [aFind label y]) := by
  obtain ⟨w1, hw1⟩ : ∃ w1, w1 = (((W.alloc (.cells #[.string label] 9)).alloc (.cells #[.string y.key] 9)).alloc (.cells #[I y.k, I y.a, I y.b, .string y.s] 41)) := ⟨_, rfl⟩
  obtain ⟨by2, heq2⟩ : ∃ by2, by2 = W.heap.size + 1 := ⟨_, rfl⟩
  obtain ⟨bz3, hb3⟩ : ∃ bz3, bz3 = W.heap.size + 1 + 1 := ⟨_, rfl⟩
  have hg1 : G W w1 := by rw [hw1]; exact (((G.refl W).alloc _).alloc _).alloc _
  have hbx : Blk w1 W.heap.size 9 [.string label] := by rw [hw1]; exact (Blk.new W [.string label] 9).G (((G.refl _).alloc _).alloc _)
  have hby : Blk w1 by2 9 [.string y.key] := by
    have := (Blk.new (W.alloc (.cells #[.string label] 9)) [.string y.key] 9).G ((G.refl _).alloc (.cells #[I y.k, I y.a, I y.b, .string y.s] 41))
    rw [hw1, heq2]
    simpa using this
  have hbz : Blk w1 bz3 41 [I y.k, I y.a, I y.b, .string y.s] := by
    have := Blk.new ((W.alloc (.cells #[.string label] 9)).alloc (.cells #[.string y.key] 9)) [I y.k, I y.a, I y.b, .string y.s] 41
    rw [hw1, hb3]
    simpa using this
  have h1 := h.G hg1
  have HEW : Hid ((((W.alloc (.cells #[.string label] 9)).alloc (.cells #[.string y.key] 9)).alloc (.cells #[I y.k, I y.a, I y.b, .string y.s] 41)) = w1) := hw1.symm
  have HE2 : Hid (W.heap.size + 1 = by2) := heq2.symm
  have HE3 : Hid (W.heap.size + 1 + 1 = bz3) := hb3.symm
  have HE4 : Hid (by2 + 1 = bz3) := by show _ = _; omega
  have KN := hide (note_any lo mb ns es qv qs (aFind label y) _ h1 hq)
  have KM := hide (fun w : World => Name_any label w)
  have KY := hide (fun w : World => Name_any y.key w)
  have HT : Hid (∀ w qv' qs', NtP lo w1 w mb ns es qv qv' qs' → Tabs w) := fun w qv' qs' hn => hT.G (hn.old h1 (hg0.trans hg1) hlo)
  have HH := hide h1; have HG1 := hide hg1; have HR := hide hr; have HL := hide hL; have HP := hide hp
  have HB := hide (And.intro hbx (And.intro hby hbz))
  have c1 := hbx.cell; have c2 := hby.cell; have c3 := hbz.cell
  clear h hq hr hL hp hg1 hbx hby hbz h1 hw1 heq2 hb3 hT hg0 hlo
  go_enter Tryz.func54, Tryz.ntmps54
  go_wp2_with (first | (rw [HEW.out]; (try rw [HE2.out]); (try rw [HE3.out]); (try rw [HE4.out]); clear HEW) | fail)
  try rw [HEW.out]
  try rw [HE2.out]
  try rw [HE3.out]
  try rw [HE4.out]
  refine KN.out.mono ?_
  rintro e w2 ⟨rfl, qa, qn, qc, hn⟩
  have hfx := hn.fx HH.out
  obtain ⟨hbx, hby, hbz⟩ := HB.out
  have hbx2 := hbx.fx hfx (by decide)
  have hby2 := hby.fx hfx (by decide)
  have hbz2 := hbz.fx hfx (by decide)
  have hT2 := HT.out _ _ _ hn
  clear c1 c2 c3 hfx hbx hby hbz
  have c1 := hbx2.cell; have c2 := hby2.cell; have c3 := hbz2.cell
  obtain ⟨nid, eid, m1, m2, b1, b2, g1, g2, f1, f2, hm⟩ := hn.m.mem
  obtain ⟨na, nc, rfl⟩ := hm.nrow.form
  obtain ⟨ea, ec, rfl⟩ := hm.erow.form
  obtain ⟨nn, hnn⟩ : ∃ nn, nn = (ns.map fun y => y.id).length := ⟨_, rfl⟩
  obtain ⟨en, hen⟩ : ∃ en, en = (es.map fun y => y.id).length := ⟨_, rfl⟩
  rw [← hnn, ← hen] at hm
  have hmc := hm.blk.cell
  have hrow : Sw eI 2 w2 (.slice na nn nc) ((ns.map Nd.ed).map (·.id)) := by rw [ed_ids]; exact hm.nrow
  have KV := hide (Valid_any y.k y.a y.b y.s w2 hT2)
  have KW : Hid (∀ w3, G w2 w3 → _) := fun w3 g3 => whF_any W.heap.size by2 bz3 (findB label y) (ns.map Nd.ed) 70 _ m1 lo g1 w3 (hrow.G g3) (hm.ntb.G g3) (fun x hx => by obtain ⟨y, hy, rfl⟩ := List.mem_map.1 hx; exact (HR.out.1 y hy).1) (by rw [List.length_map]; have := HL.out; omega) (fun x hx pa pn pc W' hg hrow => f1_any label y W.heap.size by2 bz3 x pa pn pc W' hrow (by obtain ⟨z, hz, rfl⟩ := List.mem_map.1 hx; have := HP.out z hz; show z.ps.length ≤ _; omega) ((hbx2.G g3).G hg) ((hby2.G g3).G hg) ((hbz2.G g3).G hg))
  have HMM := hide hm
  have HN := hide (hn.from HG1.out)
  have HC3 := hide hbz2
  clear hn hm hrow hnn hen hbx2 hby2 hbz2 hT2 KN HH HB HT
  cases he : nameB label with
  | false =>
    have HF : Hid (findA label y ns = (73, [])) := by rw [Hid, findA, he]; rfl
    rw [he] at KM
    clear he
    go_wp2_with fail
    refine (KM.out _).mono ?_
    rintro e w3 ⟨rfl, h9⟩
    subst w3
    go_wp2_with fail
    go_ret2
    exact ⟨by rw [HF.out]; exact AnsI.bad 73, _, _, _, HN.out⟩
  | true =>
    rw [he] at KM
    cases hk : nameB y.key with
    | false =>
      have HF : Hid (findA label y ns = (73, [])) := by rw [Hid, findA, he, hk]; rfl
      rw [hk] at KY
      clear he hk
      go_wp2_with fail
      refine (KM.out _).mono ?_
      rintro e w3 ⟨rfl, h9⟩
      subst w3
      go_wp2_with fail
      refine (KY.out _).mono ?_
      rintro e w3 ⟨rfl, h9⟩
      subst w3
      go_wp2_with fail
      go_ret2
      exact ⟨by rw [HF.out]; exact AnsI.bad 73, _, _, _, HN.out⟩
    | true =>
      rw [hk] at KY
      cases hv : okV y.k y.a y.b y.s with
      | false =>
        have HF : Hid (findA label y ns = (16, [])) := by rw [Hid, findA, he, hk, hv]; rfl
        rw [hv] at KV
        clear he hk hv
        go_wp2_with fail
        refine (KM.out _).mono ?_
        rintro e w3 ⟨rfl, h9⟩
        subst w3
        go_wp2_with fail
        refine (KY.out _).mono ?_
        rintro e w3 ⟨rfl, h9⟩
        subst w3
        go_wp2_with fail
        refine KV.out.mono ?_
        rintro e w3 ⟨rfl, hg3⟩
        have HN3 := hide (HN.out.G hg3)
        clear hg3 c1 c2 c3 hmc
        go_wp2_with fail
        go_ret2
        exact ⟨by rw [HF.out]; exact AnsI.bad 16, _, _, _, HN3.out⟩
      | true =>
        have HF : Hid (findA label y ns = (0, ((ns.map Nd.ed).filter (findB label y)).map (·.id))) := by rw [Hid, findA, he, hk, hv]; rfl
        rw [hv] at KV
        clear he hk hv
        go_wp2_with fail
        refine (KM.out _).mono ?_
        rintro e w3 ⟨rfl, h9⟩
        subst w3
        go_wp2_with fail
        refine (KY.out _).mono ?_
        rintro e w3 ⟨rfl, h9⟩
        subst w3
        go_wp2_with fail
        refine KV.out.mono ?_
        rintro e w3 ⟨rfl, hg3⟩
        have HG3 := hide hg3
        clear hg3 c1 c2 c3 hmc
        have hmc := (HMM.out.blk.G HG3.out).cell
        go_wp2_with fail
        refine (KW.out w3 HG3.out).mono ?_
        rintro e w4 ⟨ra, rn, rc, rfl, hs, hf, hg⟩
        have HS : Hid (AnsI W w4 (.returned (.tuple #[.slice ra rn rc, I 0])) (findA label y ns) ∧ ∃ qa qn qc, NtP lo W w4 mb ns es qv (.slice qa qn qc) (qs ++ [aFind label y])) := by
          rw [HF.out]
          have hx : Fresh W (.slice ra rn rc) := fun k e => Nat.le_trans (Nat.le_trans HN.out.chg.size HG3.out.size) (hf k e)
          exact ⟨⟨ra, rn, rc, rfl, hs, hx⟩, _, _, _, (HN.out.G HG3.out).G hg⟩
        clear hs hf hg KW hmc
        go_wp2_with fail
        go_ret2
        exact HS.out
set_option maxRecDepth 100000 in
set_option maxHeartbeats 4000000 in
theorem mout_any (lo mb : Nat) (ns : List Nd) (es : List Ed) (qv : Value) (qs : List As) (id : Int) (W : World) (h : MemQ lo W mb ns es qv qs) (hq : qs.length ≤ 1000000000000) (hid : R64 id) (hL : es.length ≤ 1048576) :
    Calls Tryz.prog 59 #[ptr mb, I id] W fun e W' => AnsI W W' e (fanA (fun y => y.fr) id ns es) ∧ ∃ qa qn qc, NtP lo W W' mb ns es qv (.slice qa qn qc) (qs ++ [aId 5 id]) := by
  have KN := hide (note_any lo mb ns es qv qs (aId 5 id) _ h hq)
  have HH := hide h; have HI := hide hid; have HL := hide hL
  clear h hq hid hL
  go_enter Tryz.func59, Tryz.ntmps59
  go_wp2_with fail
  refine KN.out.mono ?_
  rintro e w2 ⟨rfl, qa, qn, qc, hn⟩
  obtain ⟨nid, eid, m1, m2, b1, b2, g1, g2, f1, f2, hm⟩ := hn.m.mem
  obtain ⟨na, nc, rfl⟩ := hm.nrow.form
  obtain ⟨ea, ec, rfl⟩ := hm.erow.form
  obtain ⟨nn, hnn⟩ : ∃ nn, nn = (ns.map fun y => y.id).length := ⟨_, rfl⟩
  obtain ⟨en, hen⟩ : ∃ en, en = (es.map fun y => y.id).length := ⟨_, rfl⟩
  rw [← hnn, ← hen] at hm
  have hmc := hm.blk.cell
  have hgA : G w2 (w2.alloc (.cells #[I id] 2)) := (G.refl w2).alloc _
  have KL := hide (lacks_any (ns.map Nd.ed) 70 na nn nc m1 lo w2.heap.size g1 id _ (hm.ntb.G hgA) (Blk.new w2 [I id] 2) HI.out)
  rw [ed_ids] at KL
  have HGA := hide hgA
  have HMM := hide hm
  have HN := hide hn
  clear hn hm hnn hen hgA KN HH
  by_cases hin : id ∈ ns.map fun y => y.id
  · rw [if_pos hin] at KL
    have HF : Hid (fanA (fun y => y.fr) id ns es = (0, fanF (fun y => y.fr) es id)) := by rw [Hid, fanA, if_pos hin]
    clear hin
    go_wp2_with fail
    refine KL.out.mono ?_
    rintro e w3 ⟨rfl, hg3⟩
    have HG3 := hide (HGA.out.trans hg3)
    have hm3 := HMM.out.G HG3.out
    clear hg3 hmc KL
    have hmc := hm3.blk.cell
    obtain ⟨oa, oc, hov⟩ := (hm3.fan.s1.row id).form
    obtain ⟨on, hon⟩ : ∃ on, on = (fanF (fun y => y.fr) es id).length := ⟨_, rfl⟩
    have hlk := hm3.fan.s1.mp.look kyI Tryz.underlying79 (Tryz.zeroValue73 _) (kyI_ok.2 HI.out)
    rw [show (f1 id).getD (.slice none 0 0) = .slice oa on oc by rw [hon]; exact hov] at hlk
    have hrw : Sw eI 2 w3 (.slice oa on oc) (fanF (fun y => y.fr) es id) := by rw [hon, ← hov]; exact hm3.fan.s1.row id
    have KC := hide (cloneI_any _ _ w3 hrw.toRow (by have := fanF_len (fun y => y.fr) es id; have := HL.out; omega))
    clear hm3 hov hon hrw
    go_wp2_with fail
    refine KC.out.mono ?_
    rintro e w4 ⟨ra, rn, rc, rfl, hs, hf, hg⟩
    have HS : Hid (AnsI W w4 (.returned (.tuple #[.slice ra rn rc, I 0])) (fanA (fun y => y.fr) id ns es) ∧ ∃ qa qn qc, NtP lo W w4 mb ns es qv (.slice qa qn qc) (qs ++ [aId 5 id])) := by
      rw [HF.out]
      have hx : Fresh W (.slice ra rn rc) := fun k e => Nat.le_trans (Nat.le_trans HN.out.chg.size HG3.out.size) (hf k e)
      exact ⟨⟨ra, rn, rc, rfl, hs, hx⟩, _, _, _, (HN.out.G HG3.out).G hg⟩
    clear hs hf hg KC hlk hmc
    go_wp2_with fail
    go_ret2
    exact HS.out
  · rw [if_neg hin] at KL
    have HF : Hid (fanA (fun y => y.fr) id ns es = (70, [])) := by rw [Hid, fanA, if_neg hin]
    clear hin
    go_wp2_with fail
    refine KL.out.mono ?_
    rintro e w3 ⟨rfl, hg3⟩
    have HN3 := hide ((HN.out.G HGA.out).G hg3)
    clear hg3 hmc KL
    go_wp2_with fail
    go_ret2
    exact ⟨by rw [HF.out]; exact AnsI.bad 70, _, _, _, HN3.out⟩
set_option maxRecDepth 100000 in
set_option maxHeartbeats 4000000 in
theorem min_any (lo mb : Nat) (ns : List Nd) (es : List Ed) (qv : Value) (qs : List As) (id : Int) (W : World) (h : MemQ lo W mb ns es qv qs) (hq : qs.length ≤ 1000000000000) (hid : R64 id) (hL : es.length ≤ 1048576) :
    Calls Tryz.prog 61 #[ptr mb, I id] W fun e W' => AnsI W W' e (fanA (fun y => y.to) id ns es) ∧ ∃ qa qn qc, NtP lo W W' mb ns es qv (.slice qa qn qc) (qs ++ [aId 6 id]) := by
  have KN := hide (note_any lo mb ns es qv qs (aId 6 id) _ h hq)
  have HH := hide h; have HI := hide hid; have HL := hide hL
  clear h hq hid hL
  go_enter Tryz.func61, Tryz.ntmps61
  go_wp2_with fail
  refine KN.out.mono ?_
  rintro e w2 ⟨rfl, qa, qn, qc, hn⟩
  obtain ⟨nid, eid, m1, m2, b1, b2, g1, g2, f1, f2, hm⟩ := hn.m.mem
  obtain ⟨na, nc, rfl⟩ := hm.nrow.form
  obtain ⟨ea, ec, rfl⟩ := hm.erow.form
  obtain ⟨nn, hnn⟩ : ∃ nn, nn = (ns.map fun y => y.id).length := ⟨_, rfl⟩
  obtain ⟨en, hen⟩ : ∃ en, en = (es.map fun y => y.id).length := ⟨_, rfl⟩
  rw [← hnn, ← hen] at hm
  have hmc := hm.blk.cell
  have hgA : G w2 (w2.alloc (.cells #[I id] 2)) := (G.refl w2).alloc _
  have KL := hide (lacks_any (ns.map Nd.ed) 70 na nn nc m1 lo w2.heap.size g1 id _ (hm.ntb.G hgA) (Blk.new w2 [I id] 2) HI.out)
  rw [ed_ids] at KL
  have HGA := hide hgA
  have HMM := hide hm
  have HN := hide hn
  clear hn hm hnn hen hgA KN HH
  by_cases hin : id ∈ ns.map fun y => y.id
  · rw [if_pos hin] at KL
    have HF : Hid (fanA (fun y => y.to) id ns es = (0, fanF (fun y => y.to) es id)) := by rw [Hid, fanA, if_pos hin]
    clear hin
    go_wp2_with fail
    refine KL.out.mono ?_
    rintro e w3 ⟨rfl, hg3⟩
    have HG3 := hide (HGA.out.trans hg3)
    have hm3 := HMM.out.G HG3.out
    clear hg3 hmc KL
    have hmc := hm3.blk.cell
    obtain ⟨oa, oc, hov⟩ := (hm3.fan.s2.row id).form
    obtain ⟨on, hon⟩ : ∃ on, on = (fanF (fun y => y.to) es id).length := ⟨_, rfl⟩
    have hlk := hm3.fan.s2.mp.look kyI Tryz.underlying79 (Tryz.zeroValue73 _) (kyI_ok.2 HI.out)
    rw [show (f2 id).getD (.slice none 0 0) = .slice oa on oc by rw [hon]; exact hov] at hlk
    have hrw : Sw eI 2 w3 (.slice oa on oc) (fanF (fun y => y.to) es id) := by rw [hon, ← hov]; exact hm3.fan.s2.row id
    have KC := hide (cloneI_any _ _ w3 hrw.toRow (by have := fanF_len (fun y => y.to) es id; have := HL.out; omega))
    clear hm3 hov hon hrw
    go_wp2_with fail
    refine KC.out.mono ?_
    rintro e w4 ⟨ra, rn, rc, rfl, hs, hf, hg⟩
    have HS : Hid (AnsI W w4 (.returned (.tuple #[.slice ra rn rc, I 0])) (fanA (fun y => y.to) id ns es) ∧ ∃ qa qn qc, NtP lo W w4 mb ns es qv (.slice qa qn qc) (qs ++ [aId 6 id])) := by
      rw [HF.out]
      have hx : Fresh W (.slice ra rn rc) := fun k e => Nat.le_trans (Nat.le_trans HN.out.chg.size HG3.out.size) (hf k e)
      exact ⟨⟨ra, rn, rc, rfl, hs, hx⟩, _, _, _, (HN.out.G HG3.out).G hg⟩
    clear hs hf hg KC hlk hmc
    go_wp2_with fail
    go_ret2
    exact HS.out
  · rw [if_neg hin] at KL
    have HF : Hid (fanA (fun y => y.to) id ns es = (70, [])) := by rw [Hid, fanA, if_neg hin]
    clear hin
    go_wp2_with fail
    refine KL.out.mono ?_
    rintro e w3 ⟨rfl, hg3⟩
    have HN3 := hide ((HN.out.G HGA.out).G hg3)
    clear hg3 hmc KL
    go_wp2_with fail
    go_ret2
    exact ⟨by rw [HF.out]; exact AnsI.bad 70, _, _, _, HN3.out⟩
end Go.Proofs.YtifioikdhfhljaaGreatDoor
