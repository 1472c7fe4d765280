/- Graphs: the law's steps over a graph in memory. -/
import Derived.Test.YtifioikdhfhljaaGreatDoorSm7
import Derived.Test.YtifioikdhfhljaaGreatDoorSm8
import Derived.Test.YtifioikdhfhljaaGreatDoorSh12
namespace Go.Proofs.YtifioikdhfhljaaGreatDoor
open Go.RowKit Go.Maps

/-- A step of the law's script. -/
structure St where
  d : Int
  id : Int
  tt : Int
  name : ByteArray
  key : ByteArray
  k : Int
  a : Int
  b : Int
  s : ByteArray
  flag : Bool
  n : Int
  lv : Int
  lb : ByteArray
  rid : Int
  md : Int
theorem same_id {l : List Nd} (hs : (l.map fun y => y.id).Pairwise (· < ·)) {i : Nat} {x : Nd} (hx : x ∈ l) (hi : (l.map fun y => y.id)[i]? = some x.id) : l[i]? = some x := by
  obtain ⟨j, hj, e⟩ := List.getElem_of_mem hx
  have h1 : (l.map fun y => y.id)[j]? = some x.id := by rw [List.getElem?_map, List.getElem?_eq_getElem hj, e]; rfl
  rcases Nat.lt_trichotomy i j with q | q | q
  · have := rises_at hs hi h1 q; omega
  · subst q; rw [List.getElem?_eq_getElem hj, e]
  · have := rises_at hs h1 hi q; omega
theorem same_ide {l : List Ed} (hs : (l.map fun y => y.id).Pairwise (· < ·)) {i : Nat} {x : Ed} (hx : x ∈ l) (hi : (l.map fun y => y.id)[i]? = some x.id) : l[i]? = some x := by
  obtain ⟨j, hj, e⟩ := List.getElem_of_mem hx
  have h1 : (l.map fun y => y.id)[j]? = some x.id := by rw [List.getElem?_map, List.getElem?_eq_getElem hj, e]; rfl
  rcases Nat.lt_trichotomy i j with q | q | q
  · have := rises_at hs hi h1 q; omega
  · subst q; rw [List.getElem?_eq_getElem hj, e]
  · have := rises_at hs h1 hi q; omega
/-- What all steps know. -/
structure Kn (lo : Nat) (W0 W : World) (ns : List Nd) (es : List Ed) (nv ev : Value) (qs : List As) : Prop where
  n : Row relN W0 nv ns
  e : Row relE W0 ev es
  g : Go.Proofs.YtifioikdhfhljaaGreatDoor.G W0 W
  lo : W0.heap.size ≤ lo
  sm : SmB ns es
  ok : IdOk ns es
  rn : (ns.map fun y => y.id).Pairwise (· < ·)
  re : (es.map fun y => y.id).Pairwise (· < ·)
  t : Tabs W0
  q : qs.length ≤ 1000000000000
theorem nodesA_len (label : ByteArray) (ns : List Nd) : (nodesA label ns).2.length ≤ ns.length := by
  unfold nodesA
  split
  · exact Nat.zero_le _
  · show (List.map _ _).length ≤ _
    rw [List.length_map]
    have := List.length_filter_le (viewB label) (ns.map Nd.ed)
    rw [List.length_map] at this
    exact this
theorem findA_len (label : ByteArray) (y : Pv) (ns : List Nd) : (findA label y ns).2.length ≤ ns.length := by
  unfold findA
  split
  · exact Nat.zero_le _
  · split
    · exact Nat.zero_le _
    · show (List.map _ _).length ≤ _
      rw [List.length_map]
      have := List.length_filter_le (findB label y) (ns.map Nd.ed)
      rw [List.length_map] at this
      exact this
theorem fanA_len (f : Ed → Int) (id : Int) (ns : List Nd) (es : List Ed) : (fanA f id ns es).2.length ≤ es.length := by
  unfold fanA
  split
  · exact fanF_len f es id
  · exact Nat.zero_le _
set_option maxRecDepth 100000 in
set_option maxHeartbeats 4000000 in
theorem smNodes (lo mb : Nat) (ns : List Nd) (es : List Ed) (qv : Value) (qs : List As) (na : Option Addr) (nn nc : Nat) (ea : Option Addr) (en ec : Nat) (x : St) (pa : Option Addr) (pn pc : Nat) (W0 W : World) (h : MemQ lo W mb ns es qv qs) (hk : Kn lo W0 W ns es (.slice na nn nc) (.slice ea en ec) qs) :
    Calls Tryz.prog 17 #[ptr mb, .agg #[.slice na nn nc, .slice ea en ec], .agg #[I 10, I x.id, I x.tt, .string x.name, .string x.key, I x.k, I x.a, I x.b, .string x.s, .slice pa pn pc, .bool x.flag, I x.n, I x.lv, .string x.lb, I x.rid, I x.md]] W fun e W' => e = .returned (.bool true) ∧ ∃ qa qn qc, NtP lo W W' mb ns es qv (.slice qa qn qc) (qs ++ [aNodes x.name]) := by
  obtain ⟨B4, hB4⟩ : ∃ B4, B4 = W.heap.size := ⟨_, rfl⟩
  obtain ⟨B5, hB5⟩ : ∃ B5, B5 = B4 + 1 := ⟨_, rfl⟩
  obtain ⟨w2, hw2⟩ : ∃ w2, w2 = ((W.alloc (.cells #[.slice na nn nc, .slice ea en ec] 25)).alloc (.cells #[I 10, I x.id, I x.tt, .string x.name, .string x.key, I x.k, I x.a, I x.b, .string x.s, .slice pa pn pc, .bool x.flag, I x.n, I x.lv, .string x.lb, I x.rid, I x.md] 46)) := ⟨_, rfl⟩
  have hgw : G W w2 := by rw [hw2]; exact ((G.refl W).alloc _).alloc _
  have hb4 : Blk w2 B4 25 [.slice na nn nc, .slice ea en ec] := by rw [hw2, hB4]; exact (Blk.new W [.slice na nn nc, .slice ea en ec] 25).G ((G.refl _).alloc _)
  have hb5 : Blk w2 B5 46 [I 10, I x.id, I x.tt, .string x.name, .string x.key, I x.k, I x.a, I x.b, .string x.s, .slice pa pn pc, .bool x.flag, I x.n, I x.lv, .string x.lb, I x.rid, I x.md] := by
    have := Blk.new (W.alloc (.cells #[.slice na nn nc, .slice ea en ec] 25)) [I 10, I x.id, I x.tt, .string x.name, .string x.key, I x.k, I x.a, I x.b, .string x.s, .slice pa pn pc, .bool x.flag, I x.n, I x.lv, .string x.lb, I x.rid, I x.md] 46
    rw [hw2, hB5, hB4]
    simpa using this
  have h2 := h.G hgw
  have HEW : Hid (((W.alloc (.cells #[.slice na nn nc, .slice ea en ec] 25)).alloc (.cells #[I 10, I x.id, I x.tt, .string x.name, .string x.key, I x.k, I x.a, I x.b, .string x.s, .slice pa pn pc, .bool x.flag, I x.n, I x.lv, .string x.lb, I x.rid, I x.md] 46)) = w2) := hw2.symm
  have HE4 : Hid (W.heap.size = B4) := hB4.symm
  have HE5 : Hid (B4 + 1 = B5) := hB5.symm
  have HB := hide (And.intro hb4 hb5); have HH := hide h2; have HK := hide hk; have HGW := hide hgw
  have c4 := hb4.cell
  have c5 := hb5.cell
  have KP := hide (nodes_any lo mb ns es qv qs x.name w2 h2 hk.q hk.ok hk.sm.n)
  clear h h2 hk hgw hb4 hb5 hw2 hB4 hB5
  go_enter Tryz.func17, Tryz.ntmps17
  go_wp2_with (first | (rw [HEW.out]; (try rw [HE4.out]); (try rw [HE5.out]); clear HEW) | fail)
  try rw [HEW.out]
  try rw [HE4.out]
  try rw [HE5.out]
  refine KP.out.mono ?_
  rintro e w3 ⟨⟨ra, rn, rc, rfl, hs3, hf3⟩, qa, qn, qc, hn⟩
  have hfx := hn.fx HH.out
  have hg3 := hn.old HH.out (HK.out.g.trans HGW.out) HK.out.lo
  have hb43 := HB.out.1.fx hfx (by decide)
  have hb53 := HB.out.2.fx hfx (by decide)
  clear c4 c5
  have c4 := hb43.cell
  have c5 := hb53.cell
  have HN := hide (hn.from HGW.out)
  have HB3 := hide (And.intro hb43 hb53)
  have HR := hide (And.intro (HK.out.n.G hg3) (HK.out.e.G hg3))
  have KD := hide (nodesOf_any ns es _ _ x.name w3 HR.out.1 HR.out.2 ⟨HK.out.sm.n, HK.out.sm.e⟩)
  have HS3 := hide hs3
  obtain ⟨cc, hcc⟩ : ∃ cc, cc = (nodesA x.name ns).1 := ⟨_, rfl⟩
  rw [← hcc]
  have HCC : Hid ((nodesA x.name ns).1 = cc) := hcc.symm
  have HLN : Hid ((nodesA x.name ns).2.length ≤ 1048576) := Nat.le_trans (nodesA_len _ _) HK.out.sm.n
  clear hn hfx hg3 hb43 hb53 hs3 hf3 KP hcc
  go_wp2_with fail
  refine KD.out.mono ?_
  rintro e w4 ⟨⟨sa, sn, sc, rfl, hs4, hf4⟩, hg4⟩
  rw [HCC.out]
  have KI := hide (sids_any _ _ _ w4 (HS3.out.G hg4).toRow hs4.toRow (by have := HLN.out; omega))
  have HN4 := hide (HN.out.G hg4)
  clear hs4 hf4 hg4 KD c4 c5 HCC HLN HS3
  go_wp2_with fail
  refine KI.out.mono ?_
  rintro e w5 ⟨rfl, hg5⟩
  have HN5 := hide (HN4.out.G hg5)
  clear hg5 KI
  go_wp2_with fail
  go_ret
  exact ⟨rfl, _, _, _, HN5.out⟩
set_option maxRecDepth 100000 in
set_option maxHeartbeats 4000000 in
theorem smFind (lo mb : Nat) (ns : List Nd) (es : List Ed) (qv : Value) (qs : List As) (na : Option Addr) (nn nc : Nat) (ea : Option Addr) (en ec : Nat) (x : St) (pa : Option Addr) (pn pc : Nat) (W0 W : World) (h : MemQ lo W mb ns es qv qs) (hk : Kn lo W0 W ns es (.slice na nn nc) (.slice ea en ec) qs) (hy : x.s.size ≤ 4611686018427387904) :
    Calls Tryz.prog 17 #[ptr mb, .agg #[.slice na nn nc, .slice ea en ec], .agg #[I 11, I x.id, I x.tt, .string x.name, .string x.key, I x.k, I x.a, I x.b, .string x.s, .slice pa pn pc, .bool x.flag, I x.n, I x.lv, .string x.lb, I x.rid, I x.md]] W fun e W' => e = .returned (.bool true) ∧ ∃ qa qn qc, NtP lo W W' mb ns es qv (.slice qa qn qc) (qs ++ [aFind x.name ⟨x.key, x.k, x.a, x.b, x.s⟩]) := by
  obtain ⟨B4, hB4⟩ : ∃ B4, B4 = W.heap.size := ⟨_, rfl⟩
  obtain ⟨B5, hB5⟩ : ∃ B5, B5 = B4 + 1 := ⟨_, rfl⟩
  obtain ⟨w2, hw2⟩ : ∃ w2, w2 = ((W.alloc (.cells #[.slice na nn nc, .slice ea en ec] 25)).alloc (.cells #[I 11, I x.id, I x.tt, .string x.name, .string x.key, I x.k, I x.a, I x.b, .string x.s, .slice pa pn pc, .bool x.flag, I x.n, I x.lv, .string x.lb, I x.rid, I x.md] 46)) := ⟨_, rfl⟩
  have hgw : G W w2 := by rw [hw2]; exact ((G.refl W).alloc _).alloc _
  have hb4 : Blk w2 B4 25 [.slice na nn nc, .slice ea en ec] := by rw [hw2, hB4]; exact (Blk.new W [.slice na nn nc, .slice ea en ec] 25).G ((G.refl _).alloc _)
  have hb5 : Blk w2 B5 46 [I 11, I x.id, I x.tt, .string x.name, .string x.key, I x.k, I x.a, I x.b, .string x.s, .slice pa pn pc, .bool x.flag, I x.n, I x.lv, .string x.lb, I x.rid, I x.md] := by
    have := Blk.new (W.alloc (.cells #[.slice na nn nc, .slice ea en ec] 25)) [I 11, I x.id, I x.tt, .string x.name, .string x.key, I x.k, I x.a, I x.b, .string x.s, .slice pa pn pc, .bool x.flag, I x.n, I x.lv, .string x.lb, I x.rid, I x.md] 46
    rw [hw2, hB5, hB4]
    simpa using this
  have h2 := h.G hgw
  have HEW : Hid (((W.alloc (.cells #[.slice na nn nc, .slice ea en ec] 25)).alloc (.cells #[I 11, I x.id, I x.tt, .string x.name, .string x.key, I x.k, I x.a, I x.b, .string x.s, .slice pa pn pc, .bool x.flag, I x.n, I x.lv, .string x.lb, I x.rid, I x.md] 46)) = w2) := hw2.symm
  have HE4 : Hid (W.heap.size = B4) := hB4.symm
  have HE5 : Hid (B4 + 1 = B5) := hB5.symm
  have HB := hide (And.intro hb4 hb5); have HH := hide h2; have HK := hide hk; have HGW := hide hgw
  have c4 := hb4.cell
  have c5 := hb5.cell
  have HY := hide hy
  clear hy
  have KP := hide (find_any lo mb ns es qv qs x.name ⟨x.key, x.k, x.a, x.b, x.s⟩ W0 w2 h2 hk.q hk.ok hk.sm.n hk.sm.p hk.t (hk.g.trans hgw) hk.lo)
  clear h h2 hk hgw hb4 hb5 hw2 hB4 hB5
  go_enter Tryz.func17, Tryz.ntmps17
  go_wp2_with (first | (rw [HEW.out]; (try rw [HE4.out]); (try rw [HE5.out]); clear HEW) | fail)
  try rw [HEW.out]
  try rw [HE4.out]
  try rw [HE5.out]
  refine KP.out.mono ?_
  rintro e w3 ⟨⟨ra, rn, rc, rfl, hs3, hf3⟩, qa, qn, qc, hn⟩
  have hfx := hn.fx HH.out
  have hg3 := hn.old HH.out (HK.out.g.trans HGW.out) HK.out.lo
  have hb43 := HB.out.1.fx hfx (by decide)
  have hb53 := HB.out.2.fx hfx (by decide)
  clear c4 c5
  have c4 := hb43.cell
  have c5 := hb53.cell
  have HN := hide (hn.from HGW.out)
  have HB3 := hide (And.intro hb43 hb53)
  have HR := hide (And.intro (HK.out.n.G hg3) (HK.out.e.G hg3))
  have KD := hide (findIn_any ns es _ _ x.name ⟨x.key, x.k, x.a, x.b, x.s⟩ w3 HR.out.1 HR.out.2 ⟨HK.out.sm.n, HK.out.sm.e⟩ (fun z hz => by have := HK.out.sm.p z hz; omega) HY.out)
  have HS3 := hide hs3
  obtain ⟨cc, hcc⟩ : ∃ cc, cc = (findA x.name ⟨x.key, x.k, x.a, x.b, x.s⟩ ns).1 := ⟨_, rfl⟩
  rw [← hcc]
  have HCC : Hid ((findA x.name ⟨x.key, x.k, x.a, x.b, x.s⟩ ns).1 = cc) := hcc.symm
  have HLN : Hid ((findA x.name ⟨x.key, x.k, x.a, x.b, x.s⟩ ns).2.length ≤ 1048576) := Nat.le_trans (findA_len _ _ _) HK.out.sm.n
  clear hn hfx hg3 hb43 hb53 hs3 hf3 KP hcc
  go_wp2_with fail
  refine KD.out.mono ?_
  rintro e w4 ⟨⟨sa, sn, sc, rfl, hs4, hf4⟩, hg4⟩
  rw [HCC.out]
  have KI := hide (sids_any _ _ _ w4 (HS3.out.G hg4).toRow hs4.toRow (by have := HLN.out; omega))
  have HN4 := hide (HN.out.G hg4)
  clear hs4 hf4 hg4 KD c4 c5 HCC HLN HS3
  go_wp2_with fail
  refine KI.out.mono ?_
  rintro e w5 ⟨rfl, hg5⟩
  have HN5 := hide (HN4.out.G hg5)
  clear hg5 KI
  go_wp2_with fail
  go_ret
  exact ⟨rfl, _, _, _, HN5.out⟩
set_option maxRecDepth 100000 in
set_option maxHeartbeats 4000000 in
theorem smOut (lo mb : Nat) (ns : List Nd) (es : List Ed) (qv : Value) (qs : List As) (na : Option Addr) (nn nc : Nat) (ea : Option Addr) (en ec : Nat) (x : St) (pa : Option Addr) (pn pc : Nat) (W0 W : World) (h : MemQ lo W mb ns es qv qs) (hk : Kn lo W0 W ns es (.slice na nn nc) (.slice ea en ec) qs) (hid : R64 x.id) :
    Calls Tryz.prog 17 #[ptr mb, .agg #[.slice na nn nc, .slice ea en ec], .agg #[I 14, I x.id, I x.tt, .string x.name, .string x.key, I x.k, I x.a, I x.b, .string x.s, .slice pa pn pc, .bool x.flag, I x.n, I x.lv, .string x.lb, I x.rid, I x.md]] W fun e W' => e = .returned (.bool true) ∧ ∃ qa qn qc, NtP lo W W' mb ns es qv (.slice qa qn qc) (qs ++ [aId 5 x.id]) := by
  obtain ⟨B4, hB4⟩ : ∃ B4, B4 = W.heap.size := ⟨_, rfl⟩
  obtain ⟨B5, hB5⟩ : ∃ B5, B5 = B4 + 1 := ⟨_, rfl⟩
  obtain ⟨w2, hw2⟩ : ∃ w2, w2 = ((W.alloc (.cells #[.slice na nn nc, .slice ea en ec] 25)).alloc (.cells #[I 14, I x.id, I x.tt, .string x.name, .string x.key, I x.k, I x.a, I x.b, .string x.s, .slice pa pn pc, .bool x.flag, I x.n, I x.lv, .string x.lb, I x.rid, I x.md] 46)) := ⟨_, rfl⟩
  have hgw : G W w2 := by rw [hw2]; exact ((G.refl W).alloc _).alloc _
  have hb4 : Blk w2 B4 25 [.slice na nn nc, .slice ea en ec] := by rw [hw2, hB4]; exact (Blk.new W [.slice na nn nc, .slice ea en ec] 25).G ((G.refl _).alloc _)
  have hb5 : Blk w2 B5 46 [I 14, I x.id, I x.tt, .string x.name, .string x.key, I x.k, I x.a, I x.b, .string x.s, .slice pa pn pc, .bool x.flag, I x.n, I x.lv, .string x.lb, I x.rid, I x.md] := by
    have := Blk.new (W.alloc (.cells #[.slice na nn nc, .slice ea en ec] 25)) [I 14, I x.id, I x.tt, .string x.name, .string x.key, I x.k, I x.a, I x.b, .string x.s, .slice pa pn pc, .bool x.flag, I x.n, I x.lv, .string x.lb, I x.rid, I x.md] 46
    rw [hw2, hB5, hB4]
    simpa using this
  have h2 := h.G hgw
  have HEW : Hid (((W.alloc (.cells #[.slice na nn nc, .slice ea en ec] 25)).alloc (.cells #[I 14, I x.id, I x.tt, .string x.name, .string x.key, I x.k, I x.a, I x.b, .string x.s, .slice pa pn pc, .bool x.flag, I x.n, I x.lv, .string x.lb, I x.rid, I x.md] 46)) = w2) := hw2.symm
  have HE4 : Hid (W.heap.size = B4) := hB4.symm
  have HE5 : Hid (B4 + 1 = B5) := hB5.symm
  have HB := hide (And.intro hb4 hb5); have HH := hide h2; have HK := hide hk; have HGW := hide hgw
  have c4 := hb4.cell
  have c5 := hb5.cell
  have KP := hide (mout_any lo mb ns es qv qs x.id w2 h2 hk.q hid hk.sm.e)
  clear hid h h2 hk hgw hb4 hb5 hw2 hB4 hB5
  go_enter Tryz.func17, Tryz.ntmps17
  go_wp2_with (first | (rw [HEW.out]; (try rw [HE4.out]); (try rw [HE5.out]); clear HEW) | fail)
  try rw [HEW.out]
  try rw [HE4.out]
  try rw [HE5.out]
  refine KP.out.mono ?_
  rintro e w3 ⟨⟨ra, rn, rc, rfl, hs3, hf3⟩, qa, qn, qc, hn⟩
  have hfx := hn.fx HH.out
  have hg3 := hn.old HH.out (HK.out.g.trans HGW.out) HK.out.lo
  have hb43 := HB.out.1.fx hfx (by decide)
  have hb53 := HB.out.2.fx hfx (by decide)
  clear c4 c5
  have c4 := hb43.cell
  have c5 := hb53.cell
  have HN := hide (hn.from HGW.out)
  have HB3 := hide (And.intro hb43 hb53)
  have HR := hide (And.intro (HK.out.n.G hg3) (HK.out.e.G hg3))
  have KD := hide (outOf_any ns es _ _ x.id w3 HR.out.1 HR.out.2 ⟨HK.out.sm.n, HK.out.sm.e⟩ HK.out.rn)
  have HS3 := hide hs3
  obtain ⟨cc, hcc⟩ : ∃ cc, cc = (fanA (fun y => y.fr) x.id ns es).1 := ⟨_, rfl⟩
  rw [← hcc]
  have HCC : Hid ((fanA (fun y => y.fr) x.id ns es).1 = cc) := hcc.symm
  have HLN : Hid ((fanA (fun y => y.fr) x.id ns es).2.length ≤ 1048576) := Nat.le_trans (fanA_len _ _ _ _) HK.out.sm.e
  clear hn hfx hg3 hb43 hb53 hs3 hf3 KP hcc
  go_wp2_with fail
  refine KD.out.mono ?_
  rintro e w4 ⟨⟨sa, sn, sc, rfl, hs4, hf4⟩, hg4⟩
  rw [HCC.out]
  have KI := hide (sids_any _ _ _ w4 (HS3.out.G hg4).toRow hs4.toRow (by have := HLN.out; omega))
  have HN4 := hide (HN.out.G hg4)
  clear hs4 hf4 hg4 KD c4 c5 HCC HLN HS3
  go_wp2_with fail
  refine KI.out.mono ?_
  rintro e w5 ⟨rfl, hg5⟩
  have HN5 := hide (HN4.out.G hg5)
  clear hg5 KI
  go_wp2_with fail
  go_ret
  exact ⟨rfl, _, _, _, HN5.out⟩
set_option maxRecDepth 100000 in
set_option maxHeartbeats 4000000 in
theorem smIn (lo mb : Nat) (ns : List Nd) (es : List Ed) (qv : Value) (qs : List As) (na : Option Addr) (nn nc : Nat) (ea : Option Addr) (en ec : Nat) (x : St) (pa : Option Addr) (pn pc : Nat) (W0 W : World) (h : MemQ lo W mb ns es qv qs) (hk : Kn lo W0 W ns es (.slice na nn nc) (.slice ea en ec) qs) (hid : R64 x.id) :
    Calls Tryz.prog 17 #[ptr mb, .agg #[.slice na nn nc, .slice ea en ec], .agg #[I 15, I x.id, I x.tt, .string x.name, .string x.key, I x.k, I x.a, I x.b, .string x.s, .slice pa pn pc, .bool x.flag, I x.n, I x.lv, .string x.lb, I x.rid, I x.md]] W fun e W' => e = .returned (.bool true) ∧ ∃ qa qn qc, NtP lo W W' mb ns es qv (.slice qa qn qc) (qs ++ [aId 6 x.id]) := by
  obtain ⟨B4, hB4⟩ : ∃ B4, B4 = W.heap.size := ⟨_, rfl⟩
  obtain ⟨B5, hB5⟩ : ∃ B5, B5 = B4 + 1 := ⟨_, rfl⟩
  obtain ⟨w2, hw2⟩ : ∃ w2, w2 = ((W.alloc (.cells #[.slice na nn nc, .slice ea en ec] 25)).alloc (.cells #[I 15, I x.id, I x.tt, .string x.name, .string x.key, I x.k, I x.a, I x.b, .string x.s, .slice pa pn pc, .bool x.flag, I x.n, I x.lv, .string x.lb, I x.rid, I x.md] 46)) := ⟨_, rfl⟩
  have hgw : G W w2 := by rw [hw2]; exact ((G.refl W).alloc _).alloc _
  have hb4 : Blk w2 B4 25 [.slice na nn nc, .slice ea en ec] := by rw [hw2, hB4]; exact (Blk.new W [.slice na nn nc, .slice ea en ec] 25).G ((G.refl _).alloc _)
  have hb5 : Blk w2 B5 46 [I 15, I x.id, I x.tt, .string x.name, .string x.key, I x.k, I x.a, I x.b, .string x.s, .slice pa pn pc, .bool x.flag, I x.n, I x.lv, .string x.lb, I x.rid, I x.md] := by
    have := Blk.new (W.alloc (.cells #[.slice na nn nc, .slice ea en ec] 25)) [I 15, I x.id, I x.tt, .string x.name, .string x.key, I x.k, I x.a, I x.b, .string x.s, .slice pa pn pc, .bool x.flag, I x.n, I x.lv, .string x.lb, I x.rid, I x.md] 46
    rw [hw2, hB5, hB4]
    simpa using this
  have h2 := h.G hgw
  have HEW : Hid (((W.alloc (.cells #[.slice na nn nc, .slice ea en ec] 25)).alloc (.cells #[I 15, I x.id, I x.tt, .string x.name, .string x.key, I x.k, I x.a, I x.b, .string x.s, .slice pa pn pc, .bool x.flag, I x.n, I x.lv, .string x.lb, I x.rid, I x.md] 46)) = w2) := hw2.symm
  have HE4 : Hid (W.heap.size = B4) := hB4.symm
  have HE5 : Hid (B4 + 1 = B5) := hB5.symm
  have HB := hide (And.intro hb4 hb5); have HH := hide h2; have HK := hide hk; have HGW := hide hgw
  have c4 := hb4.cell
  have c5 := hb5.cell
  have KP := hide (min_any lo mb ns es qv qs x.id w2 h2 hk.q hid hk.sm.e)
  clear hid h h2 hk hgw hb4 hb5 hw2 hB4 hB5
  go_enter Tryz.func17, Tryz.ntmps17
  go_wp2_with (first | (rw [HEW.out]; (try rw [HE4.out]); (try rw [HE5.out]); clear HEW) | fail)
  try rw [HEW.out]
  try rw [HE4.out]
  try rw [HE5.out]
  refine KP.out.mono ?_
  rintro e w3 ⟨⟨ra, rn, rc, rfl, hs3, hf3⟩, qa, qn, qc, hn⟩
  have hfx := hn.fx HH.out
  have hg3 := hn.old HH.out (HK.out.g.trans HGW.out) HK.out.lo
  have hb43 := HB.out.1.fx hfx (by decide)
  have hb53 := HB.out.2.fx hfx (by decide)
  clear c4 c5
  have c4 := hb43.cell
  have c5 := hb53.cell
  have HN := hide (hn.from HGW.out)
  have HB3 := hide (And.intro hb43 hb53)
  have HR := hide (And.intro (HK.out.n.G hg3) (HK.out.e.G hg3))
  have KD := hide (inOf_any ns es _ _ x.id w3 HR.out.1 HR.out.2 ⟨HK.out.sm.n, HK.out.sm.e⟩ HK.out.rn)
  have HS3 := hide hs3
  obtain ⟨cc, hcc⟩ : ∃ cc, cc = (fanA (fun y => y.to) x.id ns es).1 := ⟨_, rfl⟩
  rw [← hcc]
  have HCC : Hid ((fanA (fun y => y.to) x.id ns es).1 = cc) := hcc.symm
  have HLN : Hid ((fanA (fun y => y.to) x.id ns es).2.length ≤ 1048576) := Nat.le_trans (fanA_len _ _ _ _) HK.out.sm.e
  clear hn hfx hg3 hb43 hb53 hs3 hf3 KP hcc
  go_wp2_with fail
  refine KD.out.mono ?_
  rintro e w4 ⟨⟨sa, sn, sc, rfl, hs4, hf4⟩, hg4⟩
  rw [HCC.out]
  have KI := hide (sids_any _ _ _ w4 (HS3.out.G hg4).toRow hs4.toRow (by have := HLN.out; omega))
  have HN4 := hide (HN.out.G hg4)
  clear hs4 hf4 hg4 KD c4 c5 HCC HLN HS3
  go_wp2_with fail
  refine KI.out.mono ?_
  rintro e w5 ⟨rfl, hg5⟩
  have HN5 := hide (HN4.out.G hg5)
  clear hg5 KI
  go_wp2_with fail
  go_ret
  exact ⟨rfl, _, _, _, HN5.out⟩
set_option maxRecDepth 100000 in
set_option maxHeartbeats 4000000 in
theorem smHold (lo mb : Nat) (ns : List Nd) (es : List Ed) (qv : Value) (qs : List As) (na : Option Addr) (nn nc : Nat) (ea : Option Addr) (en ec : Nat) (x : St) (pa : Option Addr) (pn pc : Nat) (W0 W : World) (h : MemQ lo W mb ns es qv qs) (hk : Kn lo W0 W ns es (.slice na nn nc) (.slice ea en ec) qs) :
    Calls Tryz.prog 17 #[ptr mb, .agg #[.slice na nn nc, .slice ea en ec], .agg #[I 16, I x.id, I x.tt, .string x.name, .string x.key, I x.k, I x.a, I x.b, .string x.s, .slice pa pn pc, .bool x.flag, I x.n, I x.lv, .string x.lb, I x.rid, I x.md]] W fun e W' => e = .returned (.bool true) ∧ ∃ qa qn qc, NtP lo W W' mb ns es qv (.slice qa qn qc) (qs ++ [⟨7, 0, { data := #[] }, { data := #[] }, 0, 0, 0, { data := #[] }, x.lv, x.lb, x.rid, x.md⟩]) := by
  obtain ⟨B4, hB4⟩ : ∃ B4, B4 = W.heap.size := ⟨_, rfl⟩
  obtain ⟨B5, hB5⟩ : ∃ B5, B5 = B4 + 1 := ⟨_, rfl⟩
  obtain ⟨w2, hw2⟩ : ∃ w2, w2 = ((W.alloc (.cells #[.slice na nn nc, .slice ea en ec] 25)).alloc (.cells #[I 16, I x.id, I x.tt, .string x.name, .string x.key, I x.k, I x.a, I x.b, .string x.s, .slice pa pn pc, .bool x.flag, I x.n, I x.lv, .string x.lb, I x.rid, I x.md] 46)) := ⟨_, rfl⟩
  have hgw : G W w2 := by rw [hw2]; exact ((G.refl W).alloc _).alloc _
  have hb4 : Blk w2 B4 25 [.slice na nn nc, .slice ea en ec] := by rw [hw2, hB4]; exact (Blk.new W [.slice na nn nc, .slice ea en ec] 25).G ((G.refl _).alloc _)
  have hb5 : Blk w2 B5 46 [I 16, I x.id, I x.tt, .string x.name, .string x.key, I x.k, I x.a, I x.b, .string x.s, .slice pa pn pc, .bool x.flag, I x.n, I x.lv, .string x.lb, I x.rid, I x.md] := by
    have := Blk.new (W.alloc (.cells #[.slice na nn nc, .slice ea en ec] 25)) [I 16, I x.id, I x.tt, .string x.name, .string x.key, I x.k, I x.a, I x.b, .string x.s, .slice pa pn pc, .bool x.flag, I x.n, I x.lv, .string x.lb, I x.rid, I x.md] 46
    rw [hw2, hB5, hB4]
    simpa using this
  have h2 := h.G hgw
  have HEW : Hid (((W.alloc (.cells #[.slice na nn nc, .slice ea en ec] 25)).alloc (.cells #[I 16, I x.id, I x.tt, .string x.name, .string x.key, I x.k, I x.a, I x.b, .string x.s, .slice pa pn pc, .bool x.flag, I x.n, I x.lv, .string x.lb, I x.rid, I x.md] 46)) = w2) := hw2.symm
  have HE4 : Hid (W.heap.size = B4) := hB4.symm
  have HE5 : Hid (B4 + 1 = B5) := hB5.symm
  have HB := hide (And.intro hb4 hb5); have HH := hide h2; have HK := hide hk; have HGW := hide hgw
  have c4 := hb4.cell
  have c5 := hb5.cell
  have KP := hide (hold_any lo mb ns es qv qs x.lv x.lb x.rid x.md w2 h2 hk.q)
  clear h h2 hk hgw hb4 hb5 hw2 hB4 hB5
  go_enter Tryz.func17, Tryz.ntmps17
  go_wp2_with (first | (rw [HEW.out]; (try rw [HE4.out]); (try rw [HE5.out]); clear HEW) | fail)
  try rw [HEW.out]
  try rw [HE4.out]
  try rw [HE5.out]
  refine KP.out.mono ?_
  rintro e w3 ⟨rfl, qa, qn, qc, hn⟩
  have HN := hide (hn.from HGW.out)
  clear hn KP c4 c5
  go_wp2_with fail
  go_ret
  exact ⟨rfl, _, _, _, HN.out⟩
set_option maxRecDepth 100000 in
set_option maxHeartbeats 4000000 in
theorem smNode (lo mb : Nat) (ns : List Nd) (es : List Ed) (qv : Value) (qs : List As) (na : Option Addr) (nn nc : Nat) (ea : Option Addr) (en ec : Nat) (x : St) (pa : Option Addr) (pn pc : Nat) (W0 W : World) (h : MemQ lo W mb ns es qv qs) (hk : Kn lo W0 W ns es (.slice na nn nc) (.slice ea en ec) qs) (hid : R64 x.id) :
    Calls Tryz.prog 17 #[ptr mb, .agg #[.slice na nn nc, .slice ea en ec], .agg #[I 12, I x.id, I x.tt, .string x.name, .string x.key, I x.k, I x.a, I x.b, .string x.s, .slice pa pn pc, .bool x.flag, I x.n, I x.lv, .string x.lb, I x.rid, I x.md]] W fun e W' => e = .returned (.bool true) ∧ ∃ qa qn qc, NtP lo W W' mb ns es qv (.slice qa qn qc) (qs ++ [aId 3 x.id]) := by
  obtain ⟨B4, hB4⟩ : ∃ B4, B4 = W.heap.size := ⟨_, rfl⟩
  obtain ⟨B5, hB5⟩ : ∃ B5, B5 = B4 + 1 := ⟨_, rfl⟩
  obtain ⟨w2, hw2⟩ : ∃ w2, w2 = ((W.alloc (.cells #[.slice na nn nc, .slice ea en ec] 25)).alloc (.cells #[I 12, I x.id, I x.tt, .string x.name, .string x.key, I x.k, I x.a, I x.b, .string x.s, .slice pa pn pc, .bool x.flag, I x.n, I x.lv, .string x.lb, I x.rid, I x.md] 46)) := ⟨_, rfl⟩
  have hgw : G W w2 := by rw [hw2]; exact ((G.refl W).alloc _).alloc _
  have hb4 : Blk w2 B4 25 [.slice na nn nc, .slice ea en ec] := by rw [hw2, hB4]; exact (Blk.new W [.slice na nn nc, .slice ea en ec] 25).G ((G.refl _).alloc _)
  have hb5 : Blk w2 B5 46 [I 12, I x.id, I x.tt, .string x.name, .string x.key, I x.k, I x.a, I x.b, .string x.s, .slice pa pn pc, .bool x.flag, I x.n, I x.lv, .string x.lb, I x.rid, I x.md] := by
    have := Blk.new (W.alloc (.cells #[.slice na nn nc, .slice ea en ec] 25)) [I 12, I x.id, I x.tt, .string x.name, .string x.key, I x.k, I x.a, I x.b, .string x.s, .slice pa pn pc, .bool x.flag, I x.n, I x.lv, .string x.lb, I x.rid, I x.md] 46
    rw [hw2, hB5, hB4]
    simpa using this
  have h2 := h.G hgw
  have HEW : Hid (((W.alloc (.cells #[.slice na nn nc, .slice ea en ec] 25)).alloc (.cells #[I 12, I x.id, I x.tt, .string x.name, .string x.key, I x.k, I x.a, I x.b, .string x.s, .slice pa pn pc, .bool x.flag, I x.n, I x.lv, .string x.lb, I x.rid, I x.md] 46)) = w2) := hw2.symm
  have HE4 : Hid (W.heap.size = B4) := hB4.symm
  have HE5 : Hid (B4 + 1 = B5) := hB5.symm
  have HB := hide (And.intro hb4 hb5); have HH := hide h2; have HK := hide hk; have HGW := hide hgw
  have c4 := hb4.cell
  have c5 := hb5.cell
  have KP := hide (mnode_any lo mb ns es qv qs x.id w2 h2 hk.q hid hk.sm.p)
  clear hid h h2 hk hgw hb4 hb5 hw2 hB4 hB5
  go_enter Tryz.func17, Tryz.ntmps17
  go_wp2_with (first | (rw [HEW.out]; (try rw [HE4.out]); (try rw [HE5.out]); clear HEW) | fail)
  try rw [HEW.out]
  try rw [HE4.out]
  try rw [HE5.out]
  refine KP.out.mono ?_
  rintro e w3 ⟨hans, qa, qn, qc, hn⟩
  have hfx := hn.fx HH.out
  have hg3 := hn.old HH.out (HK.out.g.trans HGW.out) HK.out.lo
  have hb43 := HB.out.1.fx hfx (by decide)
  have hb53 := HB.out.2.fx hfx (by decide)
  clear c4 c5
  have c4 := hb43.cell
  have c5 := hb53.cell
  have HN := hide (hn.from HGW.out)
  have HB3 := hide (And.intro hb43 hb53)
  have HR := hide (And.intro (HK.out.n.G hg3) (HK.out.e.G hg3))
  clear hn hfx hg3 hb43 hb53 KP
  rcases hans with ⟨hno, rfl⟩ | ⟨z, hz, hzi, va, vn, vc, rfl, hsz⟩
  · obtain ⟨w4, hw4⟩ : ∃ w4, w4 = (w3.alloc (.cells #[I 0, .string { data := #[] }, .slice none 0 0] 69)) := ⟨_, rfl⟩
    obtain ⟨B6, hB6⟩ : ∃ B6, B6 = w3.heap.size := ⟨_, rfl⟩
    have hg4 : G w3 w4 := by rw [hw4]; exact (G.refl w3).alloc _
    have hb6 : Blk w4 B6 69 [I 0, .string { data := #[] }, .slice none 0 0] := by rw [hw4, hB6]; exact Blk.new w3 [I 0, .string { data := #[] }, .slice none 0 0] 69
    have HEW : Hid ((w3.alloc (.cells #[I 0, .string { data := #[] }, .slice none 0 0] 69)) = w4) := hw4.symm
    have HE6 : Hid (w3.heap.size = B6) := hB6.symm
    have KD := hide (nodeIx_any ns _ _ x.id w4 (HR.out.1.G hg4) ⟨ea, en, ec, rfl⟩ HK.out.rn HK.out.sm.n)
    have HB6 := hide hb6
    have HG4 := hide hg4
    clear c4 c5
    have c4 := (HB3.out.1.G ((G.refl w3).alloc (.cells #[I 0, .string { data := #[] }, .slice none 0 0] 69))).cell
    have c5 := (HB3.out.2.G ((G.refl w3).alloc (.cells #[I 0, .string { data := #[] }, .slice none 0 0] 69))).cell
    clear hw4 hB6 hg4 hb6
    go_wp2_with fail
    rw [HEW.out]
    try rw [HE6.out]
    refine KD.out.mono ?_
    rintro e w5 ⟨⟨r, rfl, har⟩, hg5⟩
    clear c4 c5
    rcases har with ⟨-, rfl⟩ | ⟨i, hi, -⟩
    · have hb7 := HB6.out.G hg5
      have c6 := hb7.cell
      have KH := hide (snode_any ⟨0, { data := #[] }, []⟩ _ _ w5 (Row.nil _ _) (Row.nil _ _) (Nat.zero_le _))
      have HN5 := hide ((HN.out.G HG4.out).G hg5)
      clear hg5 hb7 KD hno
      go_wp2_with fail
      refine KH.out.mono ?_
      rintro e w6 ⟨rfl, hg6⟩
      have HN6 := hide (HN5.out.G hg6)
      clear hg6 KH c6
      go_wp2_with fail
      go_ret
      exact ⟨rfl, _, _, _, HN6.out⟩
    · exact absurd (List.mem_of_getElem? hi) hno
  · have HSZ := hide hsz
    have HZ := hide (And.intro hz hzi)
    clear hsz hz hzi
    obtain ⟨w4, hw4⟩ : ∃ w4, w4 = (w3.alloc (.cells #[I z.id, .string z.lb, .slice va vn vc] 69)) := ⟨_, rfl⟩
    obtain ⟨B6, hB6⟩ : ∃ B6, B6 = w3.heap.size := ⟨_, rfl⟩
    have hg4 : G w3 w4 := by rw [hw4]; exact (G.refl w3).alloc _
    have hb6 : Blk w4 B6 69 [I z.id, .string z.lb, .slice va vn vc] := by rw [hw4, hB6]; exact Blk.new w3 [I z.id, .string z.lb, .slice va vn vc] 69
    have HEW : Hid ((w3.alloc (.cells #[I z.id, .string z.lb, .slice va vn vc] 69)) = w4) := hw4.symm
    have HE6 : Hid (w3.heap.size = B6) := hB6.symm
    have KD := hide (nodeIx_any ns _ _ x.id w4 (HR.out.1.G hg4) ⟨ea, en, ec, rfl⟩ HK.out.rn HK.out.sm.n)
    have HB6 := hide hb6
    have HG4 := hide hg4
    clear c4 c5
    have c4 := (HB3.out.1.G ((G.refl w3).alloc (.cells #[I z.id, .string z.lb, .slice va vn vc] 69))).cell
    have c5 := (HB3.out.2.G ((G.refl w3).alloc (.cells #[I z.id, .string z.lb, .slice va vn vc] 69))).cell
    clear hw4 hB6 hg4 hb6
    go_wp2_with fail
    rw [HEW.out]
    try rw [HE6.out]
    refine KD.out.mono ?_
    rintro e w5 ⟨⟨r, rfl, har⟩, hg5⟩
    clear c4 c5
    rcases har with ⟨hno, -⟩ | ⟨i, hi, rfl⟩
    · exact absurd (List.mem_map.2 ⟨z, HZ.out.1, HZ.out.2⟩) hno
    · have hiz : ns[i]? = some z := same_id HK.out.rn HZ.out.1 (by rw [HZ.out.2]; exact hi)
      obtain ⟨g, o, cp, qq⟩ := HR.out.1.addr (by have := (List.getElem?_eq_some_iff.1 hiz).1; omega)
      injection qq with p1 p2 p3
      subst p1 p3
      obtain ⟨cs, ⟨vp, hcs, hvp⟩, hr1⟩ := HR.out.1.at hiz
      subst hcs
      obtain ⟨ua, uc, rfl⟩ := hvp.form
      obtain ⟨un, hun⟩ : ∃ un, un = z.ps.length := ⟨_, rfl⟩
      rw [← hun] at hvp hr1
      have hg35 := HG4.out.trans hg5
      have hzl := HK.out.sm.p z HZ.out.1
      have HS9 : Hid (∀ V, G w5 V → (∀ t, V.cell? ⟨B4, t, none⟩ = ([.slice (some ⟨g, o, none⟩) nn nc, .slice ea en ec] : List Value)[t]?) ∧ (∀ t, V.cell? ⟨B6, t, none⟩ = ([I z.id, .string z.lb, .slice va vn vc] : List Value)[t]?) ∧ V.cell? ⟨g, o + i * 3, none⟩ = some (I z.id) ∧ V.cell? ⟨g, o + i * 3 + 1, none⟩ = some (.string z.lb) ∧ V.cell? ⟨g, o + i * 3 + 2, none⟩ = some (.slice ua un uc) ∧ G w5 V) := fun V h => ⟨((HB3.out.1.G hg35).G h).cell, ((HB6.out.G hg5).G h).cell, cell_G (rangeAt_G hr1 hg35 0 _ rfl) h, cell_G (rangeAt_G hr1 hg35 1 _ rfl) h, cell_G (rangeAt_G hr1 hg35 2 _ rfl) h, h⟩
      have KH : Hid (∀ V, G w5 V → Calls Tryz.prog 34 #[.agg #[I z.id, .string z.lb, .slice va vn vc], .agg #[I z.id, .string z.lb, .slice ua un uc]] V fun e W' => e = .returned (.bool true) ∧ G V W') := fun V hV => snode_any z _ _ V ((HSZ.out.G hg35).G hV).toRow ((hvp.G hg35).G hV) (by omega)
      have HN5 := hide (HN.out.G hg35)
      have i1 : (i : Int) < (nn : Int) := by have := (List.getElem?_eq_some_iff.1 hiz).1; omega
      have i0 : ¬ ((i : Int) < 0) := by omega
      clear hi hiz hvp hr1 hun hg35 hzl hg5 p2 KD HB6 HE6 HSZ
      go_wp2_with fail
      clear i0
      refine wp_region_noPanic ?_
      refine wp_region_held_drew (S := (fun V => (∀ t, V.cell? ⟨B4, t, none⟩ = ([.slice (some ⟨g, o, none⟩) nn nc, .slice ea en ec] : List Value)[t]?) ∧ (∀ t, V.cell? ⟨B6, t, none⟩ = ([I z.id, .string z.lb, .slice va vn vc] : List Value)[t]?) ∧ V.cell? ⟨g, o + i * 3, none⟩ = some (I z.id) ∧ V.cell? ⟨g, o + i * 3 + 1, none⟩ = some (.string z.lb) ∧ V.cell? ⟨g, o + i * 3 + 2, none⟩ = some (.slice ua un uc) ∧ G w5 V)) (by kernel_rfl) (HS9.out _ ((G.refl _).drew)) (fun hHeld => ?_)
      refine wpAnyH_take (i := 0) (v := ?_) rfl (by kernel_rfl) (by kernel_rfl) (by kernel_rfl) (fun _ _ _ h => h) (Or.inl ⟨by rfl, ?_⟩) hHeld ?_
      rotate_left 1
      · (intro w hSw; obtain ⟨k1, k2, q0, q1, q2, -⟩ := hSw; go_simp; try with_reducible rfl)
      try simp only [Act.put, List.getElem_toArray, List.getElem_cons_zero, List.setIfInBounds_toArray, List.set_cons_zero, List.set_cons_succ]
      refine wpAnyH_take (i := 1) (v := ?_) rfl (by kernel_rfl) (by kernel_rfl) (by kernel_rfl) (fun _ _ _ h => h) (Or.inl ⟨by rfl, ?_⟩) hHeld ?_
      rotate_left 1
      · (intro w hSw; (try dsimp only at hSw); go_simp; try with_reducible rfl)
      try simp only [Act.put, List.getElem_toArray, List.getElem_cons_zero, List.getElem_cons_succ, List.setIfInBounds_toArray, List.set_cons_zero, List.set_cons_succ]
      refine wpAnyH_take (i := 2) (v := ?_) rfl (by kernel_rfl) (by kernel_rfl) (by kernel_rfl) (fun _ _ _ h => h) (Or.inl ⟨by rfl, ?_⟩) hHeld ?_
      rotate_left 1
      · (intro w hSw; obtain ⟨k1, k2, q0, q1, q2, -⟩ := hSw; go_simp; try with_reducible rfl)
      try simp only [Act.put, List.getElem_toArray, List.getElem_cons_zero, List.getElem_cons_succ, List.setIfInBounds_toArray, List.set_cons_zero, List.set_cons_succ]
      refine wpAnyH_take (i := 3) (v := ?_) rfl (by kernel_rfl) (by kernel_rfl) (by kernel_rfl) (fun _ _ _ h => h) (Or.inl ⟨by rfl, ?_⟩) hHeld ?_
      rotate_left 1
      · (intro w hSw; (try dsimp only at hSw); go_simp; try with_reducible rfl)
      try simp only [Act.put, List.getElem_toArray, List.getElem_cons_zero, List.getElem_cons_succ, List.setIfInBounds_toArray, List.set_cons_zero, List.set_cons_succ]
      refine wpAnyH_take (i := 4) (v := ?_) rfl (by kernel_rfl) (by kernel_rfl) (by kernel_rfl) (fun _ _ _ h => h) (Or.inl ⟨by rfl, ?_⟩) hHeld ?_
      rotate_left 1
      · (intro w hSw; (try dsimp only at hSw); go_simp; try with_reducible rfl)
      try simp only [Act.put, List.getElem_toArray, List.getElem_cons_zero, List.getElem_cons_succ, List.setIfInBounds_toArray, List.set_cons_zero, List.set_cons_succ]
      refine wpAnyH_take (i := 5) (v := ?_) rfl (by kernel_rfl) (by kernel_rfl) (by kernel_rfl) (fun _ _ _ h => h) (Or.inl ⟨by rfl, ?_⟩) hHeld ?_
      rotate_left 1
      · (intro w hSw; obtain ⟨k1, k2, q0, q1, q2, -⟩ := hSw; go_simp; try with_reducible rfl)
      try simp only [Act.put, List.getElem_toArray, List.getElem_cons_zero, List.getElem_cons_succ, List.setIfInBounds_toArray, List.set_cons_zero, List.set_cons_succ]
      refine wpAnyH_ready (rs := [6]) (by kernel_rfl) (by simp) (AllReadyH.cons rfl (fun K hK => ?_) AllReadyH.nil)
      clear hHeld
      (try refine (if_pos rfl).mpr ?_)
      go_simp
      refine (KH.out _ ((G.refl _).drew)).mono ?_
      rintro e w8 ⟨rfl, g8'⟩
      have g8 : G w5 w8 := ((G.refl _).drew).trans g8'
      clear g8' KH
      go_wp2_with fail
      refine hK.out _ _ (HS9.out w8 g8) (fun hHeld => ?_)
      clear hK K
      try simp only [Act.put, List.getElem_toArray, List.getElem_cons_zero, List.getElem_cons_succ, List.setIfInBounds_toArray, List.set_cons_zero, List.set_cons_succ]
      refine wpAnyH_take (i := 7) (v := ?_) rfl (by kernel_rfl) (by kernel_rfl) (by kernel_rfl) (fun _ _ _ h => h) (Or.inl ⟨by rfl, ?_⟩) hHeld ?_
      rotate_left 1
      · (intro w hSw; (try dsimp only at hSw); go_simp; try with_reducible rfl)
      try simp only [Act.put, List.getElem_toArray, List.getElem_cons_zero, List.getElem_cons_succ, List.setIfInBounds_toArray, List.set_cons_zero, List.set_cons_succ]
      refine wpAnyH_take (i := 8) (v := ?_) rfl (by kernel_rfl) (by kernel_rfl) (by kernel_rfl) (fun _ _ _ h => h) (Or.inl ⟨by rfl, ?_⟩) hHeld ?_
      rotate_left 1
      · (intro w hSw; (try dsimp only at hSw); go_simp; try with_reducible rfl)
      try simp only [Act.put, List.getElem_toArray, List.getElem_cons_zero, List.getElem_cons_succ, List.setIfInBounds_toArray, List.set_cons_zero, List.set_cons_succ]
      refine wpAnyH_take (i := 9) (v := ?_) rfl (by kernel_rfl) (by kernel_rfl) (by kernel_rfl) (fun _ _ _ h => h) (Or.inl ⟨by rfl, ?_⟩) hHeld ?_
      rotate_left 1
      · (intro w hSw; (try dsimp only at hSw); go_simp; try with_reducible rfl)
      try simp only [Act.put, List.getElem_toArray, List.getElem_cons_zero, List.getElem_cons_succ, List.setIfInBounds_toArray, List.set_cons_zero, List.set_cons_succ]
      refine wpAnyH_take (i := 10) (v := ?_) rfl (by kernel_rfl) (by kernel_rfl) (by kernel_rfl) (fun _ _ _ h => h) (Or.inl ⟨by rfl, ?_⟩) hHeld ?_
      rotate_left 1
      · (intro w hSw; (try dsimp only at hSw); go_simp; try with_reducible rfl)
      try simp only [Act.put, List.getElem_toArray, List.getElem_cons_zero, List.getElem_cons_succ, List.setIfInBounds_toArray, List.set_cons_zero, List.set_cons_succ]
      refine wpAnyH_take (i := 11) (v := ?_) rfl (by kernel_rfl) (by kernel_rfl) (by kernel_rfl) (fun _ _ _ h => h) (Or.inl ⟨by rfl, ?_⟩) hHeld ?_
      rotate_left 1
      · (intro w hSw; (try dsimp only at hSw); go_simp; try with_reducible rfl)
      try simp only [Act.put, List.getElem_toArray, List.getElem_cons_zero, List.getElem_cons_succ, List.setIfInBounds_toArray, List.set_cons_zero, List.set_cons_succ]
      refine wpAnyH_done (by kernel_rfl) ?_ _
      refine NoPanic.normal ?_
      have HN8 := hide (HN5.out.G g8)
      clear g8
      go_wp2_with fail
      go_ret
      exact ⟨rfl, _, _, _, HN8.out⟩
set_option maxRecDepth 100000 in
set_option maxHeartbeats 4000000 in
theorem smEdge (lo mb : Nat) (ns : List Nd) (es : List Ed) (qv : Value) (qs : List As) (na : Option Addr) (nn nc : Nat) (ea : Option Addr) (en ec : Nat) (x : St) (pa : Option Addr) (pn pc : Nat) (W0 W : World) (h : MemQ lo W mb ns es qv qs) (hk : Kn lo W0 W ns es (.slice na nn nc) (.slice ea en ec) qs) (hid : R64 x.id) :
    Calls Tryz.prog 17 #[ptr mb, .agg #[.slice na nn nc, .slice ea en ec], .agg #[I 13, I x.id, I x.tt, .string x.name, .string x.key, I x.k, I x.a, I x.b, .string x.s, .slice pa pn pc, .bool x.flag, I x.n, I x.lv, .string x.lb, I x.rid, I x.md]] W fun e W' => e = .returned (.bool true) ∧ ∃ qa qn qc, NtP lo W W' mb ns es qv (.slice qa qn qc) (qs ++ [aId 4 x.id]) := by
  obtain ⟨B4, hB4⟩ : ∃ B4, B4 = W.heap.size := ⟨_, rfl⟩
  obtain ⟨B5, hB5⟩ : ∃ B5, B5 = B4 + 1 := ⟨_, rfl⟩
  obtain ⟨w2, hw2⟩ : ∃ w2, w2 = ((W.alloc (.cells #[.slice na nn nc, .slice ea en ec] 25)).alloc (.cells #[I 13, I x.id, I x.tt, .string x.name, .string x.key, I x.k, I x.a, I x.b, .string x.s, .slice pa pn pc, .bool x.flag, I x.n, I x.lv, .string x.lb, I x.rid, I x.md] 46)) := ⟨_, rfl⟩
  have hgw : G W w2 := by rw [hw2]; exact ((G.refl W).alloc _).alloc _
  have hb4 : Blk w2 B4 25 [.slice na nn nc, .slice ea en ec] := by rw [hw2, hB4]; exact (Blk.new W [.slice na nn nc, .slice ea en ec] 25).G ((G.refl _).alloc _)
  have hb5 : Blk w2 B5 46 [I 13, I x.id, I x.tt, .string x.name, .string x.key, I x.k, I x.a, I x.b, .string x.s, .slice pa pn pc, .bool x.flag, I x.n, I x.lv, .string x.lb, I x.rid, I x.md] := by
    have := Blk.new (W.alloc (.cells #[.slice na nn nc, .slice ea en ec] 25)) [I 13, I x.id, I x.tt, .string x.name, .string x.key, I x.k, I x.a, I x.b, .string x.s, .slice pa pn pc, .bool x.flag, I x.n, I x.lv, .string x.lb, I x.rid, I x.md] 46
    rw [hw2, hB5, hB4]
    simpa using this
  have h2 := h.G hgw
  have HEW : Hid (((W.alloc (.cells #[.slice na nn nc, .slice ea en ec] 25)).alloc (.cells #[I 13, I x.id, I x.tt, .string x.name, .string x.key, I x.k, I x.a, I x.b, .string x.s, .slice pa pn pc, .bool x.flag, I x.n, I x.lv, .string x.lb, I x.rid, I x.md] 46)) = w2) := hw2.symm
  have HE4 : Hid (W.heap.size = B4) := hB4.symm
  have HE5 : Hid (B4 + 1 = B5) := hB5.symm
  have HB := hide (And.intro hb4 hb5); have HH := hide h2; have HK := hide hk; have HGW := hide hgw
  have c4 := hb4.cell
  have c5 := hb5.cell
  have KP := hide (medge_any lo mb ns es qv qs x.id w2 h2 hk.q hid hk.sm.q)
  clear hid h h2 hk hgw hb4 hb5 hw2 hB4 hB5
  go_enter Tryz.func17, Tryz.ntmps17
  go_wp2_with (first | (rw [HEW.out]; (try rw [HE4.out]); (try rw [HE5.out]); clear HEW) | fail)
  try rw [HEW.out]
  try rw [HE4.out]
  try rw [HE5.out]
  refine KP.out.mono ?_
  rintro e w3 ⟨hans, qa, qn, qc, hn⟩
  have hfx := hn.fx HH.out
  have hg3 := hn.old HH.out (HK.out.g.trans HGW.out) HK.out.lo
  have hb43 := HB.out.1.fx hfx (by decide)
  have hb53 := HB.out.2.fx hfx (by decide)
  clear c4 c5
  have c4 := hb43.cell
  have c5 := hb53.cell
  have HN := hide (hn.from HGW.out)
  have HB3 := hide (And.intro hb43 hb53)
  have HR := hide (And.intro (HK.out.n.G hg3) (HK.out.e.G hg3))
  clear hn hfx hg3 hb43 hb53 KP
  rcases hans with ⟨hno, rfl⟩ | ⟨z, hz, hzi, va, vn, vc, rfl, hsz⟩
  · obtain ⟨w4, hw4⟩ : ∃ w4, w4 = (w3.alloc (.cells #[I 0, .string { data := #[] }, I 0, I 0, .slice none 0 0] 72)) := ⟨_, rfl⟩
    obtain ⟨B6, hB6⟩ : ∃ B6, B6 = w3.heap.size := ⟨_, rfl⟩
    have hg4 : G w3 w4 := by rw [hw4]; exact (G.refl w3).alloc _
    have hb6 : Blk w4 B6 72 [I 0, .string { data := #[] }, I 0, I 0, .slice none 0 0] := by rw [hw4, hB6]; exact Blk.new w3 [I 0, .string { data := #[] }, I 0, I 0, .slice none 0 0] 72
    have HEW : Hid ((w3.alloc (.cells #[I 0, .string { data := #[] }, I 0, I 0, .slice none 0 0] 72)) = w4) := hw4.symm
    have HE6 : Hid (w3.heap.size = B6) := hB6.symm
    have KD := hide (edgeIx_any es _ _ x.id w4 (HR.out.2.G hg4) ⟨na, nn, nc, rfl⟩ HK.out.re HK.out.sm.e)
    have HB6 := hide hb6
    have HG4 := hide hg4
    clear c4 c5
    have c4 := (HB3.out.1.G ((G.refl w3).alloc (.cells #[I 0, .string { data := #[] }, I 0, I 0, .slice none 0 0] 72))).cell
    have c5 := (HB3.out.2.G ((G.refl w3).alloc (.cells #[I 0, .string { data := #[] }, I 0, I 0, .slice none 0 0] 72))).cell
    clear hw4 hB6 hg4 hb6
    go_wp2_with fail
    rw [HEW.out]
    try rw [HE6.out]
    refine KD.out.mono ?_
    rintro e w5 ⟨⟨r, rfl, har⟩, hg5⟩
    clear c4 c5
    rcases har with ⟨-, rfl⟩ | ⟨i, hi, -⟩
    · have hb7 := HB6.out.G hg5
      have c6 := hb7.cell
      have KH := hide (sedge_any ⟨0, { data := #[] }, 0, 0, []⟩ _ _ w5 (Row.nil _ _) (Row.nil _ _) (Nat.zero_le _))
      have HN5 := hide ((HN.out.G HG4.out).G hg5)
      clear hg5 hb7 KD hno
      go_wp2_with fail
      refine KH.out.mono ?_
      rintro e w6 ⟨rfl, hg6⟩
      have HN6 := hide (HN5.out.G hg6)
      clear hg6 KH c6
      go_wp2_with fail
      go_ret
      exact ⟨rfl, _, _, _, HN6.out⟩
    · exact absurd (List.mem_of_getElem? hi) hno
  · have HSZ := hide hsz
    have HZ := hide (And.intro hz hzi)
    clear hsz hz hzi
    obtain ⟨w4, hw4⟩ : ∃ w4, w4 = (w3.alloc (.cells #[I z.id, .string z.ty, I z.fr, I z.to, .slice va vn vc] 72)) := ⟨_, rfl⟩
    obtain ⟨B6, hB6⟩ : ∃ B6, B6 = w3.heap.size := ⟨_, rfl⟩
    have hg4 : G w3 w4 := by rw [hw4]; exact (G.refl w3).alloc _
    have hb6 : Blk w4 B6 72 [I z.id, .string z.ty, I z.fr, I z.to, .slice va vn vc] := by rw [hw4, hB6]; exact Blk.new w3 [I z.id, .string z.ty, I z.fr, I z.to, .slice va vn vc] 72
    have HEW : Hid ((w3.alloc (.cells #[I z.id, .string z.ty, I z.fr, I z.to, .slice va vn vc] 72)) = w4) := hw4.symm
    have HE6 : Hid (w3.heap.size = B6) := hB6.symm
    have KD := hide (edgeIx_any es _ _ x.id w4 (HR.out.2.G hg4) ⟨na, nn, nc, rfl⟩ HK.out.re HK.out.sm.e)
    have HB6 := hide hb6
    have HG4 := hide hg4
    clear c4 c5
    have c4 := (HB3.out.1.G ((G.refl w3).alloc (.cells #[I z.id, .string z.ty, I z.fr, I z.to, .slice va vn vc] 72))).cell
    have c5 := (HB3.out.2.G ((G.refl w3).alloc (.cells #[I z.id, .string z.ty, I z.fr, I z.to, .slice va vn vc] 72))).cell
    clear hw4 hB6 hg4 hb6
    go_wp2_with fail
    rw [HEW.out]
    try rw [HE6.out]
    refine KD.out.mono ?_
    rintro e w5 ⟨⟨r, rfl, har⟩, hg5⟩
    clear c4 c5
    rcases har with ⟨hno, -⟩ | ⟨i, hi, rfl⟩
    · exact absurd (List.mem_map.2 ⟨z, HZ.out.1, HZ.out.2⟩) hno
    · have hiz : es[i]? = some z := same_ide HK.out.re HZ.out.1 (by rw [HZ.out.2]; exact hi)
      obtain ⟨g, o, cp, qq⟩ := HR.out.2.addr (by have := (List.getElem?_eq_some_iff.1 hiz).1; omega)
      injection qq with p1 p2 p3
      subst p1 p3
      obtain ⟨cs, ⟨vp, hcs, hvp⟩, hr1⟩ := HR.out.2.at hiz
      subst hcs
      obtain ⟨ua, uc, rfl⟩ := hvp.form
      obtain ⟨un, hun⟩ : ∃ un, un = z.ps.length := ⟨_, rfl⟩
      rw [← hun] at hvp hr1
      have hg35 := HG4.out.trans hg5
      have hzl := HK.out.sm.q z HZ.out.1
      have HS9 : Hid (∀ V, G w5 V → (∀ t, V.cell? ⟨B4, t, none⟩ = ([.slice na nn nc, .slice (some ⟨g, o, none⟩) en ec] : List Value)[t]?) ∧ (∀ t, V.cell? ⟨B6, t, none⟩ = ([I z.id, .string z.ty, I z.fr, I z.to, .slice va vn vc] : List Value)[t]?) ∧ V.cell? ⟨g, o + i * 5, none⟩ = some (I z.id) ∧ V.cell? ⟨g, o + i * 5 + 1, none⟩ = some (.string z.ty) ∧ V.cell? ⟨g, o + i * 5 + 2, none⟩ = some (I z.fr) ∧ V.cell? ⟨g, o + i * 5 + 3, none⟩ = some (I z.to) ∧ V.cell? ⟨g, o + i * 5 + 4, none⟩ = some (.slice ua un uc) ∧ G w5 V) := fun V h => ⟨((HB3.out.1.G hg35).G h).cell, ((HB6.out.G hg5).G h).cell, cell_G (rangeAt_G hr1 hg35 0 _ rfl) h, cell_G (rangeAt_G hr1 hg35 1 _ rfl) h, cell_G (rangeAt_G hr1 hg35 2 _ rfl) h, cell_G (rangeAt_G hr1 hg35 3 _ rfl) h, cell_G (rangeAt_G hr1 hg35 4 _ rfl) h, h⟩
      have KH : Hid (∀ V, G w5 V → Calls Tryz.prog 36 #[.agg #[I z.id, .string z.ty, I z.fr, I z.to, .slice va vn vc], .agg #[I z.id, .string z.ty, I z.fr, I z.to, .slice ua un uc]] V fun e W' => e = .returned (.bool true) ∧ G V W') := fun V hV => sedge_any z _ _ V ((HSZ.out.G hg35).G hV).toRow ((hvp.G hg35).G hV) (by omega)
      have HN5 := hide (HN.out.G hg35)
      have i1 : (i : Int) < (en : Int) := by have := (List.getElem?_eq_some_iff.1 hiz).1; omega
      have i0 : ¬ ((i : Int) < 0) := by omega
      clear hi hiz hvp hr1 hun hg35 hzl hg5 p2 KD HB6 HE6 HSZ
      go_wp2_with fail
      clear i0
      refine wp_region_noPanic ?_
      refine wp_region_held_drew (S := (fun V => (∀ t, V.cell? ⟨B4, t, none⟩ = ([.slice na nn nc, .slice (some ⟨g, o, none⟩) en ec] : List Value)[t]?) ∧ (∀ t, V.cell? ⟨B6, t, none⟩ = ([I z.id, .string z.ty, I z.fr, I z.to, .slice va vn vc] : List Value)[t]?) ∧ V.cell? ⟨g, o + i * 5, none⟩ = some (I z.id) ∧ V.cell? ⟨g, o + i * 5 + 1, none⟩ = some (.string z.ty) ∧ V.cell? ⟨g, o + i * 5 + 2, none⟩ = some (I z.fr) ∧ V.cell? ⟨g, o + i * 5 + 3, none⟩ = some (I z.to) ∧ V.cell? ⟨g, o + i * 5 + 4, none⟩ = some (.slice ua un uc) ∧ G w5 V)) (by kernel_rfl) (HS9.out _ ((G.refl _).drew)) (fun hHeld => ?_)
      refine wpAnyH_take (i := 0) (v := ?_) rfl (by kernel_rfl) (by kernel_rfl) (by kernel_rfl) (fun _ _ _ h => h) (Or.inl ⟨by rfl, ?_⟩) hHeld ?_
      rotate_left 1
      · (intro w hSw; obtain ⟨k1, k2, q0, q1, q2, q3, q4, -⟩ := hSw; go_simp; try with_reducible rfl)
      try simp only [Act.put, List.getElem_toArray, List.getElem_cons_zero, List.setIfInBounds_toArray, List.set_cons_zero, List.set_cons_succ]
      refine wpAnyH_take (i := 1) (v := ?_) rfl (by kernel_rfl) (by kernel_rfl) (by kernel_rfl) (fun _ _ _ h => h) (Or.inl ⟨by rfl, ?_⟩) hHeld ?_
      rotate_left 1
      · (intro w hSw; (try dsimp only at hSw); go_simp; try with_reducible rfl)
      try simp only [Act.put, List.getElem_toArray, List.getElem_cons_zero, List.getElem_cons_succ, List.setIfInBounds_toArray, List.set_cons_zero, List.set_cons_succ]
      refine wpAnyH_take (i := 2) (v := ?_) rfl (by kernel_rfl) (by kernel_rfl) (by kernel_rfl) (fun _ _ _ h => h) (Or.inl ⟨by rfl, ?_⟩) hHeld ?_
      rotate_left 1
      · (intro w hSw; obtain ⟨k1, k2, q0, q1, q2, q3, q4, -⟩ := hSw; go_simp; try with_reducible rfl)
      try simp only [Act.put, List.getElem_toArray, List.getElem_cons_zero, List.getElem_cons_succ, List.setIfInBounds_toArray, List.set_cons_zero, List.set_cons_succ]
      refine wpAnyH_take (i := 3) (v := ?_) rfl (by kernel_rfl) (by kernel_rfl) (by kernel_rfl) (fun _ _ _ h => h) (Or.inl ⟨by rfl, ?_⟩) hHeld ?_
      rotate_left 1
      · (intro w hSw; (try dsimp only at hSw); go_simp; try with_reducible rfl)
      try simp only [Act.put, List.getElem_toArray, List.getElem_cons_zero, List.getElem_cons_succ, List.setIfInBounds_toArray, List.set_cons_zero, List.set_cons_succ]
      refine wpAnyH_take (i := 4) (v := ?_) rfl (by kernel_rfl) (by kernel_rfl) (by kernel_rfl) (fun _ _ _ h => h) (Or.inl ⟨by rfl, ?_⟩) hHeld ?_
      rotate_left 1
      · (intro w hSw; (try dsimp only at hSw); go_simp; try with_reducible rfl)
      try simp only [Act.put, List.getElem_toArray, List.getElem_cons_zero, List.getElem_cons_succ, List.setIfInBounds_toArray, List.set_cons_zero, List.set_cons_succ]
      refine wpAnyH_take (i := 5) (v := ?_) rfl (by kernel_rfl) (by kernel_rfl) (by kernel_rfl) (fun _ _ _ h => h) (Or.inl ⟨by rfl, ?_⟩) hHeld ?_
      rotate_left 1
      · (intro w hSw; obtain ⟨k1, k2, q0, q1, q2, q3, q4, -⟩ := hSw; go_simp; try with_reducible rfl)
      try simp only [Act.put, List.getElem_toArray, List.getElem_cons_zero, List.getElem_cons_succ, List.setIfInBounds_toArray, List.set_cons_zero, List.set_cons_succ]
      refine wpAnyH_ready (rs := [6]) (by kernel_rfl) (by simp) (AllReadyH.cons rfl (fun K hK => ?_) AllReadyH.nil)
      clear hHeld
      (try refine (if_pos rfl).mpr ?_)
      go_simp
      refine (KH.out _ ((G.refl _).drew)).mono ?_
      rintro e w8 ⟨rfl, g8'⟩
      have g8 : G w5 w8 := ((G.refl _).drew).trans g8'
      clear g8' KH
      go_wp2_with fail
      refine hK.out _ _ (HS9.out w8 g8) (fun hHeld => ?_)
      clear hK K
      try simp only [Act.put, List.getElem_toArray, List.getElem_cons_zero, List.getElem_cons_succ, List.setIfInBounds_toArray, List.set_cons_zero, List.set_cons_succ]
      refine wpAnyH_take (i := 7) (v := ?_) rfl (by kernel_rfl) (by kernel_rfl) (by kernel_rfl) (fun _ _ _ h => h) (Or.inl ⟨by rfl, ?_⟩) hHeld ?_
      rotate_left 1
      · (intro w hSw; (try dsimp only at hSw); go_simp; try with_reducible rfl)
      try simp only [Act.put, List.getElem_toArray, List.getElem_cons_zero, List.getElem_cons_succ, List.setIfInBounds_toArray, List.set_cons_zero, List.set_cons_succ]
      refine wpAnyH_take (i := 8) (v := ?_) rfl (by kernel_rfl) (by kernel_rfl) (by kernel_rfl) (fun _ _ _ h => h) (Or.inl ⟨by rfl, ?_⟩) hHeld ?_
      rotate_left 1
      · (intro w hSw; (try dsimp only at hSw); go_simp; try with_reducible rfl)
      try simp only [Act.put, List.getElem_toArray, List.getElem_cons_zero, List.getElem_cons_succ, List.setIfInBounds_toArray, List.set_cons_zero, List.set_cons_succ]
      refine wpAnyH_take (i := 9) (v := ?_) rfl (by kernel_rfl) (by kernel_rfl) (by kernel_rfl) (fun _ _ _ h => h) (Or.inl ⟨by rfl, ?_⟩) hHeld ?_
      rotate_left 1
      · (intro w hSw; (try dsimp only at hSw); go_simp; try with_reducible rfl)
      try simp only [Act.put, List.getElem_toArray, List.getElem_cons_zero, List.getElem_cons_succ, List.setIfInBounds_toArray, List.set_cons_zero, List.set_cons_succ]
      refine wpAnyH_take (i := 10) (v := ?_) rfl (by kernel_rfl) (by kernel_rfl) (by kernel_rfl) (fun _ _ _ h => h) (Or.inl ⟨by rfl, ?_⟩) hHeld ?_
      rotate_left 1
      · (intro w hSw; (try dsimp only at hSw); go_simp; try with_reducible rfl)
      try simp only [Act.put, List.getElem_toArray, List.getElem_cons_zero, List.getElem_cons_succ, List.setIfInBounds_toArray, List.set_cons_zero, List.set_cons_succ]
      refine wpAnyH_take (i := 11) (v := ?_) rfl (by kernel_rfl) (by kernel_rfl) (by kernel_rfl) (fun _ _ _ h => h) (Or.inl ⟨by rfl, ?_⟩) hHeld ?_
      rotate_left 1
      · (intro w hSw; (try dsimp only at hSw); go_simp; try with_reducible rfl)
      try simp only [Act.put, List.getElem_toArray, List.getElem_cons_zero, List.getElem_cons_succ, List.setIfInBounds_toArray, List.set_cons_zero, List.set_cons_succ]
      refine wpAnyH_done (by kernel_rfl) ?_ _
      refine NoPanic.normal ?_
      have HN8 := hide (HN5.out.G g8)
      clear g8
      go_wp2_with fail
      go_ret
      exact ⟨rfl, _, _, _, HN8.out⟩
end Go.Proofs.YtifioikdhfhljaaGreatDoor
