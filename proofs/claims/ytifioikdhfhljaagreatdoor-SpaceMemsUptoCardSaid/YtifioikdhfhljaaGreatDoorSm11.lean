/- Graphs: SpaceMems. -/
import Derived.Test.YtifioikdhfhljaaGreatDoorSm10
import Derived.Test.YtifioikdhfhljaaGreatDoorSm6
namespace Go.Proofs.YtifioikdhfhljaaGreatDoor
open Go.RowKit Go.Maps

theorem NRow.toRow' {α : Type} {D : Nst α} {R : Rel α} {ty : TypeId} {w : World} {v : Value} {l : List α} (h : NRow D ty w v l) (hs : D.s = R.s) (hr : ∀ cs x, x ∈ l → D.r w cs x → R.r w cs x) : Row R w v l := by
  obtain ⟨rs, q1, q2, q3⟩ := h
  obtain ⟨p, cap, rfl, hc, hn, hx⟩ := q1.toRow
  refine ⟨p, cap, by rw [q2], by omega, fun q => by have := hn q; omega, fun i x e => ?_⟩
  have hi : i < rs.length := by rw [q2]; exact (List.getElem?_eq_some_iff.1 e).1
  obtain ⟨g, o, cs, h1, h2, h3⟩ := hx i _ (List.getElem?_eq_getElem hi)
  refine ⟨g, o, cs, h1, hr cs x (List.mem_of_getElem? e) ?_, by rw [← hs]; exact h3⟩
  rw [show cs = rs[i].1 from h2]
  exact q3 i _ x (List.getElem?_eq_getElem hi) e
theorem NRow.rowN' {ty : TypeId} {w : World} {v : Value} {l : List Nd} (h : NRow dNo ty w v l) : Row relN w v l := h.toRow' rfl fun _ _ _ ⟨v, e, hs⟩ => ⟨v, e, hs.toRow⟩
theorem NRow.rowE' {ty : TypeId} {w : World} {v : Value} {l : List Ed} (h : NRow dEo ty w v l) : Row relE w v l := h.toRow' rfl fun _ _ _ ⟨v, e, hs⟩ => ⟨v, e, hs.toRow⟩
abbrev relS : Rel St := ⟨16, fun _ cs x => ∃ pa pn pc, cs = [I x.d, I x.id, I x.tt, .string x.name, .string x.key, I x.k, I x.a, I x.b, .string x.s, .slice pa pn pc, .bool x.flag, I x.n, I x.lv, .string x.lb, I x.rid, I x.md], fun h => by obtain ⟨_, _, _, rfl⟩ := h; rfl, fun _ h => h⟩
def St.ok (x : St) : Prop := R64 x.id ∧ x.s.size ≤ 1048576
/-- A step as it is told. -/
def callOf (d : Int) (x : St) : As := if d = 10 then aNodes x.name else if d = 11 then aFind x.name ⟨x.key, x.k, x.a, x.b, x.s⟩ else if d = 12 then aId 3 x.id else if d = 13 then aId 4 x.id else if d = 14 then aId 5 x.id else if d = 15 then aId 6 x.id else ⟨7, 0, { data := #[] }, { data := #[] }, 0, 0, 0, { data := #[] }, x.lv, x.lb, x.rid, x.md⟩
theorem seven {d : Int} (h1 : 10 ≤ d) (h2 : d ≤ 16) : d = 10 ∨ d = 11 ∨ d = 12 ∨ d = 13 ∨ d = 14 ∨ d = 15 ∨ d = 16 := by omega
/-- What was asked lies in a block of its own; another row of such grows. -/
theorem MemQ.app {lo : Nat} {w w' : World} {mb : Nat} {ns : List Nd} {es : List Ed} {qv : Value} {qs : List As} {F : Nat → Prop} (h : MemQ lo w mb ns es qv qs) (k : Fx [49] [] w w') (c : Chg F w w') (hF : ∀ b, qv.ownBlock = some b → ¬ F b) : MemQ lo w' mb ns es qv qs := by
  obtain ⟨nid, eid, m1, m2, b1, b2, g1, g2, f1, f2, hm⟩ := h.mem
  exact ⟨⟨nid, eid, m1, m2, b1, b2, g1, g2, f1, f2, hm.fxq k (by decide) (by decide) (hm.blk.fx k (by decide))⟩, h.row.chg c hF, h.qlo⟩
theorem mem_any (lo mb : Nat) (ns : List Nd) (es : List Ed) (qv : Value) (qs : List As) (na : Option Addr) (nn nc : Nat) (ea : Option Addr) (en ec : Nat) (d : Int) (x : St) (pa : Option Addr) (pn pc : Nat) (W0 W : World) (h : MemQ lo W mb ns es qv qs) (hk : Kn lo W0 W ns es (.slice na nn nc) (.slice ea en ec) qs) (h1 : 10 ≤ d) (h2 : d ≤ 16) (ho : x.ok) :
    Calls Tryz.prog 17 #[ptr mb, .agg #[.slice na nn nc, .slice ea en ec], .agg #[I d, I x.id, I x.tt, .string x.name, .string x.key, I x.k, I x.a, I x.b, .string x.s, .slice pa pn pc, .bool x.flag, I x.n, I x.lv, .string x.lb, I x.rid, I x.md]] W fun e W' => e = .returned (.bool true) ∧ ∃ qa qn qc, NtP lo W W' mb ns es qv (.slice qa qn qc) (qs ++ [callOf d x]) := by
  rcases seven h1 h2 with rfl | rfl | rfl | rfl | rfl | rfl | rfl
  · exact smNodes lo mb ns es qv qs na nn nc ea en ec x pa pn pc W0 W h hk
  · exact smFind lo mb ns es qv qs na nn nc ea en ec x pa pn pc W0 W h hk (by have := ho.2; omega)
  · exact smNode lo mb ns es qv qs na nn nc ea en ec x pa pn pc W0 W h hk ho.1
  · exact smEdge lo mb ns es qv qs na nn nc ea en ec x pa pn pc W0 W h hk ho.1
  · exact smOut lo mb ns es qv qs na nn nc ea en ec x pa pn pc W0 W h hk ho.1
  · exact smIn lo mb ns es qv qs na nn nc ea en ec x pa pn pc W0 W h hk ho.1
  · exact smHold lo mb ns es qv qs na nn nc ea en ec x pa pn pc W0 W h hk
theorem sc_any (d : Int) (x : St) (pa : Option Addr) (pn pc : Nat) (W : World) (h1 : 10 ≤ d) (h2 : d ≤ 16) (y : As) (hy : y = callOf d x) : Calls Tryz.prog 18 #[.agg #[I d, I x.id, I x.tt, .string x.name, .string x.key, I x.k, I x.a, I x.b, .string x.s, .slice pa pn pc, .bool x.flag, I x.n, I x.lv, .string x.lb, I x.rid, I x.md]] W fun e W' => e = .returned (.agg #[I y.what, I y.id, .string y.label, .string y.key, I y.k, I y.a, I y.b, .string y.s, I y.lv, .string y.lb, I y.rid, I y.md]) ∧ G W W' := by
  subst hy
  rcases seven h1 h2 with rfl | rfl | rfl | rfl | rfl | rfl | rfl
  · exact scNodes x pa pn pc W
  · exact scFind x pa pn pc W
  · exact scNode x pa pn pc W
  · exact scEdge x pa pn pc W
  · exact scOut x pa pn pc W
  · exact scIn x pa pn pc W
  · exact scHold x pa pn pc W
set_option maxRecDepth 100000 in
set_option maxHeartbeats 4000000 in
theorem mems_any (ns : List Nd) (es : List Ed) (nv ev : Value) (ss : List St) (sv : Value) (W : World) (h1 : Row relN W nv ns) (h2 : Row relE W ev es) (h3 : Row relS W sv ss) (hs : SmB ns es) (hr : IdOk ns es) (hT : Tabs W) (hsl : ss.length ≤ 1048576) (hso : ∀ x ∈ ss, x.ok)
    (hM : ∀ (u v : Value) (V : World), Row relN V u ns → Row relE V v es → Calls Tryz.prog 12 #[.agg #[u, v]] V fun e W' => e = .returned (.bool (mayB ns es)) ∧ G V W') :
    Calls Tryz.prog 4 #[.agg #[nv, ev], sv] W fun e W' => e = .returned (.bool true) ∧ G W W' := by
  have hb := hs.gr
  obtain ⟨na, nc, rfl⟩ := h1.form
  obtain ⟨ea, ec, rfl⟩ := h2.form
  obtain ⟨sa, sc, rfl⟩ := h3.form
  obtain ⟨nn, hnn⟩ : ∃ nn, nn = ns.length := ⟨_, rfl⟩
  obtain ⟨en, hen⟩ : ∃ en, en = es.length := ⟨_, rfl⟩
  obtain ⟨sn, hsn⟩ : ∃ sn, sn = ss.length := ⟨_, rfl⟩
  rw [← hnn] at h1 ⊢
  rw [← hen] at h2 ⊢
  rw [← hsn] at h3 ⊢
  obtain ⟨w2, hw2⟩ : ∃ w2, w2 = W.alloc (.cells #[.slice na nn nc, .slice ea en ec] 25) := ⟨_, rfl⟩
  obtain ⟨BG, hBG⟩ : ∃ BG, BG = W.heap.size := ⟨_, rfl⟩
  have hgw : G W w2 := by rw [hw2]; exact (G.refl W).alloc _
  have hbg : Blk w2 BG 25 [.slice na nn nc, .slice ea en ec] := by rw [hw2, hBG]; exact Blk.new W [.slice na nn nc, .slice ea en ec] 25
  have HEW : Hid (W.alloc (.cells #[.slice na nn nc, .slice ea en ec] 25) = w2) := hw2.symm
  have HE1 : Hid (W.heap.size = BG) := hBG.symm
  have KC := hide (copy_g ns es _ _ w2 (h1.G hgw) (h2.G hgw) (by have := hs.n; omega) (by have := hs.e; omega) (fun x hx => by have := hs.p x hx; omega) (fun x hx => by have := hs.q x hx; omega))
  have HOR := hide (And.intro (h1.G hgw) (And.intro (h2.G hgw) (h3.G hgw))); have HSM := hide hs; have HOK := hide hr; have HT := hide (hT.G hgw); have HM := hide hM; have HGB := hide hb; have HB := hide hbg; have HGW := hide hgw; have HSO := hide hso
  have HSL : Hid (sn = ss.length ∧ sn ≤ 1048576) := ⟨hsn, by omega⟩
  have kb := hbg.cell
  clear h1 h2 h3 hs hr hT hM hb hnn hen hsn hw2 hBG hgw hbg hso hsl
  go_enter Tryz.func4, Tryz.ntmps4
  go_wp2_with fail
  rw [HEW.out]
  try rw [HE1.out]
  clear HEW HE1
  refine KC.out.mono ?_
  rintro e w5 ⟨ca, cn, cc, da, dn, dc, rfl, hcn, hdn, hg5⟩
  have HR5 := hide (And.intro (HOR.out.1.G hg5) (HOR.out.2.1.G hg5)); have HS5 := hide (HOR.out.2.2.G hg5); have HT5 := hide (HT.out.G hg5); have HB5 := hide (HB.out.G hg5); have HG5 := hide (HGW.out.trans hg5)
  have KT : Hid (mayB ns es = true → Calls Tryz.prog 10 #[.agg #[.slice ca cn cc, .slice da dn dc]] w5 fun e W' => LoadP w5 W' ns es e ∧ G w5 W') := fun e => load_yes ns es _ _ w5 hcn.rowN' hdn.rowE' HGB.out HOK.out HT5.out e
  have KF : Hid (mayB ns es = false → Calls Tryz.prog 10 #[.agg #[.slice ca cn cc, .slice da dn dc]] w5 fun e W' => e = .returned (.tuple #[.pointer none, I 122]) ∧ G w5 W') := fun e => load_no ns es _ _ w5 hcn.rowN' hdn.rowE' HGB.out HT5.out e
  clear KC hcn hdn hg5 HOR HT HB HGW kb
  cases hm : mayB ns es with
  | false =>
    have KL := hide (KF.out hm)
    have HMY : Hid (∀ V, G w5 V → Calls Tryz.prog 12 #[.agg #[.slice na nn nc, .slice ea en ec]] V fun e W' => e = .returned (.bool false) ∧ G V W') := fun V hV => by
      have := HM.out _ _ V (HR5.out.1.G hV) (HR5.out.2.G hV)
      rw [hm] at this
      exact this
    clear hm KT KF
    go_wp2_with fail
    refine KL.out.mono ?_
    rintro e w6 ⟨rfl, hg6⟩
    have kb := (HB5.out.G hg6).cell
    have HG6 := hide hg6
    clear hg6 KL
    go_wp2_with fail
    refine (HMY.out w6 HG6.out).mono ?_
    rintro e w7 ⟨rfl, hg7'⟩
    have hg7 := HG6.out.trans hg7'
    clear hg7' kb
    have kb := (HB5.out.G hg7).cell
    have HG7 := hide hg7
    clear hg7
    go_wp2_with fail
    refine (HMY.out w7 HG7.out).mono ?_
    rintro e w8 ⟨rfl, hg8'⟩
    have HG8 := hide (HG5.out.trans (HG7.out.trans hg8'))
    clear hg8' kb
    go_wp2_with fail
    go_ret
    exact ⟨rfl, HG8.out⟩
  | true =>
    have KL := hide (KT.out hm)
    have HMY : Hid (∀ V, G w5 V → Calls Tryz.prog 12 #[.agg #[.slice na nn nc, .slice ea en ec]] V fun e W' => e = .returned (.bool true) ∧ G V W') := fun V hV => by
      have := HM.out _ _ V (HR5.out.1.G hV) (HR5.out.2.G hV)
      rw [hm] at this
      exact this
    have HRS : Hid ((ns.map fun y => y.id).Pairwise (· < ·) ∧ (es.map fun y => y.id).Pairwise (· < ·)) := by
      have e := hm
      unfold mayB at e
      simp only [Bool.and_eq_true] at e
      exact ⟨(riseB_pairs _ _ e.1.1.1).1, (riseB_pairs _ _ e.1.1.2).1⟩
    clear hm KT KF
    go_wp2_with fail
    refine KL.out.mono ?_
    rintro e w6 ⟨⟨mb, nid, eid, m1, m2, b1, b2, g1, g2, f1, f2, rfl, hMG⟩, hg6⟩
    have kb := (HB5.out.G hg6).cell
    have HG6 := hide hg6
    have HMQ6 : Hid (MemQ w5.heap.size w6 mb ns es (.slice none 0 0) []) := ⟨⟨nid, eid, m1, m2, b1, b2, g1, g2, f1, f2, hMG⟩, Sw.nil _ _ _, fun k e => by simp [Value.ownBlock] at e⟩
    clear hg6 KL hMG
    go_wp2_with fail
    refine (HMY.out w6 HG6.out).mono ?_
    rintro e w7 ⟨rfl, hg7'⟩
    have hg7 := HG6.out.trans hg7'
    have HMQ7 := hide (HMQ6.out.G hg7')
    clear hg7' kb HMQ6
    have kb := (HB5.out.G hg7).cell
    have HG7 := hide hg7
    clear hg7
    go_wp2_with fail
    refine (HMY.out w7 HG7.out).mono ?_
    rintro e w8 ⟨rfl, hg8'⟩
    have HMQ8 := hide (HMQ7.out.G hg8')
    have HG8 := hide (HG7.out.trans hg8')
    clear hg8' kb HMQ7 HG7 HG6 HMY HM
    go_wp2_with fail
    go_loopw [8, 7, 9] (fun iv av _ wr => ∃ (i : Nat) (qs : List As) (qa : Option Addr) (qn qc : Nat) (ra : Option Addr) (rn rc : Nat), iv = I i ∧ i ≤ ss.length ∧ qs.length ≤ i ∧ av = .slice ra rn rc ∧ MemQ w5.heap.size wr mb ns es (.slice qa qn qc) qs ∧ Sw eA 49 wr (.slice ra rn rc) qs ∧ Fresh w5 (.slice ra rn rc) ∧ (∀ k, (Value.slice ra rn rc).ownBlock = some k → (Value.slice qa qn qc).ownBlock ≠ some k) ∧ G w5 wr) (fun iv _ _ _ => ss.length - (RowKit.intOf iv).toNat)
    case atStart => exact ⟨0, [], none, 0, 0, none, 0, 0, rfl, Nat.zero_le _, Nat.le_refl _, rfl, HMQ8.out, Sw.nil _ _ _, Fresh.nil _, (fun k e => by simp [Value.ownBlock] at e), HG8.out⟩
    case round =>
      clear HMQ8 HG8
      obtain ⟨i, qs, qa, qn, qc, ra, rn, rc, rfl, hik, hql, rfl, hmq, hsa, hfa, hdi, hg⟩ := hrel
      have hsl := HSL.out
      have HMQ := hide hmq; have HSA := hide hsa; have HFA := hide hfa; have HDI := hide hdi; have HG := hide hg
      have HQL : Hid (qs.length ≤ 1048576) := by show _ ≤ _; omega
      have HQI := hide hql
      have HBG := hide (HB5.out.G hg)
      clear hmq hsa hfa hdi
      by_cases hil : i < ss.length
      · obtain ⟨x, hx⟩ : ∃ x, ss[i]? = some x := ⟨_, List.getElem?_eq_getElem hil⟩
        have HIL := hide hil
        have HXO := hide (HSO.out x (List.mem_of_getElem? hx))
        obtain ⟨g, o, cp, qq⟩ := HS5.out.addr (by omega)
        injection qq with p1 p2 p3
        subst p1 p3
        obtain ⟨cs, ⟨pa, pn, pc, hcs⟩, hr1⟩ := HS5.out.at hx
        subst hcs
        obtain ⟨dd, hdd⟩ : ∃ dd, dd = x.d := ⟨_, rfl⟩
        rw [← hdd] at hr1
        have HX16 : Hid (wr.rangeAt g (o + i * 16) [I dd, I x.id, I x.tt, .string x.name, .string x.key, I x.k, I x.a, I x.b, .string x.s, .slice pa pn pc, .bool x.flag, I x.n, I x.lv, .string x.lb, I x.rid, I x.md]) := rangeAt_G hr1 hg
        have i1 : (i : Int) < (sn : Int) := by omega
        have HW : Hid (wrap64 ((i : Int) + 1) = (i : Int) + 1) := by show _ = _; unfold wrap64; omega
        obtain ⟨w3, hw3⟩ : ∃ w3, w3 = (wr.alloc (.cells #[I dd, I x.id, I x.tt, .string x.name, .string x.key, I x.k, I x.a, I x.b, .string x.s, .slice pa pn pc, .bool x.flag, I x.n, I x.lv, .string x.lb, I x.rid, I x.md] 46)) := ⟨_, rfl⟩
        obtain ⟨B9, hB9⟩ : ∃ B9, B9 = wr.heap.size := ⟨_, rfl⟩
        have hg3 : G wr w3 := by rw [hw3]; exact (G.refl wr).alloc _
        have hb9 : Blk w3 B9 46 [I dd, I x.id, I x.tt, .string x.name, .string x.key, I x.k, I x.a, I x.b, .string x.s, .slice pa pn pc, .bool x.flag, I x.n, I x.lv, .string x.lb, I x.rid, I x.md] := by rw [hw3, hB9]; exact Blk.new wr [I dd, I x.id, I x.tt, .string x.name, .string x.key, I x.k, I x.a, I x.b, .string x.s, .slice pa pn pc, .bool x.flag, I x.n, I x.lv, .string x.lb, I x.rid, I x.md] 46
        have HEW : Hid ((wr.alloc (.cells #[I dd, I x.id, I x.tt, .string x.name, .string x.key, I x.k, I x.a, I x.b, .string x.s, .slice pa pn pc, .bool x.flag, I x.n, I x.lv, .string x.lb, I x.rid, I x.md] 46)) = w3) := hw3.symm
        have HE9 : Hid (wr.heap.size = B9) := hB9.symm
        have HB9 := hide hb9; have HG3 := hide hg3
        have k9 := hb9.cell
        have kg := (HBG.out.G hg3).cell
        have R9 : Hid (w3.rangeAt B9 0 [I dd, I x.id, I x.tt, .string x.name, .string x.key, I x.k, I x.a, I x.b, .string x.s, .slice pa pn pc, .bool x.flag, I x.n, I x.lv, .string x.lb, I x.rid, I x.md]) := fun j u hj => by rw [Nat.zero_add, hb9.cell]; exact hj
        clear hik hql hil hx p2 hr1 hdd hw3 hB9 hg3 hb9 hsl hg
        by_cases h10 : 10 ≤ dd ∧ dd ≤ 16
        · obtain ⟨h1, h2⟩ := h10
          have d3 : (dd == 17) = false := beq_false_of_ne (by omega)
          have d4 : ¬ dd = 17 := by omega
          have H12 := hide (And.intro h1 h2)
          have KM := hide (mem_any w5.heap.size mb ns es _ qs na nn nc ea en ec dd x pa pn pc w5 w3 (HMQ.out.G HG3.out) ⟨HR5.out.1, HR5.out.2, HG.out.trans HG3.out, Nat.le_refl _, HSM.out, HOK.out, HRS.out.1, HRS.out.2, HT5.out, by have := HQL.out; omega⟩ h1 h2 HXO.out)
          go_wp2_with (first | (refine wpList_load_mid rfl 46 _ rfl g (o + i * 16) rfl [I dd, I x.id, I x.tt, .string x.name, .string x.key, I x.k, I x.a, I x.b, .string x.s, .slice pa pn pc, .bool x.flag, I x.n, I x.lv, .string x.lb, I x.rid, I x.md] _ HX16.out Tryz.underlying46 rfl (by kernel_rfl) ?_) | (refine wpList_load_mid rfl 46 _ rfl B9 0 rfl [I dd, I x.id, I x.tt, .string x.name, .string x.key, I x.k, I x.a, I x.b, .string x.s, .slice pa pn pc, .bool x.flag, I x.n, I x.lv, .string x.lb, I x.rid, I x.md] _ R9.out Tryz.underlying46 rfl (by kernel_rfl) ?_) | (rw [HEW.out]; (try rw [HE9.out]); clear HEW) | fail)
          refine KM.out.mono ?_
          rintro e w4 ⟨rfl, qa', qn', qc', hn⟩
          have hq3 := HMQ.out.G HG3.out
          have hfx := hn.fx hq3
          have hb94 := HB9.out.fx hfx (by decide)
          have hg4 := hn.old hq3 (HG.out.trans HG3.out) (Nat.le_refl _)
          have hsa4 : Sw eA 49 w4 (.slice ra rn rc) qs := (HSA.out.G HG3.out).chg hn.chg (fun b e q => by
            rcases q with q | q
            · subst q
              obtain ⟨nid, eid, m1, m2, b1, b2, g1, g2, f1, f2, hm⟩ := HMQ.out.mem
              exact HSA.out.ne hm.blk (by decide) e
            · exact HDI.out b e q)
          have hdi4 : ∀ k, (Value.slice ra rn rc).ownBlock = some k → (Value.slice qa' qn' qc').ownBlock ≠ some k := fun k e q => by
            rcases hn.own k q with r | r
            · exact HDI.out k e r
            · have := HSA.out.lt e; have := HG3.out.size; omega
          have HN := hide hn.m
          have HB94 := hide hb94; have HG4 := hide hg4; have HSA4 := hide hsa4; have HDI4 := hide hdi4
          have R94 : Hid (w4.rangeAt B9 0 [I dd, I x.id, I x.tt, .string x.name, .string x.key, I x.k, I x.a, I x.b, .string x.s, .slice pa pn pc, .bool x.flag, I x.n, I x.lv, .string x.lb, I x.rid, I x.md]) := fun j u hj => by rw [Nat.zero_add, HB94.out.cell]; exact hj
          obtain ⟨y, hy⟩ : ∃ y, y = callOf dd x := ⟨_, rfl⟩
          have KS := hide (sc_any dd x pa pn pc w4 h1 h2 y hy)
          have HY := hide hy
          clear hn hq3 hfx hb94 hg4 hsa4 hdi4 KM k9 kg R9 hy
          have k9 := HB94.out.cell
          go_wp2_with (first | (refine wpList_load_mid rfl 46 _ rfl B9 0 rfl [I dd, I x.id, I x.tt, .string x.name, .string x.key, I x.k, I x.a, I x.b, .string x.s, .slice pa pn pc, .bool x.flag, I x.n, I x.lv, .string x.lb, I x.rid, I x.md] _ R94.out Tryz.underlying46 rfl (by kernel_rfl) ?_) | fail)
          refine KS.out.mono ?_
          rintro e w6 ⟨rfl, hg6⟩
          have hq6 := HN.out.G hg6
          have hsa6 := HSA4.out.G hg6
          obtain ⟨i0, hi0, hz0, hz1, hz2⟩ := info_A
          have hmx : (1048577 : Nat) ≤ maxLen := of_decide_eq_true (by kernel_rfl)
          have hrn := hsa6.len_eq
          have hlen := HQL.out
          have hlit : Row eA.rel (w6.alloc (.cells #[I y.what, I y.id, .string y.label, .string y.key, I y.k, I y.a, I y.b, .string y.s, I y.lv, .string y.lb, I y.rid, I y.md] 49)) (.slice (some ⟨w6.heap.size, 0, none⟩) 1 1) [y] := by
            have := Row.lit (E := eA) w6 49 [y] 1 (by simp)
            rw [show eA.fl [y] = eA.e y by simp [Enc.fl]] at this
            exact this
          obtain ⟨a5, c5, w7, r1, r2, r3, r4, r5⟩ := pushE (P := Tryz.prog) (tr := 39) i0 _ 128 Tryz.underlying39 hi0 hz0 hz1 hz2 rfl (by decide) hsa6 y ((G.refl w6).alloc (.cells #[I y.what, I y.id, .string y.label, .string y.key, I y.k, I y.a, I y.b, .string y.s, I y.lv, .string y.lb, I y.rid, I y.md] 49)) hlit (by omega) (by omega)
          have HF : Hid (MemQ w5.heap.size w7 mb ns es (.slice qa' qn' qc') (qs ++ [callOf dd x]) ∧ Sw eA 49 w7 (.slice a5 (rn + 1) c5) (qs ++ [callOf dd x]) ∧ Fresh w5 (.slice a5 (rn + 1) c5) ∧ (∀ k, (Value.slice a5 (rn + 1) c5).ownBlock = some k → (Value.slice qa' qn' qc').ownBlock ≠ some k) ∧ G w5 w7) := by
            refine ⟨hq6.app (r3 []) r4 (fun b e q => HDI4.out b q e), ?_, fun k e => ?_, fun k e q => ?_, ?_⟩
            · rw [← HY.out]; exact r2
            · rcases r5 k e with r | r
              · exact HFA.out k r
              · have := (HG4.out.trans hg6).size; omega
            · rcases r5 k e with r | r
              · exact HDI4.out k r q
              · have := hq6.row.lt q; omega
            · exact ((((HG4.out.trans hg6).chg (F := fun _ => False)).more r4 (fun i hi q => by have := HFA.out i q; omega)).G (fun _ q => q.elim))
          have hb97 := (HB94.out.G hg6).fx (r3 []) (by decide)
          have k97 := hb97.cell
          have HR := hide r1
          clear hg6 hq6 hsa6 hi0 hz0 hz1 hz2 hmx hrn hlen hlit r1 r2 r3 r4 r5 hb97 KS k9 h1 h2 HN
          go_wp2_with (first | (at_builtin; refine wpList_append_run rfl _ _ 39 rfl (.slice ra rn rc) (.slice (some ⟨w6.heap.size, 0, none⟩) 1 1) rfl rfl HR.out ?_) | fail)
          obtain ⟨f1, f2, f3, f4, f5⟩ := HF.out
          exact ⟨⟨i + 1, _, qa', qn', qc', a5, rn + 1, c5, by rw [HW.out]; exact srl i, HIL.out, by rw [List.length_append]; have := HQI.out; simp; omega, rfl, f1, f2, f3, f4, f5⟩, by rw [HW.out]; exact sms HIL.out⟩
        · by_cases h17 : dd = 17
          · subst h17
            have KA := hide (asked_any w5.heap.size mb ns es _ qs w3 (HMQ.out.G HG3.out) (by have := HQL.out; omega))
            clear h10
            go_wp2_with (first | (refine wpList_load_mid rfl 46 _ rfl g (o + i * 16) rfl [I 17, I x.id, I x.tt, .string x.name, .string x.key, I x.k, I x.a, I x.b, .string x.s, .slice pa pn pc, .bool x.flag, I x.n, I x.lv, .string x.lb, I x.rid, I x.md] _ HX16.out Tryz.underlying46 rfl (by kernel_rfl) ?_) | (rw [HEW.out]; (try rw [HE9.out]); clear HEW) | fail)
            refine KA.out.mono ?_
            rintro e w4 ⟨ya, yn, yc, rfl, hy, hyf, qa', qn', qc', hn⟩
            have hq3 := HMQ.out.G HG3.out
            have hg4 := hn.old hq3 (HG.out.trans HG3.out) (Nat.le_refl _)
            have hsa4 : Sw eA 49 w4 (.slice ra rn rc) qs := (HSA.out.G HG3.out).chg hn.chg (fun b e q => by
              rcases q with q | q
              · subst q
                obtain ⟨nid, eid, m1, m2, b1, b2, g1, g2, f1, f2, hm⟩ := HMQ.out.mem
                exact HSA.out.ne hm.blk (by decide) e
              · exact HDI.out b e q)
            have KQ := hide (sasked_any qs _ _ w4 hy.toRow hsa4.toRow (by have := HQL.out; omega))
            have HN := hide hn.m; have HG4 := hide hg4
            clear hy hyf hn hq3 hg4 hsa4 KA k9 kg R9
            go_wp2_with fail
            refine KQ.out.mono ?_
            rintro e w6 ⟨rfl, hg6⟩
            have HF : Hid (MemQ w5.heap.size w6 mb ns es (.slice qa' qn' qc') [] ∧ G w5 w6) := ⟨HN.out.G hg6, HG4.out.trans hg6⟩
            clear hg6 KQ
            go_wp2_with fail
            exact ⟨⟨i + 1, [], qa', qn', qc', none, 0, 0, by rw [HW.out]; exact srl i, HIL.out, Nat.zero_le _, rfl, HF.out.1, Sw.nil _ _ _, Fresh.nil _, (fun k e => by simp [Value.ownBlock] at e), HF.out.2⟩, by rw [HW.out]; exact sms HIL.out⟩
          · have d3 : (dd == 17) = false := beq_false_of_ne h17
            have HF : Hid (MemQ w5.heap.size w3 mb ns es (.slice qa qn qc) qs ∧ Sw eA 49 w3 (.slice ra rn rc) qs ∧ G w5 w3) := ⟨HMQ.out.G HG3.out, HSA.out.G HG3.out, HG.out.trans HG3.out⟩
            have fin : ∀ j : Nat, j = i + 1 → True := fun _ _ => trivial
            by_cases h1 : 10 ≤ dd
            · have h2 : ¬ dd ≤ 16 := fun q => h10 ⟨h1, q⟩
              clear h10 fin
              go_wp2_with (first | (refine wpList_load_mid rfl 46 _ rfl g (o + i * 16) rfl [I dd, I x.id, I x.tt, .string x.name, .string x.key, I x.k, I x.a, I x.b, .string x.s, .slice pa pn pc, .bool x.flag, I x.n, I x.lv, .string x.lb, I x.rid, I x.md] _ HX16.out Tryz.underlying46 rfl (by kernel_rfl) ?_) | (rw [HEW.out]; (try rw [HE9.out]); clear HEW) | fail)
              obtain ⟨f1, f2, f3⟩ := HF.out
              exact ⟨⟨i + 1, qs, qa, qn, qc, ra, rn, rc, by rw [HW.out]; exact srl i, HIL.out, Nat.le_succ_of_le HQI.out, rfl, f1, f2, HFA.out, HDI.out, f3⟩, by rw [HW.out]; exact sms HIL.out⟩
            · clear h10 fin
              go_wp2_with (first | (refine wpList_load_mid rfl 46 _ rfl g (o + i * 16) rfl [I dd, I x.id, I x.tt, .string x.name, .string x.key, I x.k, I x.a, I x.b, .string x.s, .slice pa pn pc, .bool x.flag, I x.n, I x.lv, .string x.lb, I x.rid, I x.md] _ HX16.out Tryz.underlying46 rfl (by kernel_rfl) ?_) | (rw [HEW.out]; (try rw [HE9.out]); clear HEW) | fail)
              obtain ⟨f1, f2, f3⟩ := HF.out
              exact ⟨⟨i + 1, qs, qa, qn, qc, ra, rn, rc, by rw [HW.out]; exact srl i, HIL.out, Nat.le_succ_of_le HQI.out, rfl, f1, f2, HFA.out, HDI.out, f3⟩, by rw [HW.out]; exact sms HIL.out⟩
      · have i1 : ¬ (i : Int) < (sn : Int) := by omega
        have KA : Hid (∀ V, G wr V → _) := fun V hV => asked_any w5.heap.size mb ns es _ qs V (HMQ.out.G hV) (by have := HQL.out; omega)
        clear hik hql hil hsl hg
        go_wp2_with fail
        clear i1
        refine wp_region_noPanic ?_
        refine wp_region_held_drew (S := (fun V => ∀ t, V.cell? ⟨BG, t, none⟩ = ([.slice na nn nc, .slice ea en ec] : List Value)[t]?)) (by kernel_rfl) (HBG.out.drew.cell) (fun hHeld => ?_)
        refine wpAnyH_take (i := 0) (v := ?_) rfl (by kernel_rfl) (by kernel_rfl) (by kernel_rfl) (fun _ _ _ h => h) (Or.inl ⟨by rfl, ?_⟩) hHeld ?_
        rotate_left 1
        · (intro w hSw; (try dsimp only at hSw); go_simp; try with_reducible rfl)
        try simp only [Act.put, List.getElem_toArray, List.getElem_cons_zero, List.setIfInBounds_toArray, List.set_cons_zero, List.set_cons_succ]
        refine wpAnyH_take (i := 2) (v := ?_) rfl (by kernel_rfl) (by kernel_rfl) (by kernel_rfl) (fun _ _ _ h => h) (Or.inl ⟨by rfl, ?_⟩) hHeld ?_
        rotate_left 1
        · (intro w hSw; (try dsimp only at hSw); go_simp; try with_reducible rfl)
        try simp only [Act.put, List.getElem_toArray, List.getElem_cons_zero, List.getElem_cons_succ, List.setIfInBounds_toArray, List.set_cons_zero, List.set_cons_succ]
        refine wpAnyH_ready (rs := [1]) (by kernel_rfl) (by simp) (AllReadyH.cons rfl (fun K hK => ?_) AllReadyH.nil)
        clear hHeld
        (try refine (if_pos rfl).mpr ?_)
        go_simp
        refine (KA.out _ ((G.refl wr).drew)).mono ?_
        rintro e u2 ⟨ya, yn, yc, rfl, hy, hyf, qa', qn', qc', hn⟩
        have hbg2 := (HBG.out.drew).fx (hn.fx (HMQ.out.G ((G.refl wr).drew))) (by decide)
        have hav2 : Sw eA 49 u2 (.slice ra rn rc) qs := (HSA.out.G ((G.refl wr).drew)).chg hn.chg (fun b e q => by
          rcases q with q | q
          · subst q
            obtain ⟨nid, eid, m1, m2, b1, b2, g1, g2, f1, f2, hm⟩ := HMQ.out.mem
            exact HSA.out.ne hm.blk (by decide) e
          · exact HDI.out b e q)
        have HU2 := hide (And.intro hy (And.intro hav2 (And.intro hbg2 (And.intro hn.m (hn.old (HMQ.out.G ((G.refl wr).drew)) HG.out.drew (Nat.le_refl _))))))
        clear hy hyf hn hbg2 hav2 KA
        go_wp2_with fail
        refine hK.out _ _ (HU2.out.2.2.1.cell) (fun hHeld => ?_)
        clear hK K
        try simp only [Act.put, List.getElem_toArray, List.getElem_cons_zero, List.getElem_cons_succ, List.setIfInBounds_toArray, List.set_cons_zero, List.set_cons_succ]
        refine wpAnyH_ready (rs := [3]) (by kernel_rfl) (by simp) (AllReadyH.cons rfl (fun K hK => ?_) AllReadyH.nil)
        clear hHeld
        (try refine (if_pos rfl).mpr ?_)
        go_simp
        refine (sasked_any qs _ _ u2 HU2.out.1.toRow HU2.out.2.1.toRow (by have := HQL.out; omega)).mono ?_
        rintro e u3 ⟨rfl, hg3⟩
        have HU3 := hide (And.intro (HU2.out.2.2.1.G hg3) (And.intro (HU2.out.2.2.2.1.G hg3) (HU2.out.2.2.2.2.trans hg3)))
        clear hg3 HU2
        go_wp2_with fail
        refine hK.out _ _ (HU3.out.1.cell) (fun hHeld => ?_)
        clear hK K
        try simp only [Act.put, List.getElem_toArray, List.getElem_cons_zero, List.getElem_cons_succ, List.setIfInBounds_toArray, List.set_cons_zero, List.set_cons_succ]
        refine wpAnyH_take (i := 4) (v := ?_) rfl (by kernel_rfl) (by kernel_rfl) (by kernel_rfl) (fun _ _ _ h => h) (Or.inl ⟨by rfl, ?_⟩) hHeld ?_
        rotate_left 1
        · (intro w hSw; (try dsimp only at hSw); go_simp; try with_reducible rfl)
        try simp only [Act.put, List.getElem_toArray, List.getElem_cons_zero, List.getElem_cons_succ, List.setIfInBounds_toArray, List.set_cons_zero, List.set_cons_succ]
        refine wpAnyH_take (i := 5) (v := ?_) rfl (by kernel_rfl) (by kernel_rfl) (by kernel_rfl) (fun _ _ _ h => h) (Or.inl ⟨by rfl, ?_⟩) hHeld ?_
        rotate_left 1
        · (intro w hSw; (try dsimp only at hSw); go_simp; try with_reducible rfl)
        try simp only [Act.put, List.getElem_toArray, List.getElem_cons_zero, List.getElem_cons_succ, List.setIfInBounds_toArray, List.set_cons_zero, List.set_cons_succ]
        refine wpAnyH_take (i := 7) (v := ?_) rfl (by kernel_rfl) (by kernel_rfl) (by kernel_rfl) (fun _ _ _ h => h) (Or.inl ⟨by rfl, ?_⟩) hHeld ?_
        rotate_left 1
        · (intro w hSw; have q1 := hSw; go_simp; try with_reducible rfl)
        try simp only [Act.put, List.getElem_toArray, List.getElem_cons_zero, List.getElem_cons_succ, List.setIfInBounds_toArray, List.set_cons_zero, List.set_cons_succ]
        refine wpAnyH_ready (rs := [6]) (by kernel_rfl) (by simp) (AllReadyH.cons rfl (fun K hK => ?_) AllReadyH.nil)
        clear hHeld
        (try refine (if_pos rfl).mpr ?_)
        go_simp
        obtain ⟨nid, eid, m1, m2, b1, b2, g1, g2, f1, f2, hm⟩ := HU3.out.2.1.mem
        refine (graph_any _ mb ns es _ nid eid m1 m2 b1 b2 g1 g2 f1 f2 u3 hm HOK.out HGB.out).mono ?_
        rintro e u4 ⟨xa, xn, xc, za, zn, zc, rfl, hx, hz, hg4⟩
        have HU4 := hide (And.intro (HU3.out.1.G hg4) (And.intro (HU3.out.2.2.trans hg4) (And.intro hx hz)))
        clear hg4 hm hx hz HU3
        go_wp2_with fail
        refine hK.out _ _ (HU4.out.1.cell) (fun hHeld => ?_)
        clear hK K
        try simp only [Act.put, List.getElem_toArray, List.getElem_cons_zero, List.getElem_cons_succ, List.setIfInBounds_toArray, List.set_cons_zero, List.set_cons_succ]
        refine wpAnyH_ready (rs := [8]) (by kernel_rfl) (by simp) (AllReadyH.cons rfl (fun K hK => ?_) AllReadyH.nil)
        clear hHeld
        (try refine (if_pos rfl).mpr ?_)
        go_simp
        refine (sgraph_any ns es _ _ _ _ u4 HU4.out.2.2.1.rowN' HU4.out.2.2.2.rowE' (HR5.out.1.G HU4.out.2.1) (HR5.out.2.G HU4.out.2.1) HGB.out).mono ?_
        rintro e u5 ⟨rfl, hg5⟩
        have HU5 := hide (And.intro (HU4.out.1.G hg5) (HU4.out.2.1.trans hg5))
        clear hg5 HU4
        go_wp2_with fail
        refine hK.out _ _ (HU5.out.1.cell) (fun hHeld => ?_)
        clear hK K
        try simp only [Act.put, List.getElem_toArray, List.getElem_cons_zero, List.getElem_cons_succ, List.setIfInBounds_toArray, List.set_cons_zero, List.set_cons_succ]
        refine wpAnyH_take (i := 9) (v := ?_) rfl (by kernel_rfl) (by kernel_rfl) (by kernel_rfl) (fun _ _ _ h => h) (Or.inl ⟨by rfl, ?_⟩) hHeld ?_
        rotate_left 1
        · (intro w hSw; (try dsimp only at hSw); go_simp; try with_reducible rfl)
        try simp only [Act.put, List.getElem_toArray, List.getElem_cons_zero, List.getElem_cons_succ, List.setIfInBounds_toArray, List.set_cons_zero, List.set_cons_succ]
        refine wpAnyH_take (i := 10) (v := ?_) rfl (by kernel_rfl) (by kernel_rfl) (by kernel_rfl) (fun _ _ _ h => h) (Or.inl ⟨by rfl, ?_⟩) hHeld ?_
        rotate_left 1
        · (intro w hSw; (try dsimp only at hSw); go_simp; try with_reducible rfl)
        try simp only [Act.put, List.getElem_toArray, List.getElem_cons_zero, List.getElem_cons_succ, List.setIfInBounds_toArray, List.set_cons_zero, List.set_cons_succ]
        refine wpAnyH_done (by kernel_rfl) ?_ _
        refine NoPanic.normal ?_
        go_wp2_with fail
        go_ret
        exact ⟨rfl, HG5.out.trans HU5.out.2⟩
end Go.Proofs.YtifioikdhfhljaaGreatDoor
