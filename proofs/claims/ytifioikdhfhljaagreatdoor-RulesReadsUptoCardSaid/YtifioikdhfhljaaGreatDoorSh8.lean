/- Graphs: Load. -/
import Derived.Test.YtifioikdhfhljaaGreatDoorSh7
namespace Go.Proofs.YtifioikdhfhljaaGreatDoor
open Go.RowKit Go.Maps

theorem Sw.len_eq {α : Type} {E : Enc α} {ty : TypeId} {w : World} {a : Option Addr} {n c : Nat} {l : List α} (h : Sw E ty w (.slice a n c) l) : l.length = n := by
  obtain ⟨_, _, e⟩ := h.form
  cases e; rfl
/-- An id more, at the end of a row of our own: what stays, whose it is. -/
theorem pushI {W w : World} {ra : Option Addr} {rn rc : Nat} {l : List Int} (h : Sw eI 2 w (.slice ra rn rc) l) (x : Int) (hg : G W w) (hf : Fresh W (.slice ra rn rc)) (hb : rn ≤ 4000000000000) :
    ∃ a c w', (Builtin.append_ #[73, 73] 73 #[.slice ra rn rc, .slice (some ⟨w.heap.size, 0, none⟩) 1 1]).run Tryz.prog (w.alloc (.cells #[I x] 2)).drew = .ok (.slice a (rn + 1) c) w' ∧ Sw eI 2 w' (.slice a (rn + 1) c) (l ++ [x]) ∧ G W w' ∧ Fresh W (.slice a (rn + 1) c) ∧ Fx [2] [] w w' ∧
      (∀ k, k < w.heap.size → (Value.slice ra rn rc).ownBlock ≠ some k → w'.heap[k]? = w.heap[k]?) ∧ ∀ k, (Value.slice a (rn + 1) c).ownBlock = some k → (Value.slice ra rn rc).ownBlock = some k ∨ w.heap.size ≤ k := by
  obtain ⟨i0, hi0, hz0, hz1, hz2⟩ := info_64
  have hln := h.len_eq
  have hA : G w (w.alloc (.cells #[I x] 2)).drew := ((G.refl w).alloc _).drew
  have hmx : (4000000000001 : Nat) ≤ maxLen := of_decide_eq_true (by kernel_rfl)
  have hlit : Row eI.rel (w.alloc (.cells #[I x] 2)).drew (.slice (some ⟨w.heap.size, 0, none⟩) 1 1) [x] := (Row.lit (E := eI) w 2 [x] 1 (by simp)).G ((G.refl _).drew)
  obtain ⟨v', w5, q1, q2, q3, q4⟩ := app_row (P := Tryz.prog) (tr := 73) i0 _ 8 Tryz.underlying73 hi0 hz0 hz1 hz2 rfl (by decide) (h.G hA) hlit (by simp; omega) (by simp; omega)
  obtain ⟨a5, c5, hv'⟩ := q2.form
  rw [List.length_append, hln] at hv'
  obtain rfl : v' = .slice a5 (rn + 1) c5 := hv'
  obtain ⟨f5, g5⟩ := hf.app (hg.trans hA) q3 q4
  refine ⟨a5, c5, w5, q1, q2, g5, f5, (Fx.of_G hA).trans (Fx.own q3 (h.G hA) (by simp)), fun k hk hn => (q3.block k (Nat.lt_of_lt_of_le hk hA.size) hn).trans (hA.block k hk), fun k e => ?_⟩
  rcases q4 with q | q
  · exact .inl (q ▸ e)
  · rw [q] at e
    have := Option.some.inj e
    have := hA.size
    exact .inr (by omega)
theorem FanG.base {lo lo' : Nat} {w : World} {b1 b2 : Nat} {g1 g2 : Int → Option Value} {F1 F2 : Int → List Int} (h : FanG lo w b1 b2 g1 g2 F1 F2) (hl : lo' ≤ lo) : FanG lo' w b1 b2 g1 g2 F1 F2 :=
  ⟨⟨h.s1.mp, h.s1.row, fun a k e => Nat.le_trans hl (h.s1.lob a k e), h.s1.dis, h.s1.key, Nat.le_trans hl h.s1.at_⟩, ⟨h.s2.mp, h.s2.row, fun a k e => Nat.le_trans hl (h.s2.lob a k e), h.s2.dis, h.s2.key, Nat.le_trans hl h.s2.at_⟩, h.ne, h.dis⟩
/-- A graph in memory, whose blocks all lie from lo on; qv: what it was asked. -/
structure MemG (lo : Nat) (w : World) (mb : Nat) (ns : List Nd) (es : List Ed) (qv : Value) (nid eid : Value) (m1 m2 b1 b2 : Nat) (g1 g2 f1 f2 : Int → Option Value) : Prop where
  blk : Blk w mb 81 [I 70, nid, .map (some m1), I 71, eid, .map (some m2), .map (some b1), .map (some b2), qv]
  nrow : Sw eI 2 w nid (ns.map fun y => y.id)
  erow : Sw eI 2 w eid (es.map fun y => y.id)
  nlo : ∀ k, nid.ownBlock = some k → lo ≤ k
  elo : ∀ k, eid.ownBlock = some k → lo ≤ k
  ntb : TbM lo w m1 (ns.map Nd.ed) g1
  etb : TbM lo w m2 es g2
  fan : FanG lo w b1 b2 f1 f2 (fanF (fun y => y.fr) es) (fanF (fun y => y.to) es)
  at_ : lo ≤ mb ∧ lo ≤ m1 ∧ lo ≤ m2
theorem MemG.keep {lo : Nat} {w w' : World} {mb : Nat} {ns : List Nd} {es : List Ed} {qv nid eid : Value} {m1 m2 b1 b2 : Nat} {g1 g2 f1 f2 : Int → Option Value} (h : MemG lo w mb ns es qv nid eid m1 m2 b1 b2 g1 g2 f1 f2) (hk : ∀ k, lo ≤ k → k < w.heap.size → w'.heap[k]? = w.heap[k]?) : MemG lo w' mb ns es qv nid eid m1 m2 b1 b2 g1 g2 f1 f2 :=
  ⟨h.blk.keep (hk mb h.at_.1 h.blk.lt), h.nrow.keep (fun k e => hk k (h.nlo k e) (h.nrow.lt e)), h.erow.keep (fun k e => hk k (h.elo k e) (h.erow.lt e)), h.nlo, h.elo, h.ntb.keep h.at_.2.1 hk, h.etb.keep h.at_.2.2 hk, h.fan.keepLo hk, h.at_⟩
theorem MemG.G {lo : Nat} {w w' : World} {mb : Nat} {ns : List Nd} {es : List Ed} {qv nid eid : Value} {m1 m2 b1 b2 : Nat} {g1 g2 f1 f2 : Int → Option Value} (h : MemG lo w mb ns es qv nid eid m1 m2 b1 b2 g1 g2 f1 f2) (k : Go.Proofs.YtifioikdhfhljaaGreatDoor.G w w') : MemG lo w' mb ns es qv nid eid m1 m2 b1 b2 g1 g2 f1 f2 := h.keep fun i _ hi => k.block i hi
/-- The ids that stand in it are ids. -/
def IdOk (ns : List Nd) (es : List Ed) : Prop := (∀ x ∈ ns, R64 x.id ∧ True) ∧ ∀ x ∈ es, R64 x.id ∧ R64 x.fr ∧ R64 x.to
def LoadP (W W' : World) (ns : List Nd) (es : List Ed) (e : Ending) : Prop := ∃ mb nid eid m1 m2 b1 b2 g1 g2 f1 f2, e = .returned (.tuple #[ptr mb, I 0]) ∧ MemG W.heap.size W' mb ns es (.slice none 0 0) nid eid m1 m2 b1 b2 g1 g2 f1 f2
set_option maxRecDepth 100000 in
set_option maxHeartbeats 4000000 in
theorem load_no (ns : List Nd) (es : List Ed) (nv ev : Value) (W : World) (h1 : Row relN W nv ns) (h2 : Row relE W ev es) (hb : GrB ns es) (hT : Tabs W) (hm : mayB ns es = false) : Calls Tryz.prog 10 #[.agg #[nv, ev]] W fun e W' => e = .returned (.tuple #[.pointer none, I 122]) ∧ G W W' := by
  obtain ⟨sa, sc, rfl⟩ := h1.form
  obtain ⟨ta, tc, rfl⟩ := h2.form
  have gA : G W (W.alloc (.cells #[.slice sa ns.length sc, .slice ta es.length tc] 25)) := (G.refl W).alloc _
  have K := hide (loadable_any ns es _ _ (W.alloc (.cells #[.slice sa ns.length sc, .slice ta es.length tc] 25)) (h1.G gA) (h2.G gA) hb (hT.G gA))
  rw [hm] at K
  have HA := hide gA
  clear h1 h2 hb hT hm gA
  go_enter Tryz.func10, Tryz.ntmps10
  go_wp2_with fail
  refine K.out.mono ?_
  rintro e w1 ⟨rfl, g1⟩
  have HG := hide (HA.out.trans g1)
  clear K g1 HA
  go_wp2_with fail
  go_ret2
  exact ⟨rfl, HG.out⟩
set_option maxRecDepth 100000 in
set_option maxHeartbeats 8000000 in
theorem load_yes (ns : List Nd) (es : List Ed) (nv ev : Value) (W : World) (h1 : Row relN W nv ns) (h2 : Row relE W ev es) (hb : GrB ns es) (hr : IdOk ns es) (hT : Tabs W) (hm : mayB ns es = true) : Calls Tryz.prog 10 #[.agg #[nv, ev]] W fun e W' => LoadP W W' ns es e ∧ G W W' := by
  obtain ⟨sa, sc, rfl⟩ := h1.form
  obtain ⟨ta, tc, rfl⟩ := h2.form
  have HRS : Hid ((ns.map fun y => y.id).Pairwise (· < ·) ∧ (es.map fun y => y.id).Pairwise (· < ·)) := by
    unfold mayB at hm
    simp only [Bool.and_eq_true] at hm
    exact ⟨(riseB_pairs _ _ hm.1.1.1).1, (riseB_pairs _ _ hm.1.1.2).1⟩
  have gA : G W (W.alloc (.cells #[.slice sa ns.length sc, .slice ta es.length tc] 25)) := (G.refl W).alloc _
  have hA0 : Blk (W.alloc (.cells #[.slice sa ns.length sc, .slice ta es.length tc] 25)) W.heap.size 25 [.slice sa ns.length sc, .slice ta es.length tc] := Blk.new W [.slice sa ns.length sc, .slice ta es.length tc] 25
  have K := hide (loadable_any ns es _ _ (W.alloc (.cells #[.slice sa ns.length sc, .slice ta es.length tc] 25)) (h1.G gA) (h2.G gA) hb (hT.G gA))
  rw [hm] at K
  have HA := hide gA; have HA0 := hide hA0; have HB := hide hb; have HR := hide hr; have HS := hide (And.intro h1 h2)
  have hc0 := hA0.cell
  have hmx : (4000000000001 : Nat) ≤ maxLen := of_decide_eq_true (by kernel_rfl)
  have HLLN : Hid ((ns.map fun y => y.id).length < maxLen) := by show _ < _; rw [List.length_map]; have := hb.n; omega
  have HLLE : Hid ((es.map fun y => y.id).length < maxLen) := by show _ < _; rw [List.length_map]; have := hb.e; omega
  have HLEN : Hid (ns.length ≤ 2932031007402 ∧ es.length ≤ 2199023255552) := ⟨hb.n, hb.e⟩
  clear h1 h2 hb hT hm gA hA0 hr hmx
  go_enter Tryz.func10, Tryz.ntmps10
  go_wp2_with fail
  refine K.out.mono ?_
  rintro e w1 ⟨rfl, g1⟩
  have hg1 := HA.out.trans g1
  have hA1 := HA0.out.G g1
  have K1 := hide (tableOf_any 70 w1)
  have HG1 := hide hg1; have HA1 := hide hA1
  clear K g1 hg1 hA1 hc0 HA HA0
  go_wp2_with fail
  refine K1.out.mono ?_
  rintro e w2 ⟨rfl, hmp1, g2⟩
  have K2 := hide (tableOf_any 71 w2)
  obtain ⟨m1, hm1⟩ : ∃ m1, m1 = w1.heap.size + 1 := ⟨_, rfl⟩
  rw [← hm1] at hmp1
  try rw [← hm1]
  have HM1 := hide hm1; have HMP1 := hide hmp1; have HG2 := hide g2
  clear K1 hm1 hmp1 g2
  go_wp2_with fail
  refine K2.out.mono ?_
  rintro e w3 ⟨rfl, hmp2, g3⟩
  obtain ⟨m2, hm2⟩ : ∃ m2, m2 = w2.heap.size + 1 := ⟨_, rfl⟩
  rw [← hm2] at hmp2
  try rw [← hm2]
  obtain ⟨mb, hmb⟩ : ∃ mb, mb = w3.heap.size := ⟨_, rfl⟩
  obtain ⟨w4, hw4⟩ : ∃ w4, w4 = w3.alloc (.cells #[I 70, .slice none 0 0, .map (some m1), I 71, .slice none 0 0, .map (some m2), .map none, .map none, .slice none 0 0] 81) := ⟨_, rfl⟩
  have HEW : Hid (w3.alloc (.cells #[I 70, .slice none 0 0, .map (some m1), I 71, .slice none 0 0, .map (some m2), .map none, .map none, .slice none 0 0] 81) = w4) := hw4.symm
  have HEM : Hid (w3.heap.size = mb) := hmb.symm
  have g4 : G w3 w4 := by rw [hw4]; exact (G.refl _).alloc _
  have hmb4 : Blk w4 mb 81 [I 70, .slice none 0 0, .map (some m1), I 71, .slice none 0 0, .map (some m2), .map none, .map none, .slice none 0 0] := by rw [hw4, hmb]; exact Blk.new w3 [I 70, .slice none 0 0, .map (some m1), I 71, .slice none 0 0, .map (some m2), .map none, .map none, .slice none 0 0] 81
  have hs1 := HG1.out.size
  have hs2 := HG2.out.size
  have hl1 := HMP1.out.lt
  have hl2 := hmp2.lt
  have hm1' := HM1.out
  have HLO : Hid (W.heap.size ≤ mb ∧ (W.heap.size ≤ m1 ∧ True) ∧ (W.heap.size ≤ m2 ∧ True) ∧ m1 ≠ m2) := ⟨by have := g3.size; omega, ⟨by omega, trivial⟩, ⟨by omega, trivial⟩, by omega⟩
  have hgW4 := ((HG1.out.trans HG2.out).trans g3).trans g4
  have HST : Hid (Blk w4 mb 81 [I 70, .slice none 0 0, .map (some m1), I 71, .slice none 0 0, .map (some m2), .map none, .map none, .slice none 0 0] ∧ TbM W.heap.size w4 m1 [] (fun _ => none) ∧ G W w4 ∧ Blk w4 W.heap.size 25 [.slice sa ns.length sc, .slice ta es.length tc] ∧ Mp (fun n : Int => I n) 2 w4 m2 (fun _ => none)) :=
    ⟨hmb4, ⟨(HMP1.out.G g3).G g4, fun a h => absurd rfl h, fun t ht => by cases ht⟩, hgW4, ((HA1.out.G HG2.out).G g3).G g4, hmp2.G g4⟩
  have hc4 := (((HA1.out.G HG2.out).G g3).G g4).cell
  have hc4a := hc4
  rw [← HEW.out] at hc4a
  clear K2 hmp2 g3 hm2 hmb hw4 g4 hmb4 hs1 hs2 hl1 hl2 hm1' hgW4 HG1 HG2 HA1 HM1 HMP1
  go_wp2_with fail
  rw [HEW.out]
  try rw [HEM.out]
  clear hc4a hc4 HEW HEM
  go_loopw [19, 6] (fun iv _ wr => ∃ (i : Nat) (ra : Option Addr) (rn rc : Nat) (gx : Int → Option Value), iv = I i ∧ i ≤ ns.length ∧ Blk wr mb 81 [I 70, .slice ra rn rc, .map (some m1), I 71, .slice none 0 0, .map (some m2), .map none, .map none, .slice none 0 0] ∧ Sw eI 2 wr (.slice ra rn rc) ((ns.take i).map fun y => y.id) ∧ Fresh W (.slice ra rn rc) ∧ TbM W.heap.size wr m1 ((ns.take i).map Nd.ed) gx ∧ G W wr ∧ Blk wr W.heap.size 25 [.slice sa ns.length sc, .slice ta es.length tc] ∧ Mp (fun n : Int => I n) 2 wr m2 (fun _ => none)) (fun iv _ _ => ns.length - (RowKit.intOf iv).toNat)
  case atStart =>
    obtain ⟨q1, q2, q3, q4, q5⟩ := HST.out
    exact ⟨0, none, 0, 0, _, rfl, Nat.zero_le _, q1, Sw.nil _ _ _, Fresh.nil _, q2, q3, q4, q5⟩
  case round =>
    have HLL := HLLN
    obtain ⟨i, ra, rn, rc, g1, rfl, hik, hmb, hso, hfo, htb, hgW, hgb, hmore⟩ := hrel
    have hln := HLEN.out
    by_cases hil : i < ns.length
    · obtain ⟨x, hx⟩ : ∃ x, ns[i]? = some x := ⟨_, List.getElem?_eq_getElem hil⟩
      have HIL := hide hil; have HX := hide hx
      have hxm := List.mem_of_getElem? hx
      obtain ⟨g, o, cap, qI⟩ := HS.out.1.addr (by omega)
      injection qI with q1 q2 q3
      subst q1 q3
      obtain ⟨cs, ⟨vp, hcs, hvp⟩, hr1⟩ := HS.out.1.at hx
      subst hcs
      obtain ⟨pa, pc, hvf⟩ := hvp.form
      obtain ⟨pn, hpn⟩ : ∃ pn, pn = x.ps.length := ⟨_, rfl⟩
      rw [← hpn] at hvf
      subst hvf
      have x1 : wr.cell? ⟨g, o + i * 3, none⟩ = some (I x.id) := rangeAt_G hr1 hgW 0 _ rfl
      have x2 : wr.cell? ⟨g, o + i * 3 + 1, none⟩ = some (.string x.lb) := rangeAt_G hr1 hgW 1 _ rfl
      have x3 : wr.cell? ⟨g, o + i * 3 + 2, none⟩ = some (.slice pa pn pc) := rangeAt_G hr1 hgW 2 _ rfl
      have i1 : (i : Int) < ns.length := Int.ofNat_lt.2 hil
      have HW : Hid (wrap64 ((i : Int) + 1) = (i : Int) + 1) := by show _ = _; unfold wrap64; omega
      obtain ⟨wb, hwb⟩ : ∃ wb, wb = wr.alloc (.cells #[I x.id, .string x.lb, .slice pa pn pc] 69) := ⟨_, rfl⟩
      obtain ⟨B6, hB6⟩ : ∃ B6, B6 = wr.heap.size := ⟨_, rfl⟩
      have HEB : Hid (wr.alloc (.cells #[I x.id, .string x.lb, .slice pa pn pc] 69) = wb) := hwb.symm
      have HE6 : Hid (wr.heap.size = B6) := hB6.symm
      have hga : G wr wb := by rw [hwb]; exact (G.refl wr).alloc _
      have hgb5 := hgW.trans hga
      have HBX : Hid (Blk wb B6 69 [I x.id, .string x.lb, .slice pa pn pc]) := by show Blk _ _ _ _; rw [hwb, hB6]; exact Blk.new wr [I x.id, .string x.lb, .slice pa pn pc] 69
      have HMB := hide (hmb.G hga)
      have hrn : ((ns.take i).map fun y => y.id).length = rn := hso.len_eq
      have hri : rn = i := by rw [← hrn, List.length_map, List.length_take]; omega
      obtain ⟨a5, c5, w5, hr5, hs5, hg5, hf5, hx5, hold5, hown5⟩ := pushI (hso.G hga) x.id hgb5 hfo (by omega)
      have HRR : Hid ((Builtin.append_ #[73, 73] 73 #[.slice ra rn rc, .slice (some ⟨wb.heap.size, 0, none⟩) 1 1]).run Tryz.prog (wb.alloc (.cells #[I x.id] 2)).drew = .ok (.slice a5 (rn + 1) c5) w5) := hr5
      have HX5 := hide hx5
      have hmb5 := (hmb.G hga).fx hx5 (by decide)
      have hbx5 := HBX.out.fx hx5 (by decide)
      have hmbW : W.heap.size ≤ mb := HLO.out.1
      have hx7 : Fx [2, 81] [] wb (w5.setCell ⟨mb, 1, none⟩ (.slice a5 (rn + 1) c5)) := (hx5.mono (fun t q => by simp at q ⊢; omega) (fun t q => q)).trans (Fx.set hmb5 (by simp))
      have hk7 : Fx [81] [] w5 (w5.setCell ⟨mb, 1, none⟩ (.slice a5 (rn + 1) c5)) := Fx.set hmb5 (by simp)
      have HMB7 : Hid (Blk (w5.setCell ⟨mb, 1, none⟩ (.slice a5 (rn + 1) c5)) mb 81 [I 70, .slice a5 (rn + 1) c5, .map (some m1), I 71, .slice none 0 0, .map (some m2), .map none, .map none, .slice none 0 0]) := hmb5.set 1 _
      have HBX7 : Hid (Blk (w5.setCell ⟨mb, 1, none⟩ (.slice a5 (rn + 1) c5)) B6 69 [I x.id, .string x.lb, .slice pa pn pc]) := hbx5.fx hk7 (by decide)
      have HTB7 := hide ((htb.G hga).fx hx7 (by decide) (by simp))
      have hg7 : G W (w5.setCell ⟨mb, 1, none⟩ (.slice a5 (rn + 1) c5)) := hg5.setCell hmbW _
      have HSO7 : Hid (Sw eI 2 (w5.setCell ⟨mb, 1, none⟩ (.slice a5 (rn + 1) c5)) (.slice a5 (rn + 1) c5) ((ns.take (i + 1)).map fun y => y.id)) := by
        rw [Hid, List.take_add_one, hx, List.map_append]
        exact hs5.fx hk7 (by decide)
      have HFO := hide hf5
      have HGB7 := hide ((hgb.G hga).fx hx7 (by decide))
      have HG7 := hide hg7
      have KC : Hid (∀ w3, G (w5.setCell ⟨mb, 1, none⟩ (.slice a5 (rn + 1) c5)) w3 → Calls Tryz.prog 31 #[.agg #[I x.id, .string x.lb, .slice pa pn pc]] w3 fun e W' => ∃ v', e = .returned (.agg #[.string x.lb, I 0, I 0, v']) ∧ Sw eP 101 W' v' x.ps ∧ Fresh w3 v' ∧ G w3 W') := fun w3 g3 => ofNode_any x _ w3 ((hvp.G hg7).G g3) (by have := HB.out.p x hxm; omega)
      have HR64 := hide (HR.out.1 x hxm).1
      have HKEY : Hid (∀ a, g1 a ≠ none → a ∈ ns.map fun y => y.id) := fun a ha => by
        obtain ⟨t, ht, e⟩ := htb.key a ha
        obtain ⟨y, hy, rfl⟩ := List.mem_map.1 ht
        exact List.mem_map.2 ⟨y, List.mem_of_mem_take hy, e⟩
      have HDIS : Hid (∀ s ∈ ((ns.take i).map Nd.ed), s.id ≠ x.ed.id) := fun s hs e => by
        obtain ⟨y, hy, rfl⟩ := List.mem_map.1 hs
        obtain ⟨j, hj, hje⟩ := List.getElem_of_mem hy
        rw [List.getElem_take] at hje
        rw [List.length_take] at hj
        have h1 : (ns.map fun y => y.id)[j]? = some y.id := by rw [List.getElem?_map, List.getElem?_eq_getElem (by omega), hje]; rfl
        have h2 : (ns.map fun y => y.id)[i]? = some x.id := by rw [List.getElem?_map, hx]; rfl
        have h3 := rises_at HRS.out.1 h1 h2 (by omega)
        have e' : y.id = x.id := e
        omega
      have HMO7 : Hid (Mp (fun n : Int => I n) 2 (w5.setCell ⟨mb, 1, none⟩ (.slice a5 (rn + 1) c5)) m2 (fun _ => none)) := (hmore.G hga).fx hx7 (by simp)
      clear hik hmb hso hfo htb hgb hmore hil hx hxm q2 hr1 hvp hpn hwb hB6 hga hgb5 hrn hri hr5 hs5 hg5 hf5 hx5 hold5 hown5 hmb5 hbx5 hmbW hx7 hk7 hg7 hgW hln
      go_wp2_with fail
      rw [HEB.out]
      try rw [HE6.out]
      clear i1 HEB HE6 x1 x2 x3
      refine wp_region_noPanic ?_
      refine wp_region_L (S := (fun V => Blk V mb 81 [I 70, .slice ra rn rc, .map (some m1), I 71, .slice none 0 0, .map (some m2), .map none, .map none, .slice none 0 0] ∧ Blk V B6 69 [I x.id, .string x.lb, .slice pa pn pc])) 13 (by kernel_rfl) (⟨HMB.out.drew, HBX.out.drew⟩) (fun hHeld => ?_)
      refine wpAnyL_take (i := 0) (v := ?_) rfl (by kernel_rfl) (by kernel_rfl) (by kernel_rfl) (by kernel_rfl) (fun _ _ _ h => h) (Or.inl ⟨by rfl, ?_⟩) hHeld ?_
      rotate_left 1
      · (intro w hSw; (try dsimp only at hSw); go_simp; try with_reducible rfl)
      try simp only [Act.put, List.getElem_toArray, List.getElem_cons_zero, List.setIfInBounds_toArray, List.set_cons_zero, List.set_cons_succ]
      refine wpAnyL_take (i := 1) (v := ?_) rfl (by kernel_rfl) (by kernel_rfl) (by kernel_rfl) (by kernel_rfl) (fun _ _ _ h => h) (Or.inl ⟨by rfl, ?_⟩) hHeld ?_
      rotate_left 1
      · (intro w hSw; (try dsimp only at hSw); go_simp; try with_reducible rfl)
      try simp only [Act.put, List.getElem_toArray, List.getElem_cons_zero, List.getElem_cons_succ, List.setIfInBounds_toArray, List.set_cons_zero, List.set_cons_succ]
      refine wpAnyL_take (i := 2) (v := ?_) rfl (by kernel_rfl) (by kernel_rfl) (by kernel_rfl) (by kernel_rfl) (fun _ _ _ h => h) (Or.inl ⟨by rfl, ?_⟩) hHeld ?_
      rotate_left 1
      · (intro w hSw; (try dsimp only at hSw); go_simp; try with_reducible rfl)
      try simp only [Act.put, List.getElem_toArray, List.getElem_cons_zero, List.getElem_cons_succ, List.setIfInBounds_toArray, List.set_cons_zero, List.set_cons_succ]
      refine wpAnyL_take (i := 3) (v := ?_) rfl (by kernel_rfl) (by kernel_rfl) (by kernel_rfl) (by kernel_rfl) (fun _ _ _ h => h) (Or.inl ⟨by rfl, ?_⟩) hHeld ?_
      rotate_left 1
      · (intro w hSw; (try dsimp only at hSw); go_simp; try with_reducible rfl)
      try simp only [Act.put, List.getElem_toArray, List.getElem_cons_zero, List.getElem_cons_succ, List.setIfInBounds_toArray, List.set_cons_zero, List.set_cons_succ]
      refine wpAnyL_take (i := 4) (v := ?_) rfl (by kernel_rfl) (by kernel_rfl) (by kernel_rfl) (by kernel_rfl) (fun _ _ _ h => h) (Or.inl ⟨by rfl, ?_⟩) hHeld ?_
      rotate_left 1
      · (intro w hSw; (try dsimp only at hSw); go_simp; try with_reducible rfl)
      try simp only [Act.put, List.getElem_toArray, List.getElem_cons_zero, List.getElem_cons_succ, List.setIfInBounds_toArray, List.set_cons_zero, List.set_cons_succ]
      refine wpAnyL_take (i := 5) (v := ?_) rfl (by kernel_rfl) (by kernel_rfl) (by kernel_rfl) (by kernel_rfl) (fun _ _ _ h => h) (Or.inl ⟨by rfl, ?_⟩) hHeld ?_
      rotate_left 1
      · (intro w hSw; have q1 := hSw.1.cell; have q2 := hSw.2.cell; go_simp; try with_reducible rfl)
      try simp only [Act.put, List.getElem_toArray, List.getElem_cons_zero, List.getElem_cons_succ, List.setIfInBounds_toArray, List.set_cons_zero, List.set_cons_succ]
      refine wpAnyL_take (i := 6) (v := ?_) rfl (by kernel_rfl) (by kernel_rfl) (by kernel_rfl) (by kernel_rfl) (fun _ _ _ h => h) (Or.inl ⟨by rfl, ?_⟩) hHeld ?_
      rotate_left 1
      · (intro w hSw; (try dsimp only at hSw); go_simp; try with_reducible rfl)
      try simp only [Act.put, List.getElem_toArray, List.getElem_cons_zero, List.getElem_cons_succ, List.setIfInBounds_toArray, List.set_cons_zero, List.set_cons_succ]
      refine wpAnyL_take (i := 7) (v := ?_) rfl (by kernel_rfl) (by kernel_rfl) (by kernel_rfl) (by kernel_rfl) (fun _ _ _ h => h) (Or.inl ⟨by rfl, ?_⟩) hHeld ?_
      rotate_left 1
      · (intro w hSw; have q1 := hSw.1.cell; have q2 := hSw.2.cell; go_simp; try with_reducible rfl)
      try simp only [Act.put, List.getElem_toArray, List.getElem_cons_zero, List.getElem_cons_succ, List.setIfInBounds_toArray, List.set_cons_zero, List.set_cons_succ]
      refine wpAnyL_one (i := 8) (by kernel_rfl) rfl (by kernel_rfl) (fun K hK => ?_)
      clear hHeld
      go_simp
      have HX3 : Hid (Fx [2] [] wb (wb.alloc (.cells #[I x.id] 2)).drew) := Fx.of_G (((G.refl wb).alloc _).drew)
      generalize (wb.alloc (.cells #[I x.id] 2)).drew = w3 at HRR HX3 ⊢
      refine hK.out _ _ (⟨HMB.out.fx HX3.out (by decide), HBX.out.fx HX3.out (by decide)⟩) (fun hHeld => ?_)
      clear hK K
      try simp only [Act.put, List.getElem_toArray, List.getElem_cons_zero, List.getElem_cons_succ, List.setIfInBounds_toArray, List.set_cons_zero, List.set_cons_succ]
      refine wpAnyL_one (i := 9) (by kernel_rfl) rfl (by kernel_rfl) (fun K hK => ?_)
      clear hHeld
      refine (if_pos rfl).mpr ?_
      refine wp_of_exec (exec_append _ _ 73 rfl (.slice ra rn rc) (.slice (some ⟨wb.heap.size, 0, none⟩) 1 1) rfl rfl 73 rfl HRR.out) ?_
      refine hK.out _ _ (⟨HMB.out.fx HX5.out (by decide), HBX.out.fx HX5.out (by decide)⟩) (fun hHeld => ?_)
      clear hK K
      try simp only [Act.put, List.getElem_toArray, List.getElem_cons_zero, List.getElem_cons_succ, List.setIfInBounds_toArray, List.set_cons_zero, List.set_cons_succ]
      refine wpAnyL_one (i := 10) (by kernel_rfl) rfl (by kernel_rfl) (fun K hK => ?_)
      clear hHeld
      (try refine (if_pos rfl).mpr ?_)
      go_simp
      refine hK.out _ _ (⟨HMB.out.fx HX5.out (by decide), HBX.out.fx HX5.out (by decide)⟩) (fun hHeld => ?_)
      clear hK K
      try simp only [Act.put, List.getElem_toArray, List.getElem_cons_zero, List.getElem_cons_succ, List.setIfInBounds_toArray, List.set_cons_zero, List.set_cons_succ]
      refine wpAnyL_one (i := 11) (by kernel_rfl) rfl (by kernel_rfl) (fun K hK => ?_)
      clear hHeld
      (try refine (if_pos rfl).mpr ?_)
      go_simp
      refine hK.out _ _ (⟨HMB.out.fx HX5.out (by decide), HBX.out.fx HX5.out (by decide)⟩) (fun hHeld => ?_)
      clear hK K
      try simp only [Act.put, List.getElem_toArray, List.getElem_cons_zero, List.getElem_cons_succ, List.setIfInBounds_toArray, List.set_cons_zero, List.set_cons_succ]
      refine wpAnyL_one (i := 12) (by kernel_rfl) rfl (by kernel_rfl) (fun K hK => ?_)
      clear hHeld
      (try refine (if_pos rfl).mpr ?_)
      go_simp
      refine hK.out _ _ (⟨HMB.out.fx HX5.out (by decide), HBX.out.fx HX5.out (by decide)⟩) (fun hHeld => ?_)
      clear hK K
      try simp only [Act.put, List.getElem_toArray, List.getElem_cons_zero, List.getElem_cons_succ, List.setIfInBounds_toArray, List.set_cons_zero, List.set_cons_succ]
      refine wpAnyL_last (by kernel_rfl) rfl (by kernel_rfl) (fun K hK => ?_)
      clear hHeld
      have hc7 := (HMB.out.fx HX5.out (by decide)).cell
      have hz7 := (HMB.out.fx HX5.out (by decide)).frozen
      go_simp
      refine hK.out _ _ ?_
      clear hK K
      refine NoPanic.normal ?_
      generalize (w5.setCell ⟨mb, 1, none⟩ (.slice a5 (rn + 1) c5)) = w7 at HMB7 HBX7 HTB7 HG7 HSO7 HGB7 KC HMO7 ⊢
      clear HRR HX5 HMB HBX
      go_wp2_with fail
      refine wp_region_noPanic ?_
      refine wp_region_L (S := (fun V => Blk V mb 81 [I 70, .slice a5 (rn + 1) c5, .map (some m1), I 71, .slice none 0 0, .map (some m2), .map none, .map none, .slice none 0 0] ∧ Blk V B6 69 [I x.id, .string x.lb, .slice pa pn pc])) 9 (by kernel_rfl) (⟨HMB7.out.drew, HBX7.out.drew⟩) (fun hHeld => ?_)
      refine wpAnyL_take (i := 0) (v := ?_) rfl (by kernel_rfl) (by kernel_rfl) (by kernel_rfl) (by kernel_rfl) (fun _ _ _ h => h) (Or.inl ⟨by rfl, ?_⟩) hHeld ?_
      rotate_left 1
      · (intro w hSw; (try dsimp only at hSw); go_simp; try with_reducible rfl)
      try simp only [Act.put, List.getElem_toArray, List.getElem_cons_zero, List.setIfInBounds_toArray, List.set_cons_zero, List.set_cons_succ]
      refine wpAnyL_take (i := 1) (v := ?_) rfl (by kernel_rfl) (by kernel_rfl) (by kernel_rfl) (by kernel_rfl) (fun _ _ _ h => h) (Or.inl ⟨by rfl, ?_⟩) hHeld ?_
      rotate_left 1
      · (intro w hSw; (try dsimp only at hSw); go_simp; try with_reducible rfl)
      try simp only [Act.put, List.getElem_toArray, List.getElem_cons_zero, List.getElem_cons_succ, List.setIfInBounds_toArray, List.set_cons_zero, List.set_cons_succ]
      refine wpAnyL_take (i := 2) (v := ?_) rfl (by kernel_rfl) (by kernel_rfl) (by kernel_rfl) (by kernel_rfl) (fun _ _ _ h => h) (Or.inl ⟨by rfl, ?_⟩) hHeld ?_
      rotate_left 1
      · (intro w hSw; (try dsimp only at hSw); go_simp; try with_reducible rfl)
      try simp only [Act.put, List.getElem_toArray, List.getElem_cons_zero, List.getElem_cons_succ, List.setIfInBounds_toArray, List.set_cons_zero, List.set_cons_succ]
      refine wpAnyL_take (i := 3) (v := ?_) rfl (by kernel_rfl) (by kernel_rfl) (by kernel_rfl) (by kernel_rfl) (fun _ _ _ h => h) (Or.inl ⟨by rfl, ?_⟩) hHeld ?_
      rotate_left 1
      · (intro w hSw; (try dsimp only at hSw); go_simp; try with_reducible rfl)
      try simp only [Act.put, List.getElem_toArray, List.getElem_cons_zero, List.getElem_cons_succ, List.setIfInBounds_toArray, List.set_cons_zero, List.set_cons_succ]
      refine wpAnyL_take (i := 4) (v := ?_) rfl (by kernel_rfl) (by kernel_rfl) (by kernel_rfl) (by kernel_rfl) (fun _ _ _ h => h) (Or.inl ⟨by rfl, ?_⟩) hHeld ?_
      rotate_left 1
      · (intro w hSw; have q1 := hSw.1.cell; have q2 := hSw.2.cell; go_simp; try with_reducible rfl)
      try simp only [Act.put, List.getElem_toArray, List.getElem_cons_zero, List.getElem_cons_succ, List.setIfInBounds_toArray, List.set_cons_zero, List.set_cons_succ]
      refine wpAnyL_take (i := 5) (v := ?_) rfl (by kernel_rfl) (by kernel_rfl) (by kernel_rfl) (by kernel_rfl) (fun _ _ _ h => h) (Or.inl ⟨by rfl, ?_⟩) hHeld ?_
      rotate_left 1
      · (intro w hSw; (try dsimp only at hSw); go_simp; try with_reducible rfl)
      try simp only [Act.put, List.getElem_toArray, List.getElem_cons_zero, List.getElem_cons_succ, List.setIfInBounds_toArray, List.set_cons_zero, List.set_cons_succ]
      refine wpAnyL_take (i := 6) (v := ?_) rfl (by kernel_rfl) (by kernel_rfl) (by kernel_rfl) (by kernel_rfl) (fun _ _ _ h => h) (Or.inl ⟨by rfl, ?_⟩) hHeld ?_
      rotate_left 1
      · (intro w hSw; have q1 := hSw.1.cell; have q2 := hSw.2.cell; go_simp; try with_reducible rfl)
      try simp only [Act.put, List.getElem_toArray, List.getElem_cons_zero, List.getElem_cons_succ, List.setIfInBounds_toArray, List.set_cons_zero, List.set_cons_succ]
      refine wpAnyL_take (i := 7) (v := ?_) rfl (by kernel_rfl) (by kernel_rfl) (by kernel_rfl) (by kernel_rfl) (fun _ _ _ h => h) (Or.inl ⟨by rfl, ?_⟩) hHeld ?_
      rotate_left 1
      · (intro w hSw; have q1 := hSw.1.cell; have q2 := hSw.2.cell; go_simp; try with_reducible rfl)
      try simp only [Act.put, List.getElem_toArray, List.getElem_cons_zero, List.getElem_cons_succ, List.setIfInBounds_toArray, List.set_cons_zero, List.set_cons_succ]
      refine wpAnyL_one (i := 8) (by kernel_rfl) rfl (by kernel_rfl) (fun K hK => ?_)
      clear hHeld
      go_simp
      refine (KC.out _ ((G.refl w7).drew)).mono ?_
      rintro e w8 ⟨v8, rfl, hs8, hf8, hg8'⟩
      obtain ⟨qa, qc, hv8⟩ := hs8.form
      obtain ⟨qn, hqn⟩ : ∃ qn, qn = x.ps.length := ⟨_, rfl⟩
      rw [← hqn] at hv8
      subst hv8
      have HG8 : Hid (G w7 w8) := ((G.refl w7).drew).trans hg8'
      have HS8 := hide (And.intro hs8 hf8)
      clear hs8 hf8 hg8' hqn KC
      go_wp2_with fail
      refine hK.out _ _ (⟨HMB7.out.G HG8.out, HBX7.out.G HG8.out⟩) (fun hHeld => ?_)
      clear hK K
      try simp only [Act.put, List.getElem_toArray, List.getElem_cons_zero, List.getElem_cons_succ, List.setIfInBounds_toArray, List.set_cons_zero, List.set_cons_succ]
      refine wpAnyL_last (by kernel_rfl) rfl (by kernel_rfl) (fun K hK => ?_)
      clear hHeld
      refine wp_put _ _ _ 74 rfl (HTB7.out.mp.G HG8.out) rfl kyI (ns.map fun y => y.id) (fun a _ ha => HKEY.out a ha) HLL.out Tryz.underlying74 x.id rfl (kyI_ok.2 HR64.out) _ rfl (fun w9 hm9 hch9 hsz9 => ?_)
      refine hK.out _ _ ?_
      clear hK K
      refine NoPanic.normal ?_
      obtain ⟨hs8, hf8⟩ := HS8.out
      have hg8 := HG8.out
      have hth : thV w8 W.heap.size x.ed (.agg #[.string x.lb, I 0, I 0, .slice qa qn qc]) := ⟨_, rfl, hs8, fun k e => Nat.le_trans HG7.out.size (hf8.old ((G.refl w7).drew) k e)⟩
      have htb9 := (HTB7.out.G hg8).put HDIS.out hth hm9 hch9
      have hne : ∀ k, (∃ ty xs, Blk w8 k ty xs) → k ≠ m1 := fun k ⟨ty, xs, hb⟩ e => (HTB7.out.mp.G hg8).ne hb e.symm
      have hx9 : Fx [] [m1] w8 w9 := Fx.put hch9 (HTB7.out.mp.G hg8) (by simp)
      have HMB9 := hide ((HMB7.out.G hg8).fx hx9 (by simp))
      have HSO9 := hide ((HSO7.out.G hg8).fx hx9 (by simp))
      have HGB9 := hide ((HGB7.out.G hg8).fx hx9 (by simp))
      have hg9 : G W w9 := (HG7.out.trans hg8).trans_chg hch9 HLO.out.2.1.1
      have HG9 := hide hg9
      have HTB9 : Hid (TbM W.heap.size w9 m1 ((ns.take (i + 1)).map Nd.ed) (upd g1 x.id (some (.agg #[.string x.lb, I 0, I 0, .slice qa qn qc])))) := by
        rw [Hid, List.take_add_one, HX.out]
        rw [List.map_append]
        exact htb9
      have HMO9 : Hid (Mp (fun n : Int => I n) 2 w9 m2 (fun _ => none)) := by
        have q := (HMO7.out.G hg8).fx hx9 (by simp; exact fun e => HLO.out.2.2.2 e.symm)
        exact q
      clear hs8 hf8 hg8 hth htb9 hne hx9 hg9 hm9 hch9 hsz9 HS8 HG8 HMB7 HBX7 HTB7 HG7 HSO7 HGB7 HMO7 HDIS HKEY
      go_wp2_with fail
      exact ⟨⟨i + 1, a5, rn + 1, c5, _, by rw [HW.out]; exact srl i, HIL.out, HMB9.out, HSO9.out, HFO.out, HTB9.out, HG9.out, HGB9.out, HMO9.out⟩, by rw [HW.out]; exact sms HIL.out⟩
    · have i1 : ¬ (i : Int) < ns.length := by omega
      have htk : ns.take i = ns := List.take_of_length_le (by omega)
      rw [htk] at hso htb
      have HN := hide (And.intro hmb (And.intro hso (And.intro hfo (And.intro htb (And.intro hgW (And.intro hgb hmore))))))
      have hcg := hgb.cell
      clear hik hmb hso hfo htb hgW hgb hmore hil htk hln HST
      go_wp2_with fail
      clear i1 hcg
      generalize ra = na at HN ⊢
      generalize rn = nn at HN ⊢
      generalize rc = nc at HN ⊢
      go_loopw [49, 8] (fun iv _ wr => ∃ (i : Nat) (ra : Option Addr) (rn rc : Nat) (gx : Int → Option Value), iv = I i ∧ i ≤ es.length ∧ Blk wr mb 81 [I 70, .slice na nn nc, .map (some m1), I 71, .slice ra rn rc, .map (some m2), .map none, .map none, .slice none 0 0] ∧ Sw eI 2 wr (.slice ra rn rc) ((es.take i).map fun y => y.id) ∧ Fresh W (.slice ra rn rc) ∧ TbM W.heap.size wr m2 (es.take i) gx ∧ G W wr ∧ Blk wr W.heap.size 25 [.slice sa ns.length sc, .slice ta es.length tc] ∧ Sw eI 2 wr (.slice na nn nc) (ns.map fun y => y.id) ∧ (∀ k, (Value.slice na nn nc).ownBlock = some k → (Value.slice ra rn rc).ownBlock ≠ some k) ∧ TbM W.heap.size wr m1 (ns.map Nd.ed) g1) (fun iv _ _ => es.length - (RowKit.intOf iv).toNat)
      case atStart =>
        obtain ⟨q1, q2, q3, q4, q5, q6, q7⟩ := HN.out
        exact ⟨0, none, 0, 0, _, rfl, Nat.zero_le _, q1, Sw.nil _ _ _, Fresh.nil _, ⟨q7, fun a h => absurd rfl h, fun t ht => by cases ht⟩, q5, q6, q2, fun k _ e => by simp [Value.ownBlock] at e, q4⟩
      case round =>
        have HFN : Hid (Fresh W (.slice na nn nc)) := HN.out.2.2.1
        clear HN
        have HLL := HLLE
        obtain ⟨i, ra, rn, rc, g2, rfl, hik, hmb, hso, hfo, htb, hgW, hgb, hmore⟩ := hrel
        have hln := HLEN.out
        by_cases hil : i < es.length
        · obtain ⟨x, hx⟩ : ∃ x, es[i]? = some x := ⟨_, List.getElem?_eq_getElem hil⟩
          have HIL := hide hil; have HX := hide hx
          have hxm := List.mem_of_getElem? hx
          obtain ⟨g, o, cap, qI⟩ := HS.out.2.addr (by omega)
          injection qI with q1 q2 q3
          subst q1 q3
          obtain ⟨cs, ⟨vp, hcs, hvp⟩, hr1⟩ := HS.out.2.at hx
          subst hcs
          obtain ⟨pa, pc, hvf⟩ := hvp.form
          obtain ⟨pn, hpn⟩ : ∃ pn, pn = x.ps.length := ⟨_, rfl⟩
          rw [← hpn] at hvf
          subst hvf
          have x1 : wr.cell? ⟨g, o + i * 5, none⟩ = some (I x.id) := rangeAt_G hr1 hgW 0 _ rfl
          have x2 : wr.cell? ⟨g, o + i * 5 + 1, none⟩ = some (.string x.ty) := rangeAt_G hr1 hgW 1 _ rfl
          have x3 : wr.cell? ⟨g, o + i * 5 + 2, none⟩ = some (I x.fr) := rangeAt_G hr1 hgW 2 _ rfl
          have x4 : wr.cell? ⟨g, o + i * 5 + 3, none⟩ = some (I x.to) := rangeAt_G hr1 hgW 3 _ rfl
          have x5 : wr.cell? ⟨g, o + i * 5 + 4, none⟩ = some (.slice pa pn pc) := rangeAt_G hr1 hgW 4 _ rfl
          have i1 : (i : Int) < es.length := Int.ofNat_lt.2 hil
          have HW : Hid (wrap64 ((i : Int) + 1) = (i : Int) + 1) := by show _ = _; unfold wrap64; omega
          obtain ⟨wb, hwb⟩ : ∃ wb, wb = wr.alloc (.cells #[I x.id, .string x.ty, I x.fr, I x.to, .slice pa pn pc] 72) := ⟨_, rfl⟩
          obtain ⟨B6, hB6⟩ : ∃ B6, B6 = wr.heap.size := ⟨_, rfl⟩
          have HEB : Hid (wr.alloc (.cells #[I x.id, .string x.ty, I x.fr, I x.to, .slice pa pn pc] 72) = wb) := hwb.symm
          have HE6 : Hid (wr.heap.size = B6) := hB6.symm
          have hga : G wr wb := by rw [hwb]; exact (G.refl wr).alloc _
          have hgb5 := hgW.trans hga
          have HBX : Hid (Blk wb B6 72 [I x.id, .string x.ty, I x.fr, I x.to, .slice pa pn pc]) := by show Blk _ _ _ _; rw [hwb, hB6]; exact Blk.new wr [I x.id, .string x.ty, I x.fr, I x.to, .slice pa pn pc] 72
          have HMB := hide (hmb.G hga)
          have hrn : ((es.take i).map fun y => y.id).length = rn := hso.len_eq
          have hri : rn = i := by rw [← hrn, List.length_map, List.length_take]; omega
          obtain ⟨a5, c5, w5, hr5, hs5, hg5, hf5, hx5, hold5, hown5⟩ := pushI (hso.G hga) x.id hgb5 hfo (by omega)
          have HRR : Hid ((Builtin.append_ #[73, 73] 73 #[.slice ra rn rc, .slice (some ⟨wb.heap.size, 0, none⟩) 1 1]).run Tryz.prog (wb.alloc (.cells #[I x.id] 2)).drew = .ok (.slice a5 (rn + 1) c5) w5) := hr5
          have HX5 := hide hx5
          have hmb5 := (hmb.G hga).fx hx5 (by decide)
          have hbx5 := HBX.out.fx hx5 (by decide)
          have hmbW : W.heap.size ≤ mb := HLO.out.1
          have hx7 : Fx [2, 81] [] wb (w5.setCell ⟨mb, 4, none⟩ (.slice a5 (rn + 1) c5)) := (hx5.mono (fun t q => by simp at q ⊢; omega) (fun t q => q)).trans (Fx.set hmb5 (by simp))
          have hk7 : Fx [81] [] w5 (w5.setCell ⟨mb, 4, none⟩ (.slice a5 (rn + 1) c5)) := Fx.set hmb5 (by simp)
          have HMB7 : Hid (Blk (w5.setCell ⟨mb, 4, none⟩ (.slice a5 (rn + 1) c5)) mb 81 [I 70, .slice na nn nc, .map (some m1), I 71, .slice a5 (rn + 1) c5, .map (some m2), .map none, .map none, .slice none 0 0]) := hmb5.set 4 _
          have HBX7 : Hid (Blk (w5.setCell ⟨mb, 4, none⟩ (.slice a5 (rn + 1) c5)) B6 72 [I x.id, .string x.ty, I x.fr, I x.to, .slice pa pn pc]) := hbx5.fx hk7 (by decide)
          have HTB7 := hide ((htb.G hga).fx hx7 (by decide) (by simp))
          have hg7 : G W (w5.setCell ⟨mb, 4, none⟩ (.slice a5 (rn + 1) c5)) := hg5.setCell hmbW _
          have HSO7 : Hid (Sw eI 2 (w5.setCell ⟨mb, 4, none⟩ (.slice a5 (rn + 1) c5)) (.slice a5 (rn + 1) c5) ((es.take (i + 1)).map fun y => y.id)) := by
            rw [Hid, List.take_add_one, hx, List.map_append]
            exact hs5.fx hk7 (by decide)
          have HFO := hide hf5
          have HGB7 := hide ((hgb.G hga).fx hx7 (by decide))
          have HG7 := hide hg7
          have KC : Hid (∀ w3, G (w5.setCell ⟨mb, 4, none⟩ (.slice a5 (rn + 1) c5)) w3 → Calls Tryz.prog 32 #[.agg #[I x.id, .string x.ty, I x.fr, I x.to, .slice pa pn pc]] w3 fun e W' => ∃ v', e = .returned (.agg #[.string x.ty, I x.fr, I x.to, v']) ∧ Sw eP 101 W' v' x.ps ∧ Fresh w3 v' ∧ G w3 W') := fun w3 g3 => ofEdge_any x _ w3 ((hvp.G hg7).G g3) (by have := HB.out.q x hxm; omega)
          have HR64 := hide (HR.out.2 x hxm).1
          have HKEY : Hid (∀ a, g2 a ≠ none → a ∈ es.map fun y => y.id) := fun a ha => by
            obtain ⟨t, ht, e⟩ := htb.key a ha
            exact List.mem_map.2 ⟨t, List.mem_of_mem_take ht, e⟩
          have HDIS : Hid (∀ s ∈ (es.take i), s.id ≠ x.id) := fun s hs e => by
            obtain ⟨j, hj, hje⟩ := List.getElem_of_mem hs
            rw [List.getElem_take] at hje
            rw [List.length_take] at hj
            have h1 : (es.map fun y => y.id)[j]? = some s.id := by rw [List.getElem?_map, List.getElem?_eq_getElem (by omega), hje]; rfl
            have h2 : (es.map fun y => y.id)[i]? = some x.id := by rw [List.getElem?_map, hx]; rfl
            have h3 := rises_at HRS.out.2 h1 h2 (by omega)
            have e' : s.id = x.id := e
            omega
          have HMO7 : Hid (Sw eI 2 (w5.setCell ⟨mb, 4, none⟩ (.slice a5 (rn + 1) c5)) (.slice na nn nc) (ns.map fun y => y.id) ∧ (∀ k, (Value.slice na nn nc).ownBlock = some k → (Value.slice a5 (rn + 1) c5).ownBlock ≠ some k) ∧ TbM W.heap.size (w5.setCell ⟨mb, 4, none⟩ (.slice a5 (rn + 1) c5)) m1 (ns.map Nd.ed) g1) := by
            obtain ⟨k1, k2, k3⟩ := hmore
            have hnw := k1.G hga
            refine ⟨(hnw.keep fun k hk => hold5 k (hnw.lt hk) (k2 k hk)).fx hk7 (by decide), fun k hk e => ?_, (k3.G hga).fx hx7 (by decide) (by simp)⟩
            rcases hown5 k e with q | q
            · exact k2 k hk q
            · have := hnw.lt hk; omega
          clear hik hmb hso hfo htb hgb hmore hil hx hxm q2 hr1 hvp hpn hwb hB6 hga hgb5 hrn hri hr5 hs5 hg5 hf5 hx5 hold5 hown5 hmb5 hbx5 hmbW hx7 hk7 hg7 hgW hln
          go_wp2_with fail
          rw [HEB.out]
          try rw [HE6.out]
          clear i1 HEB HE6 x1 x2 x3 x4 x5
          refine wp_region_noPanic ?_
          refine wp_region_L (S := (fun V => Blk V mb 81 [I 70, .slice na nn nc, .map (some m1), I 71, .slice ra rn rc, .map (some m2), .map none, .map none, .slice none 0 0] ∧ Blk V B6 72 [I x.id, .string x.ty, I x.fr, I x.to, .slice pa pn pc])) 13 (by kernel_rfl) (⟨HMB.out.drew, HBX.out.drew⟩) (fun hHeld => ?_)
          refine wpAnyL_take (i := 0) (v := ?_) rfl (by kernel_rfl) (by kernel_rfl) (by kernel_rfl) (by kernel_rfl) (fun _ _ _ h => h) (Or.inl ⟨by rfl, ?_⟩) hHeld ?_
          rotate_left 1
          · (intro w hSw; (try dsimp only at hSw); go_simp; try with_reducible rfl)
          try simp only [Act.put, List.getElem_toArray, List.getElem_cons_zero, List.setIfInBounds_toArray, List.set_cons_zero, List.set_cons_succ]
          refine wpAnyL_take (i := 1) (v := ?_) rfl (by kernel_rfl) (by kernel_rfl) (by kernel_rfl) (by kernel_rfl) (fun _ _ _ h => h) (Or.inl ⟨by rfl, ?_⟩) hHeld ?_
          rotate_left 1
          · (intro w hSw; (try dsimp only at hSw); go_simp; try with_reducible rfl)
          try simp only [Act.put, List.getElem_toArray, List.getElem_cons_zero, List.getElem_cons_succ, List.setIfInBounds_toArray, List.set_cons_zero, List.set_cons_succ]
          refine wpAnyL_take (i := 2) (v := ?_) rfl (by kernel_rfl) (by kernel_rfl) (by kernel_rfl) (by kernel_rfl) (fun _ _ _ h => h) (Or.inl ⟨by rfl, ?_⟩) hHeld ?_
          rotate_left 1
          · (intro w hSw; (try dsimp only at hSw); go_simp; try with_reducible rfl)
          try simp only [Act.put, List.getElem_toArray, List.getElem_cons_zero, List.getElem_cons_succ, List.setIfInBounds_toArray, List.set_cons_zero, List.set_cons_succ]
          refine wpAnyL_take (i := 3) (v := ?_) rfl (by kernel_rfl) (by kernel_rfl) (by kernel_rfl) (by kernel_rfl) (fun _ _ _ h => h) (Or.inl ⟨by rfl, ?_⟩) hHeld ?_
          rotate_left 1
          · (intro w hSw; (try dsimp only at hSw); go_simp; try with_reducible rfl)
          try simp only [Act.put, List.getElem_toArray, List.getElem_cons_zero, List.getElem_cons_succ, List.setIfInBounds_toArray, List.set_cons_zero, List.set_cons_succ]
          refine wpAnyL_take (i := 4) (v := ?_) rfl (by kernel_rfl) (by kernel_rfl) (by kernel_rfl) (by kernel_rfl) (fun _ _ _ h => h) (Or.inl ⟨by rfl, ?_⟩) hHeld ?_
          rotate_left 1
          · (intro w hSw; (try dsimp only at hSw); go_simp; try with_reducible rfl)
          try simp only [Act.put, List.getElem_toArray, List.getElem_cons_zero, List.getElem_cons_succ, List.setIfInBounds_toArray, List.set_cons_zero, List.set_cons_succ]
          refine wpAnyL_take (i := 5) (v := ?_) rfl (by kernel_rfl) (by kernel_rfl) (by kernel_rfl) (by kernel_rfl) (fun _ _ _ h => h) (Or.inl ⟨by rfl, ?_⟩) hHeld ?_
          rotate_left 1
          · (intro w hSw; have q1 := hSw.1.cell; have q2 := hSw.2.cell; go_simp; try with_reducible rfl)
          try simp only [Act.put, List.getElem_toArray, List.getElem_cons_zero, List.getElem_cons_succ, List.setIfInBounds_toArray, List.set_cons_zero, List.set_cons_succ]
          refine wpAnyL_take (i := 6) (v := ?_) rfl (by kernel_rfl) (by kernel_rfl) (by kernel_rfl) (by kernel_rfl) (fun _ _ _ h => h) (Or.inl ⟨by rfl, ?_⟩) hHeld ?_
          rotate_left 1
          · (intro w hSw; (try dsimp only at hSw); go_simp; try with_reducible rfl)
          try simp only [Act.put, List.getElem_toArray, List.getElem_cons_zero, List.getElem_cons_succ, List.setIfInBounds_toArray, List.set_cons_zero, List.set_cons_succ]
          refine wpAnyL_take (i := 7) (v := ?_) rfl (by kernel_rfl) (by kernel_rfl) (by kernel_rfl) (by kernel_rfl) (fun _ _ _ h => h) (Or.inl ⟨by rfl, ?_⟩) hHeld ?_
          rotate_left 1
          · (intro w hSw; have q1 := hSw.1.cell; have q2 := hSw.2.cell; go_simp; try with_reducible rfl)
          try simp only [Act.put, List.getElem_toArray, List.getElem_cons_zero, List.getElem_cons_succ, List.setIfInBounds_toArray, List.set_cons_zero, List.set_cons_succ]
          refine wpAnyL_one (i := 8) (by kernel_rfl) rfl (by kernel_rfl) (fun K hK => ?_)
          clear hHeld
          go_simp
          have HX3 : Hid (Fx [2] [] wb (wb.alloc (.cells #[I x.id] 2)).drew) := Fx.of_G (((G.refl wb).alloc _).drew)
          generalize (wb.alloc (.cells #[I x.id] 2)).drew = w3 at HRR HX3 ⊢
          refine hK.out _ _ (⟨HMB.out.fx HX3.out (by decide), HBX.out.fx HX3.out (by decide)⟩) (fun hHeld => ?_)
          clear hK K
          try simp only [Act.put, List.getElem_toArray, List.getElem_cons_zero, List.getElem_cons_succ, List.setIfInBounds_toArray, List.set_cons_zero, List.set_cons_succ]
          refine wpAnyL_one (i := 9) (by kernel_rfl) rfl (by kernel_rfl) (fun K hK => ?_)
          clear hHeld
          refine (if_pos rfl).mpr ?_
          refine wp_of_exec (exec_append _ _ 73 rfl (.slice ra rn rc) (.slice (some ⟨wb.heap.size, 0, none⟩) 1 1) rfl rfl 73 rfl HRR.out) ?_
          refine hK.out _ _ (⟨HMB.out.fx HX5.out (by decide), HBX.out.fx HX5.out (by decide)⟩) (fun hHeld => ?_)
          clear hK K
          try simp only [Act.put, List.getElem_toArray, List.getElem_cons_zero, List.getElem_cons_succ, List.setIfInBounds_toArray, List.set_cons_zero, List.set_cons_succ]
          refine wpAnyL_one (i := 10) (by kernel_rfl) rfl (by kernel_rfl) (fun K hK => ?_)
          clear hHeld
          (try refine (if_pos rfl).mpr ?_)
          go_simp
          refine hK.out _ _ (⟨HMB.out.fx HX5.out (by decide), HBX.out.fx HX5.out (by decide)⟩) (fun hHeld => ?_)
          clear hK K
          try simp only [Act.put, List.getElem_toArray, List.getElem_cons_zero, List.getElem_cons_succ, List.setIfInBounds_toArray, List.set_cons_zero, List.set_cons_succ]
          refine wpAnyL_one (i := 11) (by kernel_rfl) rfl (by kernel_rfl) (fun K hK => ?_)
          clear hHeld
          (try refine (if_pos rfl).mpr ?_)
          go_simp
          refine hK.out _ _ (⟨HMB.out.fx HX5.out (by decide), HBX.out.fx HX5.out (by decide)⟩) (fun hHeld => ?_)
          clear hK K
          try simp only [Act.put, List.getElem_toArray, List.getElem_cons_zero, List.getElem_cons_succ, List.setIfInBounds_toArray, List.set_cons_zero, List.set_cons_succ]
          refine wpAnyL_one (i := 12) (by kernel_rfl) rfl (by kernel_rfl) (fun K hK => ?_)
          clear hHeld
          (try refine (if_pos rfl).mpr ?_)
          go_simp
          refine hK.out _ _ (⟨HMB.out.fx HX5.out (by decide), HBX.out.fx HX5.out (by decide)⟩) (fun hHeld => ?_)
          clear hK K
          try simp only [Act.put, List.getElem_toArray, List.getElem_cons_zero, List.getElem_cons_succ, List.setIfInBounds_toArray, List.set_cons_zero, List.set_cons_succ]
          refine wpAnyL_last (by kernel_rfl) rfl (by kernel_rfl) (fun K hK => ?_)
          clear hHeld
          have hc7 := (HMB.out.fx HX5.out (by decide)).cell
          have hz7 := (HMB.out.fx HX5.out (by decide)).frozen
          go_simp
          refine hK.out _ _ ?_
          clear hK K
          refine NoPanic.normal ?_
          generalize (w5.setCell ⟨mb, 4, none⟩ (.slice a5 (rn + 1) c5)) = w7 at HMB7 HBX7 HTB7 HG7 HSO7 HGB7 KC HMO7 ⊢
          clear HRR HX5 HMB HBX
          go_wp2_with fail
          refine wp_region_noPanic ?_
          refine wp_region_L (S := (fun V => Blk V mb 81 [I 70, .slice na nn nc, .map (some m1), I 71, .slice a5 (rn + 1) c5, .map (some m2), .map none, .map none, .slice none 0 0] ∧ Blk V B6 72 [I x.id, .string x.ty, I x.fr, I x.to, .slice pa pn pc])) 9 (by kernel_rfl) (⟨HMB7.out.drew, HBX7.out.drew⟩) (fun hHeld => ?_)
          refine wpAnyL_take (i := 0) (v := ?_) rfl (by kernel_rfl) (by kernel_rfl) (by kernel_rfl) (by kernel_rfl) (fun _ _ _ h => h) (Or.inl ⟨by rfl, ?_⟩) hHeld ?_
          rotate_left 1
          · (intro w hSw; (try dsimp only at hSw); go_simp; try with_reducible rfl)
          try simp only [Act.put, List.getElem_toArray, List.getElem_cons_zero, List.setIfInBounds_toArray, List.set_cons_zero, List.set_cons_succ]
          refine wpAnyL_take (i := 1) (v := ?_) rfl (by kernel_rfl) (by kernel_rfl) (by kernel_rfl) (by kernel_rfl) (fun _ _ _ h => h) (Or.inl ⟨by rfl, ?_⟩) hHeld ?_
          rotate_left 1
          · (intro w hSw; (try dsimp only at hSw); go_simp; try with_reducible rfl)
          try simp only [Act.put, List.getElem_toArray, List.getElem_cons_zero, List.getElem_cons_succ, List.setIfInBounds_toArray, List.set_cons_zero, List.set_cons_succ]
          refine wpAnyL_take (i := 2) (v := ?_) rfl (by kernel_rfl) (by kernel_rfl) (by kernel_rfl) (by kernel_rfl) (fun _ _ _ h => h) (Or.inl ⟨by rfl, ?_⟩) hHeld ?_
          rotate_left 1
          · (intro w hSw; (try dsimp only at hSw); go_simp; try with_reducible rfl)
          try simp only [Act.put, List.getElem_toArray, List.getElem_cons_zero, List.getElem_cons_succ, List.setIfInBounds_toArray, List.set_cons_zero, List.set_cons_succ]
          refine wpAnyL_take (i := 3) (v := ?_) rfl (by kernel_rfl) (by kernel_rfl) (by kernel_rfl) (by kernel_rfl) (fun _ _ _ h => h) (Or.inl ⟨by rfl, ?_⟩) hHeld ?_
          rotate_left 1
          · (intro w hSw; (try dsimp only at hSw); go_simp; try with_reducible rfl)
          try simp only [Act.put, List.getElem_toArray, List.getElem_cons_zero, List.getElem_cons_succ, List.setIfInBounds_toArray, List.set_cons_zero, List.set_cons_succ]
          refine wpAnyL_take (i := 4) (v := ?_) rfl (by kernel_rfl) (by kernel_rfl) (by kernel_rfl) (by kernel_rfl) (fun _ _ _ h => h) (Or.inl ⟨by rfl, ?_⟩) hHeld ?_
          rotate_left 1
          · (intro w hSw; have q1 := hSw.1.cell; have q2 := hSw.2.cell; go_simp; try with_reducible rfl)
          try simp only [Act.put, List.getElem_toArray, List.getElem_cons_zero, List.getElem_cons_succ, List.setIfInBounds_toArray, List.set_cons_zero, List.set_cons_succ]
          refine wpAnyL_take (i := 5) (v := ?_) rfl (by kernel_rfl) (by kernel_rfl) (by kernel_rfl) (by kernel_rfl) (fun _ _ _ h => h) (Or.inl ⟨by rfl, ?_⟩) hHeld ?_
          rotate_left 1
          · (intro w hSw; (try dsimp only at hSw); go_simp; try with_reducible rfl)
          try simp only [Act.put, List.getElem_toArray, List.getElem_cons_zero, List.getElem_cons_succ, List.setIfInBounds_toArray, List.set_cons_zero, List.set_cons_succ]
          refine wpAnyL_take (i := 6) (v := ?_) rfl (by kernel_rfl) (by kernel_rfl) (by kernel_rfl) (by kernel_rfl) (fun _ _ _ h => h) (Or.inl ⟨by rfl, ?_⟩) hHeld ?_
          rotate_left 1
          · (intro w hSw; have q1 := hSw.1.cell; have q2 := hSw.2.cell; go_simp; try with_reducible rfl)
          try simp only [Act.put, List.getElem_toArray, List.getElem_cons_zero, List.getElem_cons_succ, List.setIfInBounds_toArray, List.set_cons_zero, List.set_cons_succ]
          refine wpAnyL_take (i := 7) (v := ?_) rfl (by kernel_rfl) (by kernel_rfl) (by kernel_rfl) (by kernel_rfl) (fun _ _ _ h => h) (Or.inl ⟨by rfl, ?_⟩) hHeld ?_
          rotate_left 1
          · (intro w hSw; have q1 := hSw.1.cell; have q2 := hSw.2.cell; go_simp; try with_reducible rfl)
          try simp only [Act.put, List.getElem_toArray, List.getElem_cons_zero, List.getElem_cons_succ, List.setIfInBounds_toArray, List.set_cons_zero, List.set_cons_succ]
          refine wpAnyL_one (i := 8) (by kernel_rfl) rfl (by kernel_rfl) (fun K hK => ?_)
          clear hHeld
          go_simp
          refine (KC.out _ ((G.refl w7).drew)).mono ?_
          rintro e w8 ⟨v8, rfl, hs8, hf8, hg8'⟩
          obtain ⟨qa, qc, hv8⟩ := hs8.form
          obtain ⟨qn, hqn⟩ : ∃ qn, qn = x.ps.length := ⟨_, rfl⟩
          rw [← hqn] at hv8
          subst hv8
          have HG8 : Hid (G w7 w8) := ((G.refl w7).drew).trans hg8'
          have HS8 := hide (And.intro hs8 hf8)
          clear hs8 hf8 hg8' hqn KC
          go_wp2_with fail
          refine hK.out _ _ (⟨HMB7.out.G HG8.out, HBX7.out.G HG8.out⟩) (fun hHeld => ?_)
          clear hK K
          try simp only [Act.put, List.getElem_toArray, List.getElem_cons_zero, List.getElem_cons_succ, List.setIfInBounds_toArray, List.set_cons_zero, List.set_cons_succ]
          refine wpAnyL_last (by kernel_rfl) rfl (by kernel_rfl) (fun K hK => ?_)
          clear hHeld
          refine wp_put _ _ _ 74 rfl (HTB7.out.mp.G HG8.out) rfl kyI (es.map fun y => y.id) (fun a _ ha => HKEY.out a ha) HLL.out Tryz.underlying74 x.id rfl (kyI_ok.2 HR64.out) _ rfl (fun w9 hm9 hch9 hsz9 => ?_)
          refine hK.out _ _ ?_
          clear hK K
          refine NoPanic.normal ?_
          obtain ⟨hs8, hf8⟩ := HS8.out
          have hg8 := HG8.out
          have hth : thV w8 W.heap.size x (.agg #[.string x.ty, I x.fr, I x.to, .slice qa qn qc]) := ⟨_, rfl, hs8, fun k e => Nat.le_trans HG7.out.size (hf8.old ((G.refl w7).drew) k e)⟩
          have htb9 := (HTB7.out.G hg8).put HDIS.out hth hm9 hch9
          have hne : ∀ k, (∃ ty xs, Blk w8 k ty xs) → k ≠ m2 := fun k ⟨ty, xs, hb⟩ e => (HTB7.out.mp.G hg8).ne hb e.symm
          have hx9 : Fx [] [m2] w8 w9 := Fx.put hch9 (HTB7.out.mp.G hg8) (by simp)
          have HMB9 := hide ((HMB7.out.G hg8).fx hx9 (by simp))
          have HSO9 := hide ((HSO7.out.G hg8).fx hx9 (by simp))
          have HGB9 := hide ((HGB7.out.G hg8).fx hx9 (by simp))
          have hg9 : G W w9 := (HG7.out.trans hg8).trans_chg hch9 HLO.out.2.2.1.1
          have HG9 := hide hg9
          have HTB9 : Hid (TbM W.heap.size w9 m2 (es.take (i + 1)) (upd g2 x.id (some (.agg #[.string x.ty, I x.fr, I x.to, .slice qa qn qc])))) := by
            rw [Hid, List.take_add_one, HX.out]
            skip
            exact htb9
          have HMO9 : Hid (Sw eI 2 w9 (.slice na nn nc) (ns.map fun y => y.id) ∧ (∀ k, (Value.slice na nn nc).ownBlock = some k → (Value.slice a5 (rn + 1) c5).ownBlock ≠ some k) ∧ TbM W.heap.size w9 m1 (ns.map Nd.ed) g1) := by
            obtain ⟨k1, k2, k3⟩ := HMO7.out
            exact ⟨(k1.G hg8).fx hx9 (by simp), k2, (k3.G hg8).fx hx9 (by simp) (by simp; exact HLO.out.2.2.2)⟩
          clear hs8 hf8 hg8 hth htb9 hne hx9 hg9 hm9 hch9 hsz9 HS8 HG8 HMB7 HBX7 HTB7 HG7 HSO7 HGB7 HMO7 HDIS HKEY
          go_wp2_with fail
          exact ⟨⟨i + 1, a5, rn + 1, c5, _, by rw [HW.out]; exact srl i, HIL.out, HMB9.out, HSO9.out, HFO.out, HTB9.out, HG9.out, HGB9.out, HMO9.out⟩, by rw [HW.out]; exact sms HIL.out⟩
        · have i1 : ¬ (i : Int) < es.length := by omega
          have htk : es.take i = es := List.take_of_length_le (by omega)
          rw [htk] at hso htb
          obtain ⟨hn1, hn2, hn3⟩ := hmore
          have KF := hide (fansOf_any es 71 _ m2 W.heap.size _ wr hso htb (fun x hx => HR.out.2 x hx) HLEN.out.2)
          have hcm := hmb.cell
          have HE := hide (And.intro hmb (And.intro hso (And.intro hfo (And.intro htb (And.intro hgW (And.intro hn1 hn3))))))
          clear hik hmb hso hfo htb hgW hgb hil htk hln hn1 hn2 hn3
          go_wp2_with fail
          refine KF.out.mono ?_
          rintro e w10 ⟨b1, b2, f1, f2, rfl, hfan, hg10⟩
          obtain ⟨hmb, hso, hfo, htb, hgW, hn1, hn3⟩ := HE.out
          have hmb10 := hmb.G hg10
          have c10 := hmb10.cell
          have z10 := hmb10.frozen
          have hmbl := hmb.lt
          have hk12 : ∀ k, k ≠ mb → ((w10.setCell ⟨mb, 6, none⟩ (.map (some b1))).setCell ⟨mb, 7, none⟩ (.map (some b2))).heap[k]? = w10.heap[k]? := fun k hk => (Below.heap_setCell _ _ _ _ hk).trans (Below.heap_setCell _ _ _ _ hk)
          have hx12 : Fx [81] [] w10 ((w10.setCell ⟨mb, 6, none⟩ (.map (some b1))).setCell ⟨mb, 7, none⟩ (.map (some b2))) := (Fx.set hmb10 (by simp)).trans (Fx.set (hmb10.set 6 _) (by simp))
          have HF : Hid (LoadP W ((w10.setCell ⟨mb, 6, none⟩ (.map (some b1))).setCell ⟨mb, 7, none⟩ (.map (some b2))) ns es (.returned (.tuple #[ptr mb, I 0])) ∧ G W ((w10.setCell ⟨mb, 6, none⟩ (.map (some b1))).setCell ⟨mb, 7, none⟩ (.map (some b2)))) := by
            refine ⟨⟨mb, .slice na nn nc, .slice ra rn rc, m1, m2, b1, b2, g1, g2, f1, f2, rfl, ?_⟩, ((hgW.trans hg10).setCell HLO.out.1 _).setCell HLO.out.1 _⟩
            exact ⟨(hmb10.set 6 (.map (some b1))).set 7 (.map (some b2)), (hn1.G hg10).fx hx12 (by decide), (hso.G hg10).fx hx12 (by decide), fun k e => HFN.out k e, fun k e => hfo k e, (hn3.G hg10).fx hx12 (by decide) (by simp), (htb.G hg10).fx hx12 (by decide) (by simp),
              (hfan.keepLo fun k hk _ => hk12 k (by omega)).base hgW.size, ⟨HLO.out.1, HLO.out.2.1.1, HLO.out.2.2.1.1⟩⟩
          clear hmb hso hfo htb hgW hn1 hn3 hmb10 hmbl hk12 hx12 hfan hg10 KF HE hcm
          go_wp2_with fail
          go_ret2
          exact HF.out
end Go.Proofs.YtifioikdhfhljaaGreatDoor
