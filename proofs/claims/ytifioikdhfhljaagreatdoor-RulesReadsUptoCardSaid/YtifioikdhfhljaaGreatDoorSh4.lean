/- Graphs: may it be loaded? -/
import Derived.Test.YtifioikdhfhljaaGreatDoorSh3
namespace Go.Proofs.YtifioikdhfhljaaGreatDoor
open Go.RowKit

/-- One more, at the end of a row of our own. -/
theorem push {α : Type} {E : Enc α} {P : Program} {ty ts tr : TypeId} {W w : World} {v : Value} {l : List α} (i : TypeInfo) (z : Value) (bytes : Nat) (hts : P.underlying ts = some (.slice ty)) (hi : P.info? ty = some i) (hz : i.zero = some z) (hsize : i.size = E.s) (hby : i.bytes = bytes) (hzs : z.cells.size = E.s) (hsz : 0 < E.s)
    (h : Sw E ty w v l) (x : α) (hg : G W w) (hf : Fresh W v) (h63 : l.length + 1 ≤ maxLen) (hbytes : (l.length + 1) * bytes ≤ 140737488355328) :
    ∃ a c w', (Builtin.append_ #[ts, ts] tr #[v, .slice (some ⟨w.heap.size, 0, none⟩) 1 1]).run P (w.alloc (.cells (E.e x).toArray ty)) = .ok (.slice a (l.length + 1) c) w' ∧ Sw E ty w' (.slice a (l.length + 1) c) (l ++ [x]) ∧ G W w' ∧ Fresh W (.slice a (l.length + 1) c) ∧ ∀ M, Fx [ty] M w w' := by
  have hA := (G.refl w).alloc (.cells (E.e x).toArray ty)
  have hl : Row E.rel (w.alloc (.cells (E.e x).toArray ty)) (.slice (some ⟨w.heap.size, 0, none⟩) 1 1) [x] := by
    have := Row.lit (E := E) w ty [x] 1 (by simp)
    rw [show E.fl [x] = E.e x by simp [Enc.fl]] at this
    exact this
  obtain ⟨v', w', q1, q2, q3, q4⟩ := app_row (P := P) (tr := tr) i z bytes hts hi hz hsize hby hzs hsz (h.G hA) hl (by simpa using h63) (by simpa using hbytes)
  obtain ⟨f2, g2⟩ := hf.app (hg.trans hA) q3 q4
  obtain ⟨a, c, hv⟩ := q2.form
  rw [List.length_append] at hv
  obtain rfl : v' = .slice a (l.length + 1) c := hv
  exact ⟨a, c, w', q1, q2, g2, f2, fun M => (Fx.of_G hA).trans (Fx.own q3 (h.G hA) (by simp))⟩
theorem info_64 : ∃ i, Tryz.prog.info? 2 = some i ∧ i.zero = some (I 0) ∧ i.size = 1 ∧ i.bytes = 8 := info_parts (by kernel_rfl)
set_option maxRecDepth 100000 in
set_option maxHeartbeats 1000000 in
theorem kn1_any (x : Pv) (W : World) : Calls Tryz.prog 155 #[.agg #[.string x.key, I x.k, I x.a, I x.b, .string x.s]] W fun e w' => e = .returned (.bool (nameB x.key)) ∧ G W w' := by
  have K := hide (fun w : World => Name_any x.key w)
  go_enter Tryz.func155, Tryz.ntmps155
  go_wp2_with fail
  refine (K.out _).mono ?_
  rintro e w' ⟨rfl, h9⟩
  subst w'
  clear K
  go_wp2_with fail
  go_ret
  exact ⟨rfl, (G.refl W).alloc _⟩
set_option maxRecDepth 100000 in
set_option maxHeartbeats 1000000 in
theorem keysNamed_any (v : Value) (l : List Pv) (W : World) (h : Row eP.rel W v l) (hm : l.length ≤ 4611686018427387904) : Calls Tryz.prog 125 #[v] W fun e w' => e = .returned (.bool (l.all fun x => nameB x.key)) ∧ G W w' := by
  have K := hide (evP_any (fun x => nameB x.key) l v W h hm (fun x _ W' _ => kn1_any x W'))
  clear h hm
  go_enter Tryz.func125, Tryz.ntmps125
  go_wp2_with fail
  refine K.out.mono ?_
  rintro e w' ⟨rfl, g1⟩
  have HG := hide g1
  clear K g1
  go_wp2_with fail
  go_ret
  exact ⟨rfl, HG.out⟩
/-- What a node or an edge may have. -/
noncomputable def propsOk (l : List Pv) : Bool := (l.all fun x => nameB x.key) && goodB l
set_option maxRecDepth 100000 in
set_option maxHeartbeats 1000000 in
theorem good_any (v : Value) (l : List Pv) (W : World) (h : Row eP.rel W v l) (hm : l.length ≤ 4611686018427387904) (hT : Tabs W) : Calls Tryz.prog 84 #[v] W fun e w' => e = .returned (.bool (propsOk l)) ∧ G W w' := by
  have K := hide (keysNamed_any v l W h hm)
  have K2 : Hid (∀ W', G W W' → Calls Tryz.prog 126 #[v] W' fun e w' => e = .returned (.bool (goodB l)) ∧ G W' w') := fun W' g' => fit_any v l W' (h.G g') hm (hT.G g')
  clear h hm hT
  unfold propsOk
  generalize (l.all fun x => nameB x.key) = b1 at K ⊢
  generalize goodB l = b2 at K2 ⊢
  go_enter Tryz.func84, Tryz.ntmps84
  go_wp2_with fail
  refine K.out.mono ?_
  rintro e w1 ⟨rfl, g1⟩
  have HG := hide g1
  have K2' := hide (K2.out w1 g1)
  clear K K2 g1
  cases b1 with
  | false =>
    go_wp2_with fail
    go_ret
    exact ⟨rfl, HG.out⟩
  | true =>
    go_wp2_with fail
    refine K2'.out.mono ?_
    rintro e w2 ⟨rfl, g2⟩
    have HG2 := hide (HG.out.trans g2)
    clear g2 K2'
    go_wp2_with fail
    go_ret
    exact ⟨by first | rfl | simp, HG2.out⟩
set_option maxRecDepth 100000 in
set_option maxHeartbeats 1000000 in
theorem ld3_any (x : Nd) (pa : Option Addr) (pn pc : Nat) (W : World) (h : Row eP.rel W (.slice pa pn pc) x.ps) (hm : x.ps.length ≤ 4611686018427387904) (hT : Tabs W) : Calls Tryz.prog 82 #[.agg #[I x.id, .string x.lb, .slice pa pn pc]] W fun e w' => e = .returned (.bool (nameB x.lb && propsOk x.ps)) ∧ G W w' := by
  have gA := (G.refl W).alloc (.cells #[I x.id, .string x.lb, .slice pa pn pc] 69)
  have K := hide (fun w : World => Name_any x.lb w)
  have K2 := hide (good_any _ x.ps (W.alloc (.cells #[I x.id, .string x.lb, .slice pa pn pc] 69)) (h.G gA) hm (hT.G gA))
  have HA := hide gA
  clear h hm hT gA
  generalize nameB x.lb = b1 at K ⊢
  generalize propsOk x.ps = b2 at K2 ⊢
  go_enter Tryz.func82, Tryz.ntmps82
  go_wp2_with fail
  refine (K.out _).mono ?_
  rintro e w' ⟨rfl, h9⟩
  subst w'
  clear K
  cases b1 with
  | false =>
    go_wp2_with fail
    go_ret
    exact ⟨by first | rfl | simp, HA.out⟩
  | true =>
    go_wp2_with fail
    refine K2.out.mono ?_
    rintro e w2 ⟨rfl, g2⟩
    have HG2 := hide (HA.out.trans g2)
    clear g2 K2
    go_wp2_with fail
    go_ret
    exact ⟨by first | rfl | simp, HG2.out⟩
set_option maxRecDepth 100000 in
set_option maxHeartbeats 1000000 in
theorem ld4_any (x : Ed) (pa : Option Addr) (pn pc : Nat) (bx : Nat) (iv : Value) (ids : List Int) (W : World) (h : Row eP.rel W (.slice pa pn pc) x.ps) (hm : x.ps.length ≤ 4611686018427387904) (hT : Tabs W) (hb : Blk W bx 73 [iv]) (hi : Row eI.rel W iv ids) (hs : ids.Pairwise (· < ·)) (hl : ids.length ≤ 4611686018427387903) :
    Calls Tryz.prog 86 #[.agg #[I x.id, .string x.ty, I x.fr, I x.to, .slice pa pn pc], ptr bx] W fun e w' => e = .returned (.bool (nameB x.ty && decide (x.fr ∈ ids) && decide (x.to ∈ ids) && propsOk x.ps)) ∧ G W w' := by
  have gA := (G.refl W).alloc (.cells #[I x.id, .string x.ty, I x.fr, I x.to, .slice pa pn pc] 72)
  obtain ⟨ia, ic, rfl⟩ := hi.form
  have K := hide (fun w : World => Name_any x.ty w)
  have K2 := hide (good_any _ x.ps (W.alloc (.cells #[I x.id, .string x.ty, I x.fr, I x.to, .slice pa pn pc] 72)) (h.G gA) hm (hT.G gA))
  have K3 := hide (stands_any _ ids x.fr (W.alloc (.cells #[I x.id, .string x.ty, I x.fr, I x.to, .slice pa pn pc] 72)) (hi.G gA) hs hl)
  have K4 := hide (stands_any _ ids x.to (W.alloc (.cells #[I x.id, .string x.ty, I x.fr, I x.to, .slice pa pn pc] 72)) (hi.G gA) hs hl)
  have HA := hide gA
  have hc := (hb.G gA).cell
  have hlt := hb.lt
  have n1 : bx < W.heap.size + 1 := by omega
  clear h hm hT gA hb hi hs hl hlt
  generalize nameB x.ty = b1 at K ⊢
  generalize decide (x.fr ∈ ids) = b2 at K3 ⊢
  generalize decide (x.to ∈ ids) = b3 at K4 ⊢
  generalize propsOk x.ps = b4 at K2 ⊢
  go_enter Tryz.func86, Tryz.ntmps86
  go_wp2_with fail
  refine (K.out _).mono ?_
  rintro e w' ⟨rfl, h9⟩
  subst w'
  clear K
  cases b1 with
  | false =>
    go_wp2_with fail
    go_ret
    exact ⟨by first | rfl | simp, HA.out⟩
  | true =>
    go_wp2_with fail
    refine K3.out.mono ?_
    rintro e w' ⟨rfl, h9⟩
    subst w'
    cases b2 with
    | false =>
      go_wp2_with fail
      go_ret
      exact ⟨by first | rfl | simp, HA.out⟩
    | true =>
      go_wp2_with fail
      refine K4.out.mono ?_
      rintro e w' ⟨rfl, h9⟩
      subst w'
      cases b3 with
      | false =>
        go_wp2_with fail
        go_ret
        exact ⟨by first | rfl | simp, HA.out⟩
      | true =>
        go_wp2_with fail
        refine K2.out.mono ?_
        rintro e w2 ⟨rfl, g2⟩
        have HG2 := hide (HA.out.trans g2)
        clear g2 K2
        go_wp2_with fail
        go_ret
        exact ⟨by first | rfl | simp, HG2.out⟩
set_option maxRecDepth 100000 in
set_option maxHeartbeats 1000000 in
theorem mpN_1 (x : Nd) (pa : Option Addr) (pn pc : Nat) (W : World) : Calls Tryz.prog 77 #[.agg #[I x.id, .string x.lb, .slice pa pn pc]] W fun e w' => e = .returned (I x.id) ∧ G W w' := by
  go_enter Tryz.func77, Tryz.ntmps77
  go_wp2_with fail
  go_ret
  exact ⟨rfl, (G.refl W).alloc _⟩
set_option maxRecDepth 100000 in
set_option maxHeartbeats 1000000 in
theorem mpN_any (l : List Nd) (v : Value) (W : World) (h : Row relN W v l) (hm : l.length ≤ 4000000000000) : Calls Tryz.prog 76 #[v, .func (.func 77) #[] #[]] W fun e w' => ∃ v', e = .returned v' ∧ Sw eI 2 w' v' (l.map fun x => x.id) ∧ Fresh W v' ∧ G W w' := by
  obtain ⟨a, c, rfl⟩ := h.form
  have HS := hide h; have HM := hide hm
  clear h hm
  go_enter Tryz.func76, Tryz.ntmps76
  go_wp2_with fail
  go_loopw [10, 5, 7] (fun iv ov _ wr => ∃ (i : Nat) (oa : Option Addr) (oc : Nat), iv = I i ∧ i ≤ l.length ∧ ov = .slice oa i oc ∧ Sw eI 2 wr ov ((l.take i).map fun x => x.id) ∧ Fresh W ov ∧ G W wr) (fun iv _ _ _ => l.length - (RowKit.intOf iv).toNat)
  case atStart => exact ⟨0, none, 0, rfl, Nat.zero_le _, rfl, Sw.nil _ _ _, Fresh.nil _, G.refl _⟩
  case round =>
    obtain ⟨i, oa, oc, rfl, hik, rfl, hso, hfo, hg⟩ := hrel
    by_cases hil : i < l.length
    · obtain ⟨x, hx⟩ : ∃ x, l[i]? = some x := ⟨_, List.getElem?_eq_getElem hil⟩
      obtain ⟨g, o, cap, q⟩ := HS.out.addr (by omega)
      injection q with q1 q2 q3
      subst q1 q3
      obtain ⟨cs, ⟨vp, hcs, hvp⟩, hr1⟩ := HS.out.at hx
      subst hcs
      obtain ⟨pa, pc, hvf⟩ := hvp.form
      obtain ⟨pn, hpn⟩ : ∃ pn, pn = x.ps.length := ⟨_, rfl⟩
      rw [← hpn] at hvf
      subst hvf
      have x1 : wr.cell? ⟨g, o + i * 3, none⟩ = some (I x.id) := rangeAt_G hr1 hg 0 _ rfl
      have x2 : wr.cell? ⟨g, o + i * 3 + 1, none⟩ = some (.string x.lb) := rangeAt_G hr1 hg 1 _ rfl
      have x3 : wr.cell? ⟨g, o + i * 3 + 2, none⟩ = some (.slice pa pn pc) := rangeAt_G hr1 hg 2 _ rfl
      have i1 : (i : Int) < l.length := Int.ofNat_lt.2 hil
      have gA := (G.refl wr).alloc (.cells #[I x.id, .string x.lb, .slice pa pn pc] 69)
      have KI := hide (mpN_1 x pa pn pc (wr.alloc (.cells #[I x.id, .string x.lb, .slice pa pn pc] 69)))
      have HW : Hid (wrap64 ((i : Int) + 1) = (i : Int) + 1) := by show _ = _; have := HM.out; unfold wrap64; omega
      have HG := hide hg; have HX := hide hx; have HIL := hide hil; have HSO := hide hso; have HFO := hide hfo; have HA := hide gA
      clear hik hil hx q2 hg hvp hr1 hpn hso hfo gA
      go_wp2_with fail
      refine KI.out.mono ?_
      rintro e w1 ⟨rfl, g1⟩
      have gA := HA.out.trans g1
      obtain ⟨i0, hi0, hz0, hz1, hz2⟩ := info_64
      have hll : ((l.take i).map fun x => x.id).length = i := by rw [List.length_map, List.length_take]; have := HIL.out; omega
      obtain ⟨a5, c5, w5, r1, r2, r3, r4, -⟩ := push (P := Tryz.prog) (tr := 73) i0 _ 8 Tryz.underlying73 hi0 hz0 hz1 hz2 rfl (by decide) (HSO.out.G gA) (x.id) (HG.out.trans gA) HFO.out (by have := HIL.out; have := HM.out; have hmx : (4000000000000 : Nat) ≤ maxLen := of_decide_eq_true (by kernel_rfl); omega) (by have := HIL.out; have := HM.out; omega)
      rw [hll] at r1 r2 r4
      have HF : Hid (Sw eI 2 w5 (.slice a5 (i + 1) c5) ((l.take (i + 1)).map fun x => x.id) ∧ Fresh W (.slice a5 (i + 1) c5) ∧ G W w5) := ⟨by rw [List.take_add_one, HX.out, List.map_append]; exact r2, r4, r3⟩
      have HR := hide r1
      clear gA hi0 hz0 hz1 hz2 hll r1 r2 r3 r4 g1 KI x1 x2 x3 i1
      go_wp2_with (first | (at_builtin; refine wpList_append_run rfl _ _ 73 rfl (.slice oa i oc) (.slice (some ⟨w1.heap.size, 0, none⟩) 1 1) rfl rfl HR.out ?_) | fail)
      obtain ⟨f1, f2, f3⟩ := HF.out
      exact ⟨⟨i + 1, a5, c5, by rw [HW.out]; exact srl i, HIL.out, rfl, f1, f2, f3⟩, by rw [HW.out]; exact sms HIL.out⟩
    · have i1 : ¬ ((i : Int) < l.length) := by omega
      have HF : Hid (Sw eI 2 wr (.slice oa i oc) (l.map fun x => x.id) ∧ Fresh W (.slice oa i oc) ∧ G W wr) := ⟨by rw [List.take_of_length_le (by omega)] at hso; exact hso, hfo, hg⟩
      clear hik hil hso hfo hg
      go_wp2_with fail
      go_ret
      exact ⟨_, rfl, HF.out⟩
set_option maxRecDepth 100000 in
set_option maxHeartbeats 1000000 in
theorem mpE_1 (x : Ed) (pa : Option Addr) (pn pc : Nat) (W : World) : Calls Tryz.prog 79 #[.agg #[I x.id, .string x.ty, I x.fr, I x.to, .slice pa pn pc]] W fun e w' => e = .returned (I x.id) ∧ G W w' := by
  go_enter Tryz.func79, Tryz.ntmps79
  go_wp2_with fail
  go_ret
  exact ⟨rfl, (G.refl W).alloc _⟩
set_option maxRecDepth 100000 in
set_option maxHeartbeats 1000000 in
theorem mpE_any (l : List Ed) (v : Value) (W : World) (h : Row relE W v l) (hm : l.length ≤ 4000000000000) : Calls Tryz.prog 78 #[v, .func (.func 79) #[] #[]] W fun e w' => ∃ v', e = .returned v' ∧ Sw eI 2 w' v' (l.map fun x => x.id) ∧ Fresh W v' ∧ G W w' := by
  obtain ⟨a, c, rfl⟩ := h.form
  have HS := hide h; have HM := hide hm
  clear h hm
  go_enter Tryz.func78, Tryz.ntmps78
  go_wp2_with fail
  go_loopw [10, 5, 7] (fun iv ov _ wr => ∃ (i : Nat) (oa : Option Addr) (oc : Nat), iv = I i ∧ i ≤ l.length ∧ ov = .slice oa i oc ∧ Sw eI 2 wr ov ((l.take i).map fun x => x.id) ∧ Fresh W ov ∧ G W wr) (fun iv _ _ _ => l.length - (RowKit.intOf iv).toNat)
  case atStart => exact ⟨0, none, 0, rfl, Nat.zero_le _, rfl, Sw.nil _ _ _, Fresh.nil _, G.refl _⟩
  case round =>
    obtain ⟨i, oa, oc, rfl, hik, rfl, hso, hfo, hg⟩ := hrel
    by_cases hil : i < l.length
    · obtain ⟨x, hx⟩ : ∃ x, l[i]? = some x := ⟨_, List.getElem?_eq_getElem hil⟩
      obtain ⟨g, o, cap, q⟩ := HS.out.addr (by omega)
      injection q with q1 q2 q3
      subst q1 q3
      obtain ⟨cs, ⟨vp, hcs, hvp⟩, hr1⟩ := HS.out.at hx
      subst hcs
      obtain ⟨pa, pc, hvf⟩ := hvp.form
      obtain ⟨pn, hpn⟩ : ∃ pn, pn = x.ps.length := ⟨_, rfl⟩
      rw [← hpn] at hvf
      subst hvf
      have x1 : wr.cell? ⟨g, o + i * 5, none⟩ = some (I x.id) := rangeAt_G hr1 hg 0 _ rfl
      have x2 : wr.cell? ⟨g, o + i * 5 + 1, none⟩ = some (.string x.ty) := rangeAt_G hr1 hg 1 _ rfl
      have x3 : wr.cell? ⟨g, o + i * 5 + 2, none⟩ = some (I x.fr) := rangeAt_G hr1 hg 2 _ rfl
      have x4 : wr.cell? ⟨g, o + i * 5 + 3, none⟩ = some (I x.to) := rangeAt_G hr1 hg 3 _ rfl
      have x5 : wr.cell? ⟨g, o + i * 5 + 4, none⟩ = some (.slice pa pn pc) := rangeAt_G hr1 hg 4 _ rfl
      have i1 : (i : Int) < l.length := Int.ofNat_lt.2 hil
      have gA := (G.refl wr).alloc (.cells #[I x.id, .string x.ty, I x.fr, I x.to, .slice pa pn pc] 72)
      have KI := hide (mpE_1 x pa pn pc (wr.alloc (.cells #[I x.id, .string x.ty, I x.fr, I x.to, .slice pa pn pc] 72)))
      have HW : Hid (wrap64 ((i : Int) + 1) = (i : Int) + 1) := by show _ = _; have := HM.out; unfold wrap64; omega
      have HG := hide hg; have HX := hide hx; have HIL := hide hil; have HSO := hide hso; have HFO := hide hfo; have HA := hide gA
      clear hik hil hx q2 hg hvp hr1 hpn hso hfo gA
      go_wp2_with fail
      refine KI.out.mono ?_
      rintro e w1 ⟨rfl, g1⟩
      have gA := HA.out.trans g1
      obtain ⟨i0, hi0, hz0, hz1, hz2⟩ := info_64
      have hll : ((l.take i).map fun x => x.id).length = i := by rw [List.length_map, List.length_take]; have := HIL.out; omega
      obtain ⟨a5, c5, w5, r1, r2, r3, r4, -⟩ := push (P := Tryz.prog) (tr := 73) i0 _ 8 Tryz.underlying73 hi0 hz0 hz1 hz2 rfl (by decide) (HSO.out.G gA) (x.id) (HG.out.trans gA) HFO.out (by have := HIL.out; have := HM.out; have hmx : (4000000000000 : Nat) ≤ maxLen := of_decide_eq_true (by kernel_rfl); omega) (by have := HIL.out; have := HM.out; omega)
      rw [hll] at r1 r2 r4
      have HF : Hid (Sw eI 2 w5 (.slice a5 (i + 1) c5) ((l.take (i + 1)).map fun x => x.id) ∧ Fresh W (.slice a5 (i + 1) c5) ∧ G W w5) := ⟨by rw [List.take_add_one, HX.out, List.map_append]; exact r2, r4, r3⟩
      have HR := hide r1
      clear gA hi0 hz0 hz1 hz2 hll r1 r2 r3 r4 g1 KI x1 x2 x3 x4 x5 i1
      go_wp2_with (first | (at_builtin; refine wpList_append_run rfl _ _ 73 rfl (.slice oa i oc) (.slice (some ⟨w1.heap.size, 0, none⟩) 1 1) rfl rfl HR.out ?_) | fail)
      obtain ⟨f1, f2, f3⟩ := HF.out
      exact ⟨⟨i + 1, a5, c5, by rw [HW.out]; exact srl i, HIL.out, rfl, f1, f2, f3⟩, by rw [HW.out]; exact sms HIL.out⟩
    · have i1 : ¬ ((i : Int) < l.length) := by omega
      have HF : Hid (Sw eI 2 wr (.slice oa i oc) (l.map fun x => x.id) ∧ Fresh W (.slice oa i oc) ∧ G W wr) := ⟨by rw [List.take_of_length_le (by omega)] at hso; exact hso, hfo, hg⟩
      clear hik hil hso hfo hg
      go_wp2_with fail
      go_ret
      exact ⟨_, rfl, HF.out⟩
end Go.Proofs.YtifioikdhfhljaaGreatDoor
