/- Graphs: is there one of that id? Those of which it is so. -/
import Derived.Test.YtifioikdhfhljaaGreatDoorSm1
namespace Go.Proofs.YtifioikdhfhljaaGreatDoor
open Go.RowKit Go.Maps

set_option maxRecDepth 100000 in
set_option maxHeartbeats 4000000 in
theorem lacks_any (L : List Ed) (c : Int) (da : Option Addr) (dn dc : Nat) (m lo b : Nat) (g : Int → Option Value) (id : Int) (W : World) (hm : TbM lo W m L g) (hb : Blk W b 2 [I id]) (hr : R64 id) :
    Calls Tryz.prog 100 #[.agg #[I c, .slice da dn dc, .map (some m)], .slice (some ⟨b, 0, none⟩) 1 1] W fun e W' => e = .returned (I (if id ∈ L.map (·.id) then 0 else c)) ∧ G W W' := by
  obtain ⟨w2, hw2⟩ : ∃ w2, w2 = W.alloc (.cells #[I c, .slice da dn dc, .map (some m)] 76) := ⟨_, rfl⟩
  have hg2 : G W w2 := by rw [hw2]; exact (G.refl W).alloc _
  have hB2 : Blk w2 W.heap.size 76 [I c, .slice da dn dc, .map (some m)] := by rw [hw2]; exact Blk.new W [I c, .slice da dn dc, .map (some m)] 76
  obtain ⟨rv, hrv⟩ : ∃ rv, rv = if id ∈ L.map (·.id) then 0 else c := ⟨_, rfl⟩
  rw [← hrv]
  have HRV := hide hrv
  have HM := hide (hm.G hg2); have HR := hide hr; have HG2 := hide hg2; have HB2 := hide hB2; have HB := hide (hb.G hg2)
  have HEW : Hid (W.alloc (.cells #[I c, .slice da dn dc, .map (some m)] 76) = w2) := hw2.symm
  have HY : Hid (id ∈ L.map (·.id) ↔ (g id).isSome = true) := by
    refine ⟨fun q => ?_, fun q => ?_⟩
    · obtain ⟨x, hx, rfl⟩ := List.mem_map.1 q
      obtain ⟨u, hu, _⟩ := hm.th x hx
      rw [hu]; rfl
    · obtain ⟨x, hx, e⟩ := hm.key id (fun e => by rw [e] at q; cases q)
      exact List.mem_map.2 ⟨x, hx, e⟩
  have HZ : Hid (∃ s f t a n k, (g id).getD (.agg #[.string { data := #[] }, I 0, I 0, .slice none 0 0]) = .agg #[.string s, I f, I t, .slice a n k]) := by
    cases q : g id with
    | none => exact ⟨_, _, _, _, _, _, rfl⟩
    | some u =>
      obtain ⟨x, hx, rfl⟩ := hm.key id (by rw [q]; simp)
      obtain ⟨u', hu, vv, rfl, hsv, -⟩ := hm.th x hx
      obtain ⟨a, k, rfl⟩ := hsv.form
      rw [q] at hu
      cases hu
      exact ⟨_, _, _, _, _, _, rfl⟩
  have hc2 := hB2.cell
  clear hm hb hr hg2 hB2 hw2 hrv
  go_enter Tryz.func100, Tryz.ntmps100
  go_wp2_with (first | (rw [HEW.out]; clear HEW) | fail)
  try rw [HEW.out]
  go_loopw [11, 6, 7, 8, 15] (fun iv _ _ _ _ wr => ∃ i : Nat, iv = I i ∧ i ≤ 1 ∧ (i = 1 → id ∈ L.map (·.id)) ∧ G w2 wr) (fun iv _ _ _ _ _ => 1 - (RowKit.intOf iv).toNat)
  case atStart => exact ⟨0, rfl, Nat.zero_le _, (fun h => by cases h), G.refl _⟩
  case round =>
    obtain ⟨i, rfl, hik, hin, hg⟩ := hrel
    have hcb := (HB2.out.G hg).cell
    have hbb := (HB.out.G hg).cell
    have HG := hide hg
    rcases Nat.lt_or_ge i 1 with h1 | h1
    · obtain rfl : i = 0 := by omega
      have hlk := (HM.out.G hg).mp.lookOk kyI Tryz.underlying74 (Tryz.zeroValue83 _) (kyI_ok.2 HR.out)
      obtain ⟨s, f, t, a, n, k, hz⟩ := HZ.out
      rw [hz] at hlk
      clear hik hin hg h1 hz
      cases hgs : (g id).isSome with
      | false =>
        rw [hgs] at hlk
        have HF : Hid (rv = c) := by rw [Hid, HRV.out, if_neg (fun q => by rw [HY.out, hgs] at q; cases q)]
        have hcA := ((HB2.out.G HG.out).G ((G.refl wr).alloc (.cells #[.string s, I f, I t, .slice a n k] 83))).cell
        clear hgs
        go_wp2_with fail
        go_ret
        exact ⟨by rw [HF.out] <;> rfl, (HG2.out.trans HG.out).alloc _⟩
      | true =>
        rw [hgs] at hlk
        have HF : Hid (id ∈ L.map (·.id)) := HY.out.2 hgs
        have HGA : Hid (G w2 (wr.alloc (.cells #[.string s, I f, I t, .slice a n k] 83))) := HG.out.alloc _
        clear hgs
        go_wp2_with fail
        exact ⟨⟨1, rfl, Nat.le_refl _, fun _ => HF.out, HGA.out⟩, by decide⟩
    · obtain rfl : i = 1 := by omega
      have HF : Hid (rv = 0) := by rw [Hid, HRV.out, if_pos (hin rfl)]
      clear hik hin hg h1
      go_wp2_with fail
      go_ret
      exact ⟨by rw [HF.out] <;> rfl, HG2.out.trans HG.out⟩
set_option maxRecDepth 100000 in
set_option maxHeartbeats 4000000 in
theorem whN_any (bx : Nat) (p : Ed → Bool) (L : List Ed) (c : Int) (idv : Value) (m lo : Nat) (g : Int → Option Value) (W : World) (hi : Sw eI 2 W idv (L.map (·.id))) (hm : TbM lo W m L g) (hr : ∀ x ∈ L, R64 x.id) (hL : L.length ≤ 2199023255552)
    (HK : ∀ x ∈ L, ∀ (pa : Option Addr) (pn pc : Nat) (W' : World), G W W' → Row eP.rel W' (.slice pa pn pc) x.ps → Calls Tryz.prog 94 #[.agg #[.string x.ty, I x.fr, I x.to, .slice pa pn pc], ptr bx] W' fun e w' => e = .returned (.bool (p x)) ∧ G W' w') :
    Calls Tryz.prog 93 #[.agg #[I c, idv, .map (some m)], .func (.func 94) #[] #[ptr bx]] W fun e W' => ∃ ra rn rc, e = .returned (.slice ra rn rc) ∧ Sw eI 2 W' (.slice ra rn rc) ((L.filter p).map (·.id)) ∧ Fresh W (.slice ra rn rc) ∧ G W W' := by
  have hv := hi.form
  rw [List.length_map] at hv
  obtain ⟨da, dc, rfl⟩ := hv
  obtain ⟨dn, hdn⟩ : ∃ dn, dn = L.length := ⟨_, rfl⟩
  rw [← hdn] at hi ⊢
  obtain ⟨w2, hw2⟩ : ∃ w2, w2 = W.alloc (.cells #[I c, .slice da dn dc, .map (some m)] 76) := ⟨_, rfl⟩
  have hg2 : G W w2 := by rw [hw2]; exact (G.refl W).alloc _
  have hB2 : Blk w2 W.heap.size 76 [I c, .slice da dn dc, .map (some m)] := by rw [hw2]; exact Blk.new W [I c, .slice da dn dc, .map (some m)] 76
  have HI := hide hi; have HM := hide hm; have HR := hide hr; have HL := hide hL; have HG2 := hide hg2; have HB2 := hide hB2; have HKK := hide HK
  have HEW : Hid (W.alloc (.cells #[I c, .slice da dn dc, .map (some m)] 76) = w2) := hw2.symm
  have HDN := hide hdn
  have hc2 := hB2.cell
  clear hi hm hr hL hg2 hB2 hw2 hdn HK
  go_enter Tryz.func93, Tryz.ntmps93
  go_wp2_with (first | (rw [HEW.out]; clear HEW) | fail)
  try rw [HEW.out]
  go_loopw [11, 5, 7] (fun iv ov _ wr => ∃ (i : Nat) (ra : Option Addr) (rn rc : Nat), iv = I i ∧ i ≤ L.length ∧ ov = .slice ra rn rc ∧ Sw eI 2 wr (.slice ra rn rc) (((L.take i).filter p).map (·.id)) ∧ Fresh w2 (.slice ra rn rc) ∧ G w2 wr) (fun iv _ _ _ => L.length - (RowKit.intOf iv).toNat)
  case atStart => exact ⟨0, none, 0, 0, rfl, Nat.zero_le _, rfl, Sw.nil _ _ _, Fresh.nil _, G.refl _⟩
  case round =>
    obtain ⟨i, ra, rn, rc, rfl, hik, rfl, hso, hfo, hg⟩ := hrel
    have hdn := HDN.out
    have hll := HL.out
    by_cases hil : i < L.length
    · obtain ⟨x, hx⟩ : ∃ x, L[i]? = some x := ⟨_, List.getElem?_eq_getElem hil⟩
      have HIL := hide hil; have HX := hide hx
      have hxm := List.mem_of_getElem? hx
      have hxi : (L.map (·.id))[i]? = some x.id := by rw [List.getElem?_map, hx]; rfl
      obtain ⟨gI, oI, cI, qI⟩ := HI.out.toRow.addr (by rw [List.length_map]; omega)
      injection qI with q1 q2 q3
      subst q1
      have hgW := HG2.out.trans hg
      have x1 : wr.cell? ⟨gI, oI + i, none⟩ = some (I x.id) := by
        have := ((HI.out.G hgW).toRow).one hxi 0 (u := I x.id) rfl
        simpa using this
      obtain ⟨u, hu, vv, rfl, hsv, hlv⟩ := (HM.out.G hgW).th x hxm
      obtain ⟨pa, pc, rfl⟩ := hsv.form
      obtain ⟨pn, hpn⟩ : ∃ pn, pn = x.ps.length := ⟨_, rfl⟩
      rw [← hpn] at hu hsv
      have hlk := (HM.out.G hgW).mp.look kyI Tryz.underlying74 (Tryz.zeroValue83 _) (kyI_ok.2 (HR.out x hxm))
      rw [hu, Option.getD_some] at hlk
      have i1 : (i : Int) < dn := by omega
      have HW : Hid (wrap64 ((i : Int) + 1) = (i : Int) + 1) := by show _ = _; unfold wrap64; omega
      have hcb := (HB2.out.G hg).cell
      have KI := hide (HKK.out x hxm pa pn pc wr hgW hsv.toRow)
      have hrn : (((L.take i).filter p).map (·.id)).length = rn := hso.len_eq
      have hrl : rn ≤ i := by
        have h1 := List.length_filter_le p (L.take i)
        rw [List.length_take] at h1
        rw [List.length_map] at hrn
        omega
      have HRL := hide hrl
      have HSO := hide hso; have HFO := hide hfo; have HG := hide hg
      clear hik hil hx hxm hxi q2 q3 hu hsv hlv hpn hdn hgW hso hfo hg hll hrn hrl
      cases hp : p x with
      | false =>
        rw [hp] at KI
        have HF : Hid (Sw eI 2 wr (.slice ra rn rc) (((L.take (i + 1)).filter p).map (·.id))) := by
          rw [Hid, List.take_add_one, HX.out, List.filter_append]
          simpa [hp] using HSO.out
        clear hp
        go_wp2_with fail
        refine KI.out.mono ?_
        rintro e w1 ⟨rfl, g1⟩
        have HF1 := hide (HF.out.G g1)
        have HG1 := hide (HG.out.trans g1)
        clear g1 KI x1 hlk i1 hcb
        go_wp2_with fail
        exact ⟨⟨i + 1, ra, rn, rc, by rw [HW.out]; exact srl i, HIL.out, rfl, HF1.out, HFO.out, HG1.out⟩, by rw [HW.out]; exact sms HIL.out⟩
      | true =>
        rw [hp] at KI
        go_wp2_with fail
        refine KI.out.mono ?_
        rintro e w1 ⟨rfl, g1⟩
        obtain ⟨i0, hi0, hz0, hz1, hz2⟩ := info_64
        have hmx : (4000000000000 : Nat) ≤ maxLen := of_decide_eq_true (by kernel_rfl)
        have hll : (((L.take i).filter p).map (·.id)).length = rn := HSO.out.len_eq
        have hrl := HRL.out
        have hil := HIL.out
        have hlm := HL.out
        obtain ⟨a5, c5, w5, r1, r2, r3, r4, -⟩ := push (P := Tryz.prog) (tr := 73) i0 _ 8 Tryz.underlying73 hi0 hz0 hz1 hz2 rfl (by decide) (HSO.out.G g1) (x.id) (HG.out.trans g1) HFO.out (by omega) (by omega)
        rw [hll] at r1 r2 r4
        have HF : Hid (Sw eI 2 w5 (.slice a5 (rn + 1) c5) (((L.take (i + 1)).filter p).map (·.id)) ∧ Fresh w2 (.slice a5 (rn + 1) c5) ∧ G w2 w5) := by
          refine ⟨?_, r4, r3⟩
          rw [List.take_add_one, HX.out, List.filter_append]
          simpa [hp] using r2
        have HR := hide r1
        clear hi0 hz0 hz1 hz2 hmx hll hrl hil hlm r1 r2 r3 r4 g1 KI x1 hlk i1 hcb hp
        go_wp2_with (first | (at_builtin; refine wpList_append_run rfl _ _ 73 rfl (.slice ra rn rc) (.slice (some ⟨w1.heap.size, 0, none⟩) 1 1) rfl rfl HR.out ?_) | fail)
        obtain ⟨f1, f2, f3⟩ := HF.out
        exact ⟨⟨i + 1, a5, rn + 1, c5, by rw [HW.out]; exact srl i, HIL.out, rfl, f1, f2, f3⟩, by rw [HW.out]; exact sms HIL.out⟩
    · have i1 : ¬ (i : Int) < dn := by omega
      have hcb := (HB2.out.G hg).cell
      have HF : Hid (Sw eI 2 wr (.slice ra rn rc) ((L.filter p).map (·.id)) ∧ Fresh W (.slice ra rn rc) ∧ G W wr) := ⟨by rw [List.take_of_length_le (by omega)] at hso; exact hso, hfo.old HG2.out, HG2.out.trans hg⟩
      clear hik hil hso hfo hg hdn hll
      go_wp2_with fail
      go_ret
      exact ⟨_, _, _, rfl, HF.out⟩
set_option maxRecDepth 100000 in
set_option maxHeartbeats 4000000 in
theorem whF_any (bx by_ bz : Nat) (p : Ed → Bool) (L : List Ed) (c : Int) (idv : Value) (m lo : Nat) (g : Int → Option Value) (W : World) (hi : Sw eI 2 W idv (L.map (·.id))) (hm : TbM lo W m L g) (hr : ∀ x ∈ L, R64 x.id) (hL : L.length ≤ 2199023255552)
    (HK : ∀ x ∈ L, ∀ (pa : Option Addr) (pn pc : Nat) (W' : World), G W W' → Row eP.rel W' (.slice pa pn pc) x.ps → Calls Tryz.prog 96 #[.agg #[.string x.ty, I x.fr, I x.to, .slice pa pn pc], ptr bx, ptr by_, ptr bz] W' fun e w' => e = .returned (.bool (p x)) ∧ G W' w') :
    Calls Tryz.prog 93 #[.agg #[I c, idv, .map (some m)], .func (.func 96) #[] #[ptr bx, ptr by_, ptr bz]] W fun e W' => ∃ ra rn rc, e = .returned (.slice ra rn rc) ∧ Sw eI 2 W' (.slice ra rn rc) ((L.filter p).map (·.id)) ∧ Fresh W (.slice ra rn rc) ∧ G W W' := by
  have hv := hi.form
  rw [List.length_map] at hv
  obtain ⟨da, dc, rfl⟩ := hv
  obtain ⟨dn, hdn⟩ : ∃ dn, dn = L.length := ⟨_, rfl⟩
  rw [← hdn] at hi ⊢
  obtain ⟨w2, hw2⟩ : ∃ w2, w2 = W.alloc (.cells #[I c, .slice da dn dc, .map (some m)] 76) := ⟨_, rfl⟩
  have hg2 : G W w2 := by rw [hw2]; exact (G.refl W).alloc _
  have hB2 : Blk w2 W.heap.size 76 [I c, .slice da dn dc, .map (some m)] := by rw [hw2]; exact Blk.new W [I c, .slice da dn dc, .map (some m)] 76
  have HI := hide hi; have HM := hide hm; have HR := hide hr; have HL := hide hL; have HG2 := hide hg2; have HB2 := hide hB2; have HKK := hide HK
  have HEW : Hid (W.alloc (.cells #[I c, .slice da dn dc, .map (some m)] 76) = w2) := hw2.symm
  have HDN := hide hdn
  have hc2 := hB2.cell
  clear hi hm hr hL hg2 hB2 hw2 hdn HK
  go_enter Tryz.func93, Tryz.ntmps93
  go_wp2_with (first | (rw [HEW.out]; clear HEW) | fail)
  try rw [HEW.out]
  go_loopw [11, 5, 7] (fun iv ov _ wr => ∃ (i : Nat) (ra : Option Addr) (rn rc : Nat), iv = I i ∧ i ≤ L.length ∧ ov = .slice ra rn rc ∧ Sw eI 2 wr (.slice ra rn rc) (((L.take i).filter p).map (·.id)) ∧ Fresh w2 (.slice ra rn rc) ∧ G w2 wr) (fun iv _ _ _ => L.length - (RowKit.intOf iv).toNat)
  case atStart => exact ⟨0, none, 0, 0, rfl, Nat.zero_le _, rfl, Sw.nil _ _ _, Fresh.nil _, G.refl _⟩
  case round =>
    obtain ⟨i, ra, rn, rc, rfl, hik, rfl, hso, hfo, hg⟩ := hrel
    have hdn := HDN.out
    have hll := HL.out
    by_cases hil : i < L.length
    · obtain ⟨x, hx⟩ : ∃ x, L[i]? = some x := ⟨_, List.getElem?_eq_getElem hil⟩
      have HIL := hide hil; have HX := hide hx
      have hxm := List.mem_of_getElem? hx
      have hxi : (L.map (·.id))[i]? = some x.id := by rw [List.getElem?_map, hx]; rfl
      obtain ⟨gI, oI, cI, qI⟩ := HI.out.toRow.addr (by rw [List.length_map]; omega)
      injection qI with q1 q2 q3
      subst q1
      have hgW := HG2.out.trans hg
      have x1 : wr.cell? ⟨gI, oI + i, none⟩ = some (I x.id) := by
        have := ((HI.out.G hgW).toRow).one hxi 0 (u := I x.id) rfl
        simpa using this
      obtain ⟨u, hu, vv, rfl, hsv, hlv⟩ := (HM.out.G hgW).th x hxm
      obtain ⟨pa, pc, rfl⟩ := hsv.form
      obtain ⟨pn, hpn⟩ : ∃ pn, pn = x.ps.length := ⟨_, rfl⟩
      rw [← hpn] at hu hsv
      have hlk := (HM.out.G hgW).mp.look kyI Tryz.underlying74 (Tryz.zeroValue83 _) (kyI_ok.2 (HR.out x hxm))
      rw [hu, Option.getD_some] at hlk
      have i1 : (i : Int) < dn := by omega
      have HW : Hid (wrap64 ((i : Int) + 1) = (i : Int) + 1) := by show _ = _; unfold wrap64; omega
      have hcb := (HB2.out.G hg).cell
      have KI := hide (HKK.out x hxm pa pn pc wr hgW hsv.toRow)
      have hrn : (((L.take i).filter p).map (·.id)).length = rn := hso.len_eq
      have hrl : rn ≤ i := by
        have h1 := List.length_filter_le p (L.take i)
        rw [List.length_take] at h1
        rw [List.length_map] at hrn
        omega
      have HRL := hide hrl
      have HSO := hide hso; have HFO := hide hfo; have HG := hide hg
      clear hik hil hx hxm hxi q2 q3 hu hsv hlv hpn hdn hgW hso hfo hg hll hrn hrl
      cases hp : p x with
      | false =>
        rw [hp] at KI
        have HF : Hid (Sw eI 2 wr (.slice ra rn rc) (((L.take (i + 1)).filter p).map (·.id))) := by
          rw [Hid, List.take_add_one, HX.out, List.filter_append]
          simpa [hp] using HSO.out
        clear hp
        go_wp2_with fail
        refine KI.out.mono ?_
        rintro e w1 ⟨rfl, g1⟩
        have HF1 := hide (HF.out.G g1)
        have HG1 := hide (HG.out.trans g1)
        clear g1 KI x1 hlk i1 hcb
        go_wp2_with fail
        exact ⟨⟨i + 1, ra, rn, rc, by rw [HW.out]; exact srl i, HIL.out, rfl, HF1.out, HFO.out, HG1.out⟩, by rw [HW.out]; exact sms HIL.out⟩
      | true =>
        rw [hp] at KI
        go_wp2_with fail
        refine KI.out.mono ?_
        rintro e w1 ⟨rfl, g1⟩
        obtain ⟨i0, hi0, hz0, hz1, hz2⟩ := info_64
        have hmx : (4000000000000 : Nat) ≤ maxLen := of_decide_eq_true (by kernel_rfl)
        have hll : (((L.take i).filter p).map (·.id)).length = rn := HSO.out.len_eq
        have hrl := HRL.out
        have hil := HIL.out
        have hlm := HL.out
        obtain ⟨a5, c5, w5, r1, r2, r3, r4, -⟩ := push (P := Tryz.prog) (tr := 73) i0 _ 8 Tryz.underlying73 hi0 hz0 hz1 hz2 rfl (by decide) (HSO.out.G g1) (x.id) (HG.out.trans g1) HFO.out (by omega) (by omega)
        rw [hll] at r1 r2 r4
        have HF : Hid (Sw eI 2 w5 (.slice a5 (rn + 1) c5) (((L.take (i + 1)).filter p).map (·.id)) ∧ Fresh w2 (.slice a5 (rn + 1) c5) ∧ G w2 w5) := by
          refine ⟨?_, r4, r3⟩
          rw [List.take_add_one, HX.out, List.filter_append]
          simpa [hp] using r2
        have HR := hide r1
        clear hi0 hz0 hz1 hz2 hmx hll hrl hil hlm r1 r2 r3 r4 g1 KI x1 hlk i1 hcb hp
        go_wp2_with (first | (at_builtin; refine wpList_append_run rfl _ _ 73 rfl (.slice ra rn rc) (.slice (some ⟨w1.heap.size, 0, none⟩) 1 1) rfl rfl HR.out ?_) | fail)
        obtain ⟨f1, f2, f3⟩ := HF.out
        exact ⟨⟨i + 1, a5, rn + 1, c5, by rw [HW.out]; exact srl i, HIL.out, rfl, f1, f2, f3⟩, by rw [HW.out]; exact sms HIL.out⟩
    · have i1 : ¬ (i : Int) < dn := by omega
      have hcb := (HB2.out.G hg).cell
      have HF : Hid (Sw eI 2 wr (.slice ra rn rc) ((L.filter p).map (·.id)) ∧ Fresh W (.slice ra rn rc) ∧ G W wr) := ⟨by rw [List.take_of_length_le (by omega)] at hso; exact hso, hfo.old HG2.out, HG2.out.trans hg⟩
      clear hik hil hso hfo hg hdn hll
      go_wp2_with fail
      go_ret
      exact ⟨_, _, _, rfl, HF.out⟩
end Go.Proofs.YtifioikdhfhljaaGreatDoor
