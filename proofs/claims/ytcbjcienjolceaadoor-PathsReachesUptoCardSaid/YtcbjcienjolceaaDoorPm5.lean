/- PathsReaches: the walk. -/
import Derived.Test.YtcbjcienjolceaaDoorPm2
import Derived.Test.YtcbjcienjolceaaDoorPm3
import Derived.Test.YtcbjcienjolceaaDoorPm4
namespace Go.Proofs.YtcbjcienjolceaaDoor
open Go.RowKit

/-- What Reach tells: the ids, the code; and what it asks. -/
def rchO (rs : List Nr) (tail : Bool) (from_ most : Int) : List Int × Int × List Int :=
  if most < 0 then ([], 1, []) else
    (if (srch true rs tail none most 4097 [] [(from_, 0)] []).code = 0 then (srch true rs tail none most 4097 [] [(from_, 0)] []).st.map (·.1) else [], (srch true rs tail none most 4097 [] [(from_, 0)] []).code, (srch true rs tail none most 4097 [] [(from_, 0)] []).asked)
theorem rchO_len (rs : List Nr) (tail : Bool) (from_ most : Int) : (rchO rs tail from_ most).1.length ≤ 4097 ∧ (rchO rs tail from_ most).2.2.length ≤ 4097 := by
  have h1 := srch_stlen true rs tail none most 4097 [] [(from_, 0)] []
  have h2 := srch_len true rs tail none most 4097 [] [(from_, 0)] []
  unfold rchO
  simp only [List.length_nil, Nat.zero_add] at h1 h2
  split
  · simp
  · refine ⟨?_, h2⟩
    simp only
    split
    · rw [List.length_map]; exact h1
    · simp
theorem rchO_r64 (rs : List Nr) (tail : Bool) (from_ most : Int) (hA : ∀ id, R64 id → ∀ a ∈ (netOf rs tail id).1, R64 a.2.1) (hf : R64 from_) : ∀ id ∈ (rchO rs tail from_ most).2.2, R64 id := by
  have h := srch_r64 true rs tail none most hA 4097 [] [(from_, 0)] [] (fun p hp => by simp at hp; subst hp; exact hf) (fun i hi => by simp at hi)
  unfold rchO
  split
  · intro id hi; simp at hi
  · exact h
theorem rchO_zero (rs : List Nr) (tail : Bool) (from_ : Int) : rchO rs tail from_ 0 = ([from_], 0, []) := by
  unfold rchO
  rw [if_neg (by decide)]
  have h1 : srch true rs tail none 0 4097 [] [(from_, 0)] [] = srch true rs tail none 0 4096 [(from_, 0)] [] [] := by
    have h := srch_on (hops := true) (rs := rs) (tail := tail) (aim := none) (most := 0) (f := 4096) (st := []) (near := [(from_, 0)]) (asked := []) (by simp) (by decide) (fun q => nomatch q) (by show ¬ ((0 : Int) < 0 ∨ (0 : Int) < 0); omega)
    exact h
  rw [h1, srch_none]
  rfl
/-- Of every most. -/
theorem reach_all (Wb W : World) (sh : Nat) (rv : Value) (rs : List Nr) (tail : Bool) (av gv : Value) (from_ most : Int) (sn : Shn Wb W sh rv rs tail av gv [] []) (hf : R64 from_) (hrl : rs.length ≤ 1048576) (hal : ∀ id, (netOf rs tail id).1.length ≤ 1048576) (out : List Int) (code : Int) (asked : List Int) (ho : rchO rs tail from_ most = (out, code, asked)) :
    Calls Tryd.prog 11 #[(.func (.func 12) #[ptr sh] #[]), I from_, I most] W fun e W' => ∃ (av' gv' : Value) (gl' : List Value) (nv : Value), e = .returned (.tuple #[nv, I code]) ∧ Rw W.heap.size 2 1 W' nv out.length (out.map I) ∧ Shn Wb W' sh rv rs tail av' gv' asked gl' ∧ (∃ mp, Mv Wb (sTs ++ shTs) mp W W') ∧ (∀ b, nv.ownBlock = some b → av'.ownBlock ≠ some b) ∧ AskO W W' av av' := by
  unfold rchO at ho
  by_cases hm : most < 0
  · rw [if_pos hm] at ho
    cases ho
    refine (reach_neg W sh from_ most hm).mono ?_
    rintro e W' ⟨rfl, rfl⟩
    exact ⟨av, gv, [], .slice none 0 0, rfl, Rw.nil _ _ _ _, sn, ⟨fun _ => False, Mv.refl _ _ _ _⟩, fun b hb => by simp [Value.ownBlock] at hb, AskO.refl _ _⟩
  · rw [if_neg hm] at ho
    cases ho
    refine (reach_any Wb W sh rv rs tail av gv from_ most sn hf (by omega) hrl hal _ rfl).mono ?_
    rintro e W' ⟨av', gv', gl', nv, rfl, h1, h2, h3, h4, h5, h6⟩
    refine ⟨av', gv', gl', nv, rfl, ?_, h3, h4, h5, h6⟩
    split
    · rename_i q; have := h1 q; rw [List.length_map]; exact this
    · rename_i q; rw [h2 q]; exact Rw.nil _ _ _ _
theorem rreach_all (W : World) (rv : Value) (rs : List Nr) (tail : Bool) (from_ most : Int) (hN : Nrs W rv rs) (hrl : rs.length ≤ 1048576) (hal : ∀ id, (netOf rs tail id).1.length ≤ 1048576) (hf : R64 from_) (out : List Int) (code : Int) (asked : List Int) (ho : rchO rs tail from_ most = (out, code, asked)) :
    Calls Tryd.prog 19 #[.agg #[rv, .bool tail], I from_, I most] W fun e W' => ∃ ov av, e = .returned (.tuple #[ov, I code, av]) ∧ Rw W.heap.size 2 1 W' ov out.length (out.map I) ∧ Rw W.heap.size 2 1 W' av asked.length (asked.map I) ∧ G W W' := by
  unfold rchO at ho
  by_cases hm : most < 0
  · rw [if_pos hm] at ho
    cases ho
    refine (rreach_neg W rv tail from_ most hm).mono ?_
    rintro e W' ⟨rfl, hg⟩
    exact ⟨_, _, rfl, Rw.nil _ _ _ _, Rw.nil _ _ _ _, hg⟩
  · rw [if_neg hm] at ho
    cases ho
    refine (rreach_any W rv rs tail from_ most hN hrl hal hf (by omega) _ rfl).mono ?_
    rintro e W' ⟨ov, av, rfl, h1, h2, h3, h4⟩
    refine ⟨ov, av, rfl, ?_, h3, h4⟩
    split
    · rename_i q; have := h1 q; rw [List.length_map]; exact this
    · rename_i q; rw [h2 q]; exact Rw.nil _ _ _ _
/-- A row of ids stays where only the asked list turns, which is another one. -/
theorem Rw.askO {lo n : Nat} {W W' : World} {v av av' : Value} {xs : List Value} (h : Rw lo 2 1 W v n xs) (k : AskO W W' av av') (hne : ∀ b, v.ownBlock = some b → av.ownBlock ≠ some b) : Rw lo 2 1 W' v n xs := h.keep fun b hb => by
  obtain ⟨_, _, ys, hy⟩ := h.own hb
  exact k.1 b ys hy (hne b hb)
set_option maxRecDepth 100000 in
set_option maxHeartbeats 2000000 in
theorem reaches_law (W : World) (rv : Value) (rs : List Nr) (tail : Bool) (from_ most : Int) (hN : Nrs W rv rs) (hM : Mk W) (hrl : rs.length ≤ 1048576) (hal : ∀ id, (netOf rs tail id).1.length ≤ 1048576) (hA : ∀ id, R64 id → ∀ a ∈ (netOf rs tail id).1, R64 a.2.1) (hf : R64 from_) :
    Calls Tryd.prog 6 #[.agg #[rv, .bool tail], I from_, I most] W fun e W' => e = .returned (.bool true) ∧ G W W' := by
  obtain ⟨rva, rvc, hrv⟩ : ∃ a c, rv = .slice a rs.length c := by obtain ⟨a, c, e, _⟩ := hN; exact ⟨a, c, e⟩
  subst hrv
  have hlen := rchO_len rs tail from_ most
  have hr64 := rchO_r64 rs tail from_ most hA hf
  obtain ⟨out, code, asked, ho⟩ : ∃ out code asked, rchO rs tail from_ most = (out, code, asked) := ⟨_, _, _, rfl⟩
  rw [ho] at hlen hr64
  simp only at hlen hr64
  have HLN := hide hlen
  have HR64 := hide hr64
  have HO := hide ho
  have HAL := hide hal
  have gA : G W (W.alloc (.cells #[.slice rva rs.length rvc, .bool tail] 25)) := (G.refl W).alloc _
  have gB : G W ((W.alloc (.cells #[.slice rva rs.length rvc, .bool tail] 25)).alloc (.cells #[.slice rva rs.length rvc, .bool tail, .slice none 0 0, .slice none 0 0] 31)) := gA.alloc _
  have hb3 := (Blk.new W [.slice rva rs.length rvc, .bool tail] 25).G ((G.refl _).alloc (.cells #[.slice rva rs.length rvc, .bool tail, .slice none 0 0, .slice none 0 0] 31))
  have hbs := Blk.new (W.alloc (.cells #[.slice rva rs.length rvc, .bool tail] 25)) [.slice rva rs.length rvc, .bool tail, .slice none 0 0, .slice none 0 0] 31
  rw [World.size_alloc] at hbs
  have HSH : Hid (∀ V b, G W V → Blk V b 31 [.slice rva rs.length rvc, .bool tail, .slice none 0 0, .slice none 0 0] → W.heap.size ≤ b → Shn W V b (.slice rva rs.length rvc) rs tail (.slice none 0 0) (.slice none 0 0) [] []) := fun V b gV hb hlo =>
    ⟨gV, hb, Rw.nil _ _ _ _, Rw.nil _ _ _ _, rfl, fun i id v h => by simp at h, hN, hlo, hM⟩
  have HRE := hide (reach_all W _ (W.heap.size + 1) _ rs tail _ _ from_ most (HSH.out _ _ gB hbs (Nat.le_succ _)) hf hrl hal out code asked ho)
  have HB3 := hide hb3
  have HN := hide hN
  have HF := hide hf
  clear gA gB hb3 hbs hN hM hA hlen hr64 ho hal hf
  go_enter Tryd.func6, Tryd.ntmps6
  go_wp2_with fail
  refine HRE.out.mono ?_
  rintro e w2 ⟨av2, gv2, gl2, nv2, rfl, hr2, hsn, ⟨mp, hmv⟩, hnd, hao⟩
  have hg2 := hsn.g
  have hb32 := HB3.out.mv hmv (by decide)
  have c3 : ∀ o, w2.cell? ⟨W.heap.size, o, none⟩ = ([.slice rva rs.length rvc, .bool tail] : List Value)[o]? := hb32.cell
  have HB32 := hide hb32
  have HR2 : Hid (Rw W.heap.size 2 1 w2 nv2 out.length (out.map I)) := Rw.base hr2 (by simp only [World.size_alloc]; omega)
  have HRH := hide (rreach_all w2 (.slice rva rs.length rvc) rs tail from_ most (HN.out.G hg2) hrl HAL.out HF.out out code asked HO.out)
  have HS2 := hide hsn
  obtain ⟨na2, nc2, rfl⟩ := Rw.form hr2
  clear hr2 hsn hg2 HRE hmv hnd hao hb32 HB3
  go_wp2_with fail
  refine HRH.out.mono ?_
  rintro e w3 ⟨ov, qv, rfl, hro, hrq, hg3⟩
  obtain ⟨oa, oc, rfl⟩ := Rw.form hro
  obtain ⟨qa, qc, rfl⟩ := Rw.form hrq
  have HR3 := hide (Rw.G HR2.out hg3)
  have HO3 : Hid (Rw W.heap.size 2 1 w3 (.slice oa out.length oc) out.length (out.map I)) := Rw.base hro HS2.out.g.size
  have HQ3 := hide hrq
  have HS3 := hide (HS2.out.G hg3)
  have HB33 := hide (HB32.out.G hg3)
  have HID := hide (ids_eq W.heap.size W.heap.size w3 _ _ out HR3.out HO3.out (by have := HLN.out; omega))
  clear hro hrq hg3 HRH c3 HB32 HR2 HS2
  go_wp2_with fail
  refine HID.out.mono ?_
  rintro e w4 ⟨rfl, hg4⟩
  have HWH := hide (whole_any W w4 _ _ rs tail av2 gv2 asked gl2 (HS3.out.G hg4) w2.heap.size _ (Rw.G HQ3.out hg4) HR64.out hrl HAL.out (by have := HLN.out; omega))
  have HR4 := hide (Rw.G HR3.out hg4)
  have HO4 := hide (Rw.G HO3.out hg4)
  have HB34 := hide (HB33.out.G hg4)
  have HG4 := hide (HS3.out.g.trans hg4)
  clear hg4 HID HR3 HO3 HS3 HB33
  go_wp2_with fail
  refine HWH.out.mono ?_
  rintro e w5 ⟨rfl, hg5⟩
  have c3 : ∀ o, w5.cell? ⟨W.heap.size, o, none⟩ = ([.slice rva rs.length rvc, .bool tail] : List Value)[o]? := (HB34.out.G hg5).cell
  have gC : G w5 (w5.alloc (.cells #[.slice rva rs.length rvc, .bool tail, .slice none 0 0, .slice none 0 0] 31)) := (G.refl w5).alloc _
  have hg6 := (HG4.out.trans hg5).trans gC
  have hsz5 := (HG4.out.trans hg5).size
  have HS6 := hide (HSH.out _ _ hg6 (Blk.new w5 [.slice rva rs.length rvc, .bool tail, .slice none 0 0, .slice none 0 0] 31) hsz5)
  have HR6 := hide (Rw.G (Rw.G HR4.out hg5) gC)
  have HO6 := hide (Rw.G (Rw.G HO4.out hg5) gC)
  have HRE := hide (reach_all W _ w5.heap.size _ rs tail _ _ from_ 0 HS6.out HF.out hrl HAL.out _ _ _ (rchO_zero rs tail from_))
  clear hg5 gC hg6 hsz5 HWH HR4 HO4 HG4
  go_wp2_with fail
  refine HRE.out.mono ?_
  rintro e w7 ⟨av7, gv7, gl7, nv7, rfl, hr7, hsn7, ⟨mp7, hmv7⟩, hnd7, hao7⟩
  obtain rfl : gl7 = [] := List.eq_nil_of_length_eq_zero hsn7.len
  have noown : ∀ b, (Value.slice none 0 0).ownBlock ≠ some b := fun b e => by simp [Value.ownBlock] at e
  have HR7 := hide (Rw.askO HR6.out hao7 (fun b _ => noown b))
  have HO7 := hide (Rw.askO HO6.out hao7 (fun b _ => noown b))
  have HX7 := hide hr7
  have HS7 := hide hsn7
  have HND7 := hide hnd7
  have HNW7 : Hid (∀ (u : Value) (n : Nat) (xs : List Value), Rw W.heap.size 2 1 (w5.alloc (.cells #[.slice rva rs.length rvc, .bool tail, .slice none 0 0, .slice none 0 0] 31)) u n xs → ∀ b, u.ownBlock = some b → av7.ownBlock ≠ some b) := fun u n xs hu b hb e => by
    rcases hao7.2 b e with q | q
    · exact noown b q
    · have := (Rw.own hu hb).2.1
      omega
  have HNX7 : Hid (∀ (u : Value) (n : Nat) (xs : List Value), Rw W.heap.size 2 1 (w5.alloc (.cells #[.slice rva rs.length rvc, .bool tail, .slice none 0 0, .slice none 0 0] 31)) u n xs → ∀ b, u.ownBlock = some b → nv7.ownBlock ≠ some b) := fun u n xs hu b hb e => by
    have h1 := (Rw.own hr7 e).1
    have h2 := (Rw.own hu hb).2.1
    omega
  have HRE2 := hide (reach_all W w7 w5.heap.size _ rs tail _ _ from_ most hsn7 HF.out hrl HAL.out out code asked HO.out)
  have HLO7 : Hid (W.heap.size ≤ (w5.alloc (.cells #[.slice rva rs.length rvc, .bool tail, .slice none 0 0, .slice none 0 0] 31)).heap.size) := HS6.out.g.size
  obtain ⟨na7, nc7, rfl⟩ := Rw.form hr7
  clear hr7 hsn7 hmv7 hnd7 hao7 HRE HS6 c3
  go_wp2_with fail
  refine HRE2.out.mono ?_
  rintro e w8 ⟨av8, gv8, gl8, nv8, rfl, hr8, hsn8, ⟨mp8, hmv8⟩, hnd8, hao8⟩
  have HR8 := hide (Rw.askO HR7.out hao8 (HNW7.out _ _ _ HR6.out))
  have HO8 := hide (Rw.askO HO7.out hao8 (HNW7.out _ _ _ HO6.out))
  have HX8 := hide (Rw.base (Rw.askO HX7.out hao8 HND7.out) HLO7.out)
  have HY8 : Hid (Rw W.heap.size 2 1 w8 nv8 out.length (out.map I)) := Rw.base hr8 HS7.out.g.size
  have HNXW := hide (HNX7.out _ _ _ HR6.out)
  have HNYW : Hid (∀ (u : Value) lo n xs, Rw lo 2 1 w7 u n xs → ∀ b, u.ownBlock = some b → nv8.ownBlock ≠ some b) := fun u lo n xs hu b hb e => by
    have h1 := (Rw.own hr8 e).1
    have h2 := (Rw.own hu hb).2.1
    omega
  have HNWY := hide (HNYW.out _ _ _ _ HR7.out)
  have HNXY := hide (HNYW.out _ _ _ _ HX7.out)
  have HG8 := hide hsn8.g
  have HID := hide (ids_eq W.heap.size W.heap.size w8 _ _ out HY8.out HO8.out (by have := HLN.out; omega))
  obtain ⟨na8, nc8, rfl⟩ := Rw.form hr8
  clear hr8 hsn8 hmv8 hnd8 hao8 HRE2 HS7 HNW7 HNX7 HNYW HR7 HO7 HX7 HR6 HO6 HND7 HLO7
  go_wp2_with fail
  refine HID.out.mono ?_
  rintro e w9 ⟨rfl, hg9⟩
  have HID2 := hide (ids_eq W.heap.size W.heap.size w9 _ _ out (Rw.G HR8.out hg9) (Rw.G HO8.out hg9) (by have := HLN.out; omega))
  have HG9 := hide hg9
  clear hg9 HID
  go_wp2_with fail
  refine HID2.out.mono ?_
  rintro e w10 ⟨rfl, hg10⟩
  have hg11 : G w8 w10 := HG9.out.trans hg10
  have gD : G w10 (w10.alloc (.cells #[.slice na2 out.length nc2, .slice na7 [from_].length nc7, .slice na8 out.length nc8] 26)) := (G.refl w10).alloc _
  have hgE : G w8 (w10.alloc (.cells #[.slice na2 out.length nc2, .slice na7 [from_].length nc7, .slice na8 out.length nc8] 26)) := hg11.trans gD
  have HAP := hide (apart_any W _ w10.heap.size [.slice na2 out.length nc2, .slice na7 [from_].length nc7, .slice na8 out.length nc8] [out.length, [from_].length, out.length] [out, [from_], out]
    ⟨⟨rfl, fun j v l hv hl => by
        match j, hv, hl with
        | 0, hv, hl => simp only [List.getElem?_cons_zero, Option.some.injEq] at hv hl; subst hv; subst hl; exact Rw.G HR8.out hgE
        | 1, hv, hl => simp only [List.getElem?_cons_zero, List.getElem?_cons_succ, Option.some.injEq] at hv hl; subst hv; subst hl; exact Rw.G HX8.out hgE
        | 2, hv, hl => simp only [List.getElem?_cons_zero, List.getElem?_cons_succ, Option.some.injEq] at hv hl; subst hv; subst hl; exact Rw.G HY8.out hgE
        | j + 3, hv, hl => simp at hv, fun i j v v' b hij hv hv' hb => by
        match i, j, hv, hv' with
        | 0, 0, _, _ => exact absurd rfl hij
        | 1, 1, _, _ => exact absurd rfl hij
        | 2, 2, _, _ => exact absurd rfl hij
        | 0, 1, hv, hv' => simp only [List.getElem?_cons_zero, List.getElem?_cons_succ, Option.some.injEq] at hv hv'; subst hv; subst hv'; exact HNXW.out b hb
        | 0, 2, hv, hv' => simp only [List.getElem?_cons_zero, List.getElem?_cons_succ, Option.some.injEq] at hv hv'; subst hv; subst hv'; exact HNWY.out b hb
        | 1, 2, hv, hv' => simp only [List.getElem?_cons_zero, List.getElem?_cons_succ, Option.some.injEq] at hv hv'; subst hv; subst hv'; exact HNXY.out b hb
        | 1, 0, hv, hv' => simp only [List.getElem?_cons_zero, List.getElem?_cons_succ, Option.some.injEq] at hv hv'; subst hv; subst hv'; exact fun e => HNXW.out b e hb
        | 2, 0, hv, hv' => simp only [List.getElem?_cons_zero, List.getElem?_cons_succ, Option.some.injEq] at hv hv'; subst hv; subst hv'; exact fun e => HNWY.out b e hb
        | 2, 1, hv, hv' => simp only [List.getElem?_cons_zero, List.getElem?_cons_succ, Option.some.injEq] at hv hv'; subst hv; subst hv'; exact fun e => HNXY.out b e hb
        | i + 3, _, hv, _ => simp at hv
        | _, j + 3, _, hv' => simp at hv'⟩, rfl, Blk.new w10 _ _, HG8.out.trans hgE⟩ (by simp) (fun n hn => by have := HLN.out; simp at hn; rcases hn with rfl | rfl | rfl <;> omega) 3 rfl)
  clear hg10 hg11 gD hgE HID2
  go_wp2_with fail
  refine HAP.out.mono ?_
  rintro e w12 ⟨rfl, hg12⟩
  go_wp2_with fail
  go_ret
  exact ⟨rfl, hg12⟩
end Go.Proofs.YtcbjcienjolceaaDoor
