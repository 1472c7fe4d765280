/- PathsLeast: the walk. -/
import Derived.Test.YtcbjcienjolceaaDoorPw6
import Derived.Test.YtcbjcienjolceaaDoorPw7
namespace Go.Proofs.YtcbjcienjolceaaDoor
open Go.RowKit

/-- What is known of a sum that was told. -/
def Sm (rs : List Nr) (from_ t s : Int) : Prop := (s = -1 ∧ ∀ z, ¬ Dst false rs false from_ t z) ∨ (0 ≤ s ∧ s ≤ 36028797018963968 ∧ IsD false rs false from_ t s)
/-- Between two rounds of the first loop. -/
structure Inv1 (Wb w : World) (sh : Nat) (mv : Value) (rs : List Nr) (ev sv : Value) (E sums : List Int) (i : Nat) (from_ : Int) : Prop where
  nb : Nb Wb w sh mv rs ev sv E sums i
  len : sums.length = i
  dis : ∀ b, ev.ownBlock = some b → sv.ownBlock ≠ some b
  sm : ∀ (j : Nat) t s, E[j]? = some t → sums[j]? = some s → Sm rs from_ t s
theorem Inv1.next {Wb w w' : World} {sh : Nat} {mv : Value} {rs : List Nr} {ev sv v' : Value} {E sums : List Int} {i : Nat} {from_ t s : Int} (k : Inv1 Wb w sh mv rs ev sv E sums i from_) (ht : E[i]? = some t) (h1 : Nb Wb w' sh mv rs ev v' E (sums ++ [s]) (i + 1)) (h2 : ∀ b, ev.ownBlock = some b → v'.ownBlock ≠ some b) (h3 : Sm rs from_ t s) : Inv1 Wb w' sh mv rs ev v' E (sums ++ [s]) (i + 1) from_ := by
  refine ⟨h1, by simp [k.len], h2, fun j t' s' hj hs => ?_⟩
  by_cases hji : j < sums.length
  · rw [List.getElem?_append_left hji] at hs
    exact k.sm j t' s' hj hs
  · have : j = i := by
      have := (List.getElem?_eq_some_iff.1 hs).1
      have := k.len
      simp at *
      omega
    subst this
    rw [ht] at hj
    cases hj
    rw [List.getElem?_append_right (by omega), show j - sums.length = 0 by have := k.len; omega] at hs
    simp at hs
    subst hs
    exact h3
theorem Nrs.idr {w : World} {v : Value} {l : List Nr} (h : Nrs w v l) {r : Nr} (hr : r ∈ l) : R64 r.id := by
  obtain ⟨x, cap, rfl, rfl | ⟨b, off, rfl, h2⟩⟩ := h
  · simp at hr
  · obtain ⟨i, hi, rfl⟩ := List.getElem_of_mem hr
    exact (h2 i _ (List.getElem?_eq_getElem hi)).2.2.2
theorem ends_r64 {w : World} {v : Value} {rs : List Nr} (h : Nrs w v rs) {from_ : Int} (hf : R64 from_) : ∀ t ∈ endsL rs from_, R64 t := fun t ht => by
  unfold endsL at ht
  rcases List.mem_cons.1 ht with rfl | ht
  · exact hf
  · obtain ⟨r, hr, ht⟩ := List.mem_flatMap.1 ht
    unfold idsN at ht
    rcases List.mem_cons.1 ht with rfl | ht
    · exact h.idr hr
    · obtain ⟨a, ha, rfl⟩ := List.mem_map.1 ht
      exact h.ok hr ha
theorem wadd (s w : Int) (h1 : 0 ≤ s ∧ s ≤ 36028797018963968) (h2 : 0 ≤ w ∧ w ≤ 1048576) : wrap64 (s + w) = s + w := by unfold wrap64; omega
theorem wone (i : Nat) (h : i ≤ 4294967296) : wrap64 ((i : Int) + 1) = (i : Int) + 1 := by unfold wrap64; omega
set_option maxRecDepth 100000 in
set_option maxHeartbeats 2000000 in
theorem least_law (W : World) (rv : Value) (rs0 : List Nr) (from_ : Int) (hN : Nrs W rv rs0) (hM : Mk W) (hrl : rs0.length ≤ 1048576) (hal : ∀ r ∈ rs0, r.arcs.length ≤ 1048576) (hbig : (endsL (rs0.map mildN) from_).length ≤ 4294967296) (hf : R64 from_) :
    Calls Tryd.prog 4 #[rv, I from_] W fun e W' => e = .returned (.bool true) ∧ G W W' := by
  obtain ⟨rva, rvc, hrv⟩ : ∃ a c, rv = .slice a rs0.length c := by obtain ⟨a, c, e, _⟩ := hN; exact ⟨a, c, e⟩
  have HMI := hide (mild_any W rv rs0 hN hrl hal)
  subst hrv
  have HM := hide hM
  have HBIG := hide hbig
  have HF := hide hf
  have hal2 : ∀ r ∈ rs0.map mildN, r.arcs.length ≤ 1048576 := fun r hr => by
    obtain ⟨q, hq, rfl⟩ := List.mem_map.1 hr
    have := hal q hq
    simpa [mildN] using this
  have hrl2 : (rs0.map mildN).length ≤ 1048576 := by rw [List.length_map]; exact hrl
  have HMN := hide (fun hl => mild_net false rs0 from_ hl)
  clear hM hbig hf hN hal hrl
  generalize hrs : rs0.map mildN = rs at *
  have HAL2 := hide hal2
  have hal3 : ∀ id, (netOf rs false id).1.length ≤ 1048576 := fun id => by
    unfold netOf
    split
    · rename_i r hr
      split
      · exact hal2 r (List.mem_of_find?_eq_some hr)
      · simp
    · simp
  have HAL3 := hide hal3
  have HRL2 := hide hrl2
  clear hal2 hal3 hrs
  go_enter Tryd.func4, Tryd.ntmps4
  go_wp2_with fail
  refine HMI.out.mono ?_
  rintro e w1 ⟨mv, L, rfl, hro, hmp, hg1⟩
  have hll : L.length = rs.length := by rw [← hmp, List.length_map]
  obtain ⟨ma, mc, hmv⟩ := Rw.form hro.row
  rw [hll] at hmv
  subst hmv
  have hnr := hro.nrs
  rw [hmp] at hnr
  obtain ⟨wn, hwn⟩ : ∃ wn, wn = w1.alloc (.cells #[.slice ma rs.length mc, .bool false] 25) := ⟨_, rfl⟩
  obtain ⟨nb, hnb⟩ : ∃ nb, nb = w1.heap.size := ⟨_, rfl⟩
  have hgn : G w1 wn := by rw [hwn]; exact (G.refl w1).alloc _
  have HNR := hide (hnr.G hgn)
  have HG1 := hide (hg1.trans hgn)
  have HBN : Hid (Blk wn nb 25 [.slice ma rs.length mc, .bool false]) := by rw [hwn, hnb]; exact Blk.new w1 [.slice ma rs.length mc, .bool false] 25
  have HEN := hide (ends_any wn _ rs from_ HNR.out hrl2 HAL2.out HBIG.out)
  have c2 := HBN.out.cell
  clear hro hmp hg1 hnr HMI hll hgn hrl2
  obtain ⟨E, hE⟩ : ∃ E, E = endsL rs from_ := ⟨_, rfl⟩
  rw [← hE] at HEN HMN HBIG
  have HE := hide hE
  clear hE
  go_wp2_with fail
  rw [← hwn, ← hnb]
  go_wp2_with fail
  clear hwn hnb
  refine HEN.out.mono ?_
  rintro e w2 ⟨ev, rfl, hre, hg2⟩
  obtain ⟨ea, ec, rfl⟩ := Rw.form hre
  have HRE := hide hre
  have HG2 := hide hg2
  have c3 : ∀ o, w2.cell? ⟨nb, o, none⟩ = ([.slice ma rs.length mc, .bool false] : List Value)[o]? := (HBN.out.G hg2).cell
  clear hre hg2 HEN c2
  by_cases he1 : 1000 < E.length
  · have he2 : (1000 : Int) < E.length := by omega
    have he3 : decide ((1000 : Int) < E.length) = true := decide_eq_true he2
    clear he1
    go_wp2_with fail
    go_ret
    exact ⟨rfl, HG1.out.trans HG2.out⟩
  · have he2 : ¬ ((1000 : Int) < E.length) := by omega
    have he3 : decide ((1000 : Int) < E.length) = false := decide_eq_false he2
    have HMM : Hid (Mild false rs false (endsL rs from_)) := by have := HMN.out (by omega); rw [HE.out] at this; exact this
    obtain ⟨sh, hsh⟩ : ∃ sh, sh = w2.heap.size := ⟨_, rfl⟩
    obtain ⟨w3, hw3⟩ : ∃ w3, w3 = w2.alloc (.cells #[.slice ma rs.length mc, .bool false, .slice none 0 0, .slice none 0 0] 31) := ⟨_, rfl⟩
    have gC : G w2 w3 := by rw [hw3]; exact (G.refl w2).alloc _
    have hsn : Shn wn w3 sh (.slice ma rs.length mc) rs false (.slice none 0 0) (.slice none 0 0) [] [] :=
      ⟨HG2.out.trans gC, by rw [hw3, hsh]; exact Blk.new w2 [.slice ma rs.length mc, .bool false, .slice none 0 0, .slice none 0 0] 31, Rw.nil _ _ _ _, Rw.nil _ _ _ _, rfl, fun i id v h => by simp at h, HNR.out, by rw [hsh]; exact HG2.out.size, HM.out.G HG1.out⟩
    have hE0 : E[0]? = some from_ := by rw [HE.out]; rfl
    have hE1 : 0 < E.length := (List.getElem?_eq_some_iff.1 hE0).1
    have hre3 := Rw.G HRE.out gC
    obtain ⟨ge, cape, hee, -, -, -⟩ := hre3.cell hE1
    obtain ⟨rfl, rfl⟩ : ea = some ⟨ge, 0, none⟩ ∧ ec = cape := by simp at hee; exact hee
    have noown : ∀ b, (Value.slice none 0 0).ownBlock ≠ some b := fun b e => by simp [Value.ownBlock] at e
    have HI0 : Hid (Inv1 wn w3 sh (.slice ma rs.length mc) rs (.slice (some ⟨ge, 0, none⟩) E.length ec) (.slice none 0 0) E [] 0 from_) :=
      ⟨⟨⟨_, _, [], [], hsn, by simp, fun b _ => noown b, fun b _ => noown b⟩, hre3, Rw.nil _ _ _ _⟩, rfl, fun b _ => noown b, fun j t s _ hs => by simp at hs⟩
    have HCE : Hid (∀ V sv sums n, Nb wn V sh (.slice ma rs.length mc) rs (.slice (some ⟨ge, 0, none⟩) E.length ec) sv E sums n → ∀ (i : Nat) x, E[i]? = some x → V.cell? ⟨ge, i, none⟩ = some (I x)) := fun V sv sums n nb i x hx => by
      obtain ⟨g2, cap2, he, -, hc, -⟩ := nb.e.cell (by have := (List.getElem?_eq_some_iff.1 hx).1; omega)
      have : ge = g2 := by simp at he; exact he.1
      subst this
      rw [hc i (by have := (List.getElem?_eq_some_iff.1 hx).1; omega), List.getElem?_map, hx]
      rfl
    have HE1 : Hid (E.length ≤ 1000) := by show _ ≤ _; omega
    have HEP := hide hE1
    clear he1 gC hsn hE0 hE1 hre3 hee noown HRE HBIG HMN
    go_wp2_with fail
    rw [← hw3, ← hsh]
    clear hw3 hsh c3
    go_loopw [8, 9] (fun sv iv wr => ∃ (i : Nat) (sums : List Int) (sv' : Value), iv = I i ∧ sv = sv' ∧ i ≤ E.length ∧ Inv1 wn wr sh (.slice ma rs.length mc) rs (.slice (some ⟨ge, 0, none⟩) E.length ec) sv' E sums i from_) (fun _ iv _ => E.length - (RowKit.intOf iv).toNat)
    case atStart => exact ⟨0, [], _, rfl, rfl, Nat.zero_le _, HI0.out⟩
    case round =>
      obtain ⟨i, sums, sv', rfl, rfl, hi, hinv⟩ := hrel
      obtain ⟨sa, sc, rfl⟩ := Rw.form hinv.nb.l
      by_cases hil : i < E.length
      · have hiI : (i : Int) < E.length := by omega
        obtain ⟨t, ht⟩ : ∃ t, E[i]? = some t := ⟨_, List.getElem?_eq_getElem hil⟩
        have ci := HCE.out wr _ _ _ hinv.nb i t ht
        have HLE := hide (least_nb wn wr sh _ rs _ _ E sums i from_ t hinv.nb (by have := HE1.out; omega) HF.out HRL2.out HAL3.out HMM.out)
        have hw : wrap64 ((i : Int) + 1) = (i : Int) + 1 := wone i (by have := HE1.out; omega)
        have HINV : Hid (∀ v' w' s, Nb wn w' sh (.slice ma rs.length mc) rs (.slice (some ⟨ge, 0, none⟩) E.length ec) v' E (sums ++ [s]) (i + 1) → (∀ b, (.slice (some ⟨ge, 0, none⟩) E.length ec : Value).ownBlock = some b → v'.ownBlock ≠ some b) → Sm rs from_ t s → Inv1 wn w' sh (.slice ma rs.length mc) rs (.slice (some ⟨ge, 0, none⟩) E.length ec) v' E (sums ++ [s]) (i + 1) from_) := fun v' w' s h1 h2 h3 => hinv.next ht h1 h2 h3
        have HDIS := hide hinv.dis
        have HSL := hide hinv.len
        have HIL := hide hil
        have HT := hide ht
        clear hil ht hinv hi
        go_wp2_with fail
        refine HLE.out.mono ?_
        rintro e w4 ⟨hnb4, ⟨rfl, hno⟩ | ⟨Ew, x, nv, qv, rfl, hwy, hrn, hrq⟩⟩
        · have htf : t ≠ from_ := fun q => hno 0 (by rw [q]; exact .base)
          have htb : (t == from_) = false := beq_eq_false_iff_ne.2 htf
          have ci4 := HCE.out w4 _ _ _ hnb4 i t HT.out
          obtain ⟨w5, hw5⟩ : ∃ w5, w5 = w4.alloc (.cells #[I 0, .slice none 0 0, .slice none 0 0] 40) := ⟨_, rfl⟩
          obtain ⟨wb, hwb⟩ : ∃ wb, wb = w4.heap.size := ⟨_, rfl⟩
          have HG5 : Hid (G w4 w5) := by rw [hw5]; exact (G.refl w4).alloc _
          have HWB : Hid (w4.heap.size ≤ wb) := by rw [hwb]; exact Nat.le_refl _
          have HB5 : Hid (Blk w5 wb 40 [I 0, .slice none 0 0, .slice none 0 0]) := by rw [hw5, hwb]; exact Blk.new w4 [I 0, .slice none 0 0, .slice none 0 0] 40
          have HN4 := hide hnb4
          have HNO := hide hno
          have ci5 := HCE.out w5 _ _ _ (hnb4.G HG5.out) i t HT.out
          have c5 := HB5.out.cell
          have cr5 := ci5
          have cr6 := c5
          rw [hw5] at cr5 cr6
          rw [hwb] at cr6
          clear hnb4 hno HLE htf ci ci4
          go_wp2_with fail
          rw [← hw5, ← hwb]
          clear hw5 hwb cr5 cr6
          go_quiet (fail)
          generalize hw6 : World.drewN w5 _ = w6
          have HG6 : Hid (G w5 w6) := by rw [← hw6]; exact g_drewN _ _
          clear hw6 c5 ci5
          have hb6 := HB5.out.G HG6.out
          have c6 := hb6.cell
          have z6 := hb6.frozen
          have c7 := (hb6.set 0 (I (-1))).cell
          simp only [List.set_cons_zero] at c7
          have hg7 : G w4 (w6.setCell ⟨wb, 0, none⟩ (I (-1))) := (HG5.out.trans HG6.out).setCell HWB.out _
          obtain ⟨v', w', hrun, hnb', hdis'⟩ := app_nb wn (w6.setCell ⟨wb, 0, none⟩ (I (-1))) sh _ rs _ (.slice sa sums.length sc) E sums (i + 1) (HN4.out.G hg7) HDIS.out (-1) (by have := HSL.out; have := HE1.out; have := HIL.out; omega) w6.heap.size (World.size_setCell ..).symm
          have HRUN := hide hrun
          have HROW : Hid (Inv1 wn w' sh (.slice ma rs.length mc) rs (.slice (some ⟨ge, 0, none⟩) E.length ec) v' E (sums ++ [-1]) (i + 1) from_) := HINV.out v' w' (-1) hnb' hdis' (.inl ⟨rfl, HNO.out⟩)
          clear hrun hnb' hdis' hg7 hb6
          go_wp2_with (first | (at_builtin; refine wpList_append_run rfl _ _ 26 rfl (.slice sa sums.length sc) (.slice (some ⟨w6.heap.size, 0, none⟩) 1 1) rfl rfl HRUN.out ?_) | fail)
          clear HRUN
          go_roundw
          case rel => (try rw [hw]); exact ⟨i + 1, sums ++ [-1], v', by simp, rfl, HIL.out, HROW.out⟩
          case measure => (try rw [hw]); simp only [RowKit.intOf]; exact ms2 HIL.out
        · have ci4 := HCE.out w4 _ _ _ hnb4 i t HT.out
          obtain ⟨ns, hns⟩ : ∃ ns, ns = Ew.map (·.n) := ⟨_, rfl⟩
          obtain ⟨es, hes⟩ : ∃ es, es = (Ew.drop 1).map (·.e) := ⟨_, rfl⟩
          rw [← hns] at hrn
          rw [← hes] at hrq
          obtain ⟨na, nc, rfl⟩ := Rw.form hrn
          obtain ⟨qa, qc, rfl⟩ := Rw.form hrq
          obtain ⟨w5, hw5⟩ : ∃ w5, w5 = w4.alloc (.cells #[I x.s, .slice na ns.length nc, .slice qa es.length qc] 40) := ⟨_, rfl⟩
          obtain ⟨wb, hwb⟩ : ∃ wb, wb = w4.heap.size := ⟨_, rfl⟩
          have HG5 : Hid (G w4 w5) := by rw [hw5]; exact (G.refl w4).alloc _
          have HB5 : Hid (Blk w5 wb 40 [I x.s, .slice na ns.length nc, .slice qa es.length qc]) := by rw [hw5, hwb]; exact Blk.new w4 [I x.s, .slice na ns.length nc, .slice qa es.length qc] 40
          have HN4 := hide hnb4
          have HWY := hide hwy
          have ci5 := HCE.out w5 _ _ _ (hnb4.G HG5.out) i t HT.out
          have c5 := HB5.out.cell
          have cr5 := ci5
          have cr6 := c5
          rw [hw5] at cr5 cr6
          rw [hwb] at cr6
          have hg5 : G wn w5 := hnb4.g.trans HG5.out
          have HIW := hide (isway_any wn w5.drew _ rs from_ t Ew x hwy.way hwy.aim hwy.len hwy.r64 (fun y hy => by have := hwy.sum y hy; omega) _ _ _ _ ns es hns hes ((Rw.G hrn HG5.out).G (G.drew (G.refl _))) ((Rw.G hrq HG5.out).G (G.drew (G.refl _))) HNR.out (hg5.trans (G.drew (G.refl _))) HRL2.out HAL3.out)
          have HALL : Hid (∀ V, G w5 V → (fun V => (∀ j, V.cell? ⟨nb, j, none⟩ = ([.slice ma rs.length mc, .bool false] : List Value)[j]?) ∧ (∀ j, V.cell? ⟨wb, j, none⟩ = ([I x.s, .slice na ns.length nc, .slice qa es.length qc] : List Value)[j]?) ∧ V.cell? ⟨ge, i, none⟩ = some (I t)) V) := fun V gV => ⟨(HBN.out.G (hg5.trans gV)).cell, (HB5.out.G gV).cell, HCE.out V _ _ _ ((hnb4.G HG5.out).G gV) i t HT.out⟩
          have hone : t = from_ → es.length = 0 ∧ x.s = 0 := fun q => by
            have := hwy.one q
            refine ⟨by rw [hes, List.length_map, List.length_drop, this.1], this.2⟩
          clear hnb4 hwy HLE ci hrn hrq hns hes hg5
          by_cases htf : t = from_
          · have htb : (t == from_) = true := by simpa using htf
            obtain ⟨o1, o2⟩ := hone htf
            have o3 : (((es.length : Nat) : Int) != 0) = false := by rw [o1]; rfl
            have o4 : (x.s != 0) = false := by rw [o2]; rfl
            clear o1 o2 hone htf
            go_wp2_with fail
            rw [← hw5, ← hwb]
            clear hw5 hwb ci4 cr5 cr6
            refine wp_region_noPanic ?_
            refine wp_region_held_drew (S := (fun V => (∀ j, V.cell? ⟨nb, j, none⟩ = ([.slice ma rs.length mc, .bool false] : List Value)[j]?) ∧ (∀ j, V.cell? ⟨wb, j, none⟩ = ([I x.s, .slice na ns.length nc, .slice qa es.length qc] : List Value)[j]?) ∧ V.cell? ⟨ge, i, none⟩ = some (I t))) (by kernel_rfl) (HALL.out _ (G.drew (G.refl _))) (fun hHeld => ?_)
            refine wpAnyH_take (i := 0) (v := ?_) rfl (by kernel_rfl) (by kernel_rfl) (by kernel_rfl) (fun _ _ _ h => h) (Or.inl ⟨by rfl, ?_⟩) hHeld ?_
            rotate_left 1
            · (intro w hSw; (try dsimp only at hSw); go_simp; try with_reducible rfl)
            try simp only [Act.put, List.getElem_toArray, List.getElem_cons_zero, List.setIfInBounds_toArray, List.set_cons_zero, List.set_cons_succ]
            refine wpAnyH_take (i := 1) (v := ?_) rfl (by kernel_rfl) (by kernel_rfl) (by kernel_rfl) (fun _ _ _ h => h) (Or.inl ⟨by rfl, ?_⟩) hHeld ?_
            rotate_left 1
            · (intro w hSw; (try dsimp only at hSw); go_simp; try with_reducible rfl)
            try simp only [Act.put, List.getElem_toArray, List.getElem_cons_zero, List.getElem_cons_succ, List.setIfInBounds_toArray, List.set_cons_zero, List.set_cons_succ]
            refine wpAnyH_take (i := 2) (v := ?_) rfl (by kernel_rfl) (by kernel_rfl) (by kernel_rfl) (fun _ _ _ h => h) (Or.inl ⟨by rfl, ?_⟩) hHeld ?_
            rotate_left 1
            · (intro w hSw; obtain ⟨q1, q2, q3⟩ := hSw; go_simp; try with_reducible rfl)
            try simp only [Act.put, List.getElem_toArray, List.getElem_cons_zero, List.getElem_cons_succ, List.setIfInBounds_toArray, List.set_cons_zero, List.set_cons_succ]
            refine wpAnyH_take (i := 3) (v := ?_) rfl (by kernel_rfl) (by kernel_rfl) (by kernel_rfl) (fun _ _ _ h => h) (Or.inl ⟨by rfl, ?_⟩) hHeld ?_
            rotate_left 1
            · (intro w hSw; obtain ⟨q1, q2, q3⟩ := hSw; go_simp; try with_reducible rfl)
            try simp only [Act.put, List.getElem_toArray, List.getElem_cons_zero, List.getElem_cons_succ, List.setIfInBounds_toArray, List.set_cons_zero, List.set_cons_succ]
            refine wpAnyH_take (i := 4) (v := ?_) rfl (by kernel_rfl) (by kernel_rfl) (by kernel_rfl) (fun _ _ _ h => h) (Or.inl ⟨by rfl, ?_⟩) hHeld ?_
            rotate_left 1
            · (intro w hSw; obtain ⟨q1, q2, q3⟩ := hSw; go_simp; try with_reducible rfl)
            try simp only [Act.put, List.getElem_toArray, List.getElem_cons_zero, List.getElem_cons_succ, List.setIfInBounds_toArray, List.set_cons_zero, List.set_cons_succ]
            refine wpAnyH_take (i := 5) (v := ?_) rfl (by kernel_rfl) (by kernel_rfl) (by kernel_rfl) (fun _ _ _ h => h) (Or.inl ⟨by rfl, ?_⟩) hHeld ?_
            rotate_left 1
            · (intro w hSw; obtain ⟨q1, q2, q3⟩ := hSw; go_simp; try with_reducible rfl)
            try simp only [Act.put, List.getElem_toArray, List.getElem_cons_zero, List.getElem_cons_succ, List.setIfInBounds_toArray, List.set_cons_zero, List.set_cons_succ]
            refine wpAnyH_take (i := 6) (v := ?_) rfl (by kernel_rfl) (by kernel_rfl) (by kernel_rfl) (fun _ _ _ h => h) (Or.inl ⟨by rfl, ?_⟩) hHeld ?_
            rotate_left 1
            · (intro w hSw; obtain ⟨q1, q2, q3⟩ := hSw; go_simp; try with_reducible rfl)
            try simp only [Act.put, List.getElem_toArray, List.getElem_cons_zero, List.getElem_cons_succ, List.setIfInBounds_toArray, List.set_cons_zero, List.set_cons_succ]
            refine wpAnyH_take (i := 7) (v := ?_) rfl (by kernel_rfl) (by kernel_rfl) (by kernel_rfl) (fun _ _ _ h => h) (Or.inl ⟨by rfl, ?_⟩) hHeld ?_
            rotate_left 1
            · (intro w hSw; obtain ⟨q1, q2, q3⟩ := hSw; go_simp; try with_reducible rfl)
            try simp only [Act.put, List.getElem_toArray, List.getElem_cons_zero, List.getElem_cons_succ, List.setIfInBounds_toArray, List.set_cons_zero, List.set_cons_succ]
            refine wpAnyH_take (i := 8) (v := ?_) rfl (by kernel_rfl) (by kernel_rfl) (by kernel_rfl) (fun _ _ _ h => h) (Or.inl ⟨by rfl, ?_⟩) hHeld ?_
            rotate_left 1
            · (intro w hSw; obtain ⟨q1, q2, q3⟩ := hSw; go_simp; try with_reducible rfl)
            try simp only [Act.put, List.getElem_toArray, List.getElem_cons_zero, List.getElem_cons_succ, List.setIfInBounds_toArray, List.set_cons_zero, List.set_cons_succ]
            refine wpAnyH_ready (rs := [9]) (by kernel_rfl) (by simp) (AllReadyH.cons rfl (fun K hK => ?_) AllReadyH.nil)
            clear hHeld
            go_simp
            refine HIW.out.mono ?_
            rintro e w6 ⟨rfl, hg6⟩
            have HG6 := hide (G.trans (G.drew (G.refl w5)) hg6)
            clear hg6
            go_wp2_with fail
            refine hK.out _ _ (HALL.out _ HG6.out) (fun hHeld => ?_)
            clear hK K
            try simp only [Act.put, List.getElem_toArray, List.getElem_cons_zero, List.getElem_cons_succ, List.setIfInBounds_toArray, List.set_cons_zero, List.set_cons_succ]
            refine wpAnyH_take (i := 10) (v := ?_) rfl (by kernel_rfl) (by kernel_rfl) (by kernel_rfl) (fun _ _ _ h => h) (Or.inl ⟨by rfl, ?_⟩) hHeld ?_
            rotate_left 1
            · (intro w hSw; (try dsimp only at hSw); go_simp; try with_reducible rfl)
            try simp only [Act.put, List.getElem_toArray, List.getElem_cons_zero, List.getElem_cons_succ, List.setIfInBounds_toArray, List.set_cons_zero, List.set_cons_succ]
            refine wpAnyH_take (i := 11) (v := ?_) rfl (by kernel_rfl) (by kernel_rfl) (by kernel_rfl) (fun _ _ _ h => h) (Or.inl ⟨by rfl, ?_⟩) hHeld ?_
            rotate_left 1
            · (intro w hSw; (try dsimp only at hSw); go_simp; try with_reducible rfl)
            try simp only [Act.put, List.getElem_toArray, List.getElem_cons_zero, List.getElem_cons_succ, List.setIfInBounds_toArray, List.set_cons_zero, List.set_cons_succ]
            refine wpAnyH_done (by kernel_rfl) ?_ _
            refine NoPanic.normal ?_
            obtain ⟨v', w', hrun, hnb', hdis'⟩ := app_nb wn w6 sh _ rs _ (.slice sa sums.length sc) E sums (i + 1) (HN4.out.G (HG5.out.trans HG6.out)) HDIS.out x.s (by have := HSL.out; have := HE1.out; have := HIL.out; omega) w6.heap.size rfl
            have HRUN := hide hrun
            have HROW : Hid (Inv1 wn w' sh (.slice ma rs.length mc) rs (.slice (some ⟨ge, 0, none⟩) E.length ec) v' E (sums ++ [x.s]) (i + 1) from_) := HINV.out v' w' x.s hnb' hdis' (.inr ⟨(HWY.out.sum x (List.mem_of_getElem? HWY.out.way.last)).1, (HWY.out.sum x (List.mem_of_getElem? HWY.out.way.last)).2, HWY.out.isd⟩)
            have c8 := (HALL.out _ HG6.out).2.1
            clear hrun hnb' hdis' HIW HALL
            go_wp2_with (first | (at_builtin; refine wpList_append_run rfl _ _ 26 rfl (.slice sa sums.length sc) (.slice (some ⟨w6.heap.size, 0, none⟩) 1 1) rfl rfl HRUN.out ?_) | fail)
            clear HRUN
            go_roundw
            case rel => (try rw [hw]); exact ⟨i + 1, sums ++ [x.s], v', by simp, rfl, HIL.out, HROW.out⟩
            case measure => (try rw [hw]); simp only [RowKit.intOf]; exact ms2 HIL.out
          · have htb : (t == from_) = false := beq_eq_false_iff_ne.2 htf
            clear hone htf
            go_wp2_with fail
            rw [← hw5, ← hwb]
            clear hw5 hwb ci4 cr5 cr6
            refine wp_region_noPanic ?_
            refine wp_region_held_drew (S := (fun V => (∀ j, V.cell? ⟨nb, j, none⟩ = ([.slice ma rs.length mc, .bool false] : List Value)[j]?) ∧ (∀ j, V.cell? ⟨wb, j, none⟩ = ([I x.s, .slice na ns.length nc, .slice qa es.length qc] : List Value)[j]?) ∧ V.cell? ⟨ge, i, none⟩ = some (I t))) (by kernel_rfl) (HALL.out _ (G.drew (G.refl _))) (fun hHeld => ?_)
            refine wpAnyH_take (i := 0) (v := ?_) rfl (by kernel_rfl) (by kernel_rfl) (by kernel_rfl) (fun _ _ _ h => h) (Or.inl ⟨by rfl, ?_⟩) hHeld ?_
            rotate_left 1
            · (intro w hSw; (try dsimp only at hSw); go_simp; try with_reducible rfl)
            try simp only [Act.put, List.getElem_toArray, List.getElem_cons_zero, List.setIfInBounds_toArray, List.set_cons_zero, List.set_cons_succ]
            refine wpAnyH_take (i := 1) (v := ?_) rfl (by kernel_rfl) (by kernel_rfl) (by kernel_rfl) (fun _ _ _ h => h) (Or.inl ⟨by rfl, ?_⟩) hHeld ?_
            rotate_left 1
            · (intro w hSw; (try dsimp only at hSw); go_simp; try with_reducible rfl)
            try simp only [Act.put, List.getElem_toArray, List.getElem_cons_zero, List.getElem_cons_succ, List.setIfInBounds_toArray, List.set_cons_zero, List.set_cons_succ]
            refine wpAnyH_take (i := 2) (v := ?_) rfl (by kernel_rfl) (by kernel_rfl) (by kernel_rfl) (fun _ _ _ h => h) (Or.inl ⟨by rfl, ?_⟩) hHeld ?_
            rotate_left 1
            · (intro w hSw; obtain ⟨q1, q2, q3⟩ := hSw; go_simp; try with_reducible rfl)
            try simp only [Act.put, List.getElem_toArray, List.getElem_cons_zero, List.getElem_cons_succ, List.setIfInBounds_toArray, List.set_cons_zero, List.set_cons_succ]
            refine wpAnyH_take (i := 3) (v := ?_) rfl (by kernel_rfl) (by kernel_rfl) (by kernel_rfl) (fun _ _ _ h => h) (Or.inl ⟨by rfl, ?_⟩) hHeld ?_
            rotate_left 1
            · (intro w hSw; obtain ⟨q1, q2, q3⟩ := hSw; go_simp; try with_reducible rfl)
            try simp only [Act.put, List.getElem_toArray, List.getElem_cons_zero, List.getElem_cons_succ, List.setIfInBounds_toArray, List.set_cons_zero, List.set_cons_succ]
            refine wpAnyH_take (i := 4) (v := ?_) rfl (by kernel_rfl) (by kernel_rfl) (by kernel_rfl) (fun _ _ _ h => h) (Or.inl ⟨by rfl, ?_⟩) hHeld ?_
            rotate_left 1
            · (intro w hSw; obtain ⟨q1, q2, q3⟩ := hSw; go_simp; try with_reducible rfl)
            try simp only [Act.put, List.getElem_toArray, List.getElem_cons_zero, List.getElem_cons_succ, List.setIfInBounds_toArray, List.set_cons_zero, List.set_cons_succ]
            refine wpAnyH_take (i := 5) (v := ?_) rfl (by kernel_rfl) (by kernel_rfl) (by kernel_rfl) (fun _ _ _ h => h) (Or.inl ⟨by rfl, ?_⟩) hHeld ?_
            rotate_left 1
            · (intro w hSw; obtain ⟨q1, q2, q3⟩ := hSw; go_simp; try with_reducible rfl)
            try simp only [Act.put, List.getElem_toArray, List.getElem_cons_zero, List.getElem_cons_succ, List.setIfInBounds_toArray, List.set_cons_zero, List.set_cons_succ]
            refine wpAnyH_take (i := 6) (v := ?_) rfl (by kernel_rfl) (by kernel_rfl) (by kernel_rfl) (fun _ _ _ h => h) (Or.inl ⟨by rfl, ?_⟩) hHeld ?_
            rotate_left 1
            · (intro w hSw; obtain ⟨q1, q2, q3⟩ := hSw; go_simp; try with_reducible rfl)
            try simp only [Act.put, List.getElem_toArray, List.getElem_cons_zero, List.getElem_cons_succ, List.setIfInBounds_toArray, List.set_cons_zero, List.set_cons_succ]
            refine wpAnyH_take (i := 7) (v := ?_) rfl (by kernel_rfl) (by kernel_rfl) (by kernel_rfl) (fun _ _ _ h => h) (Or.inl ⟨by rfl, ?_⟩) hHeld ?_
            rotate_left 1
            · (intro w hSw; obtain ⟨q1, q2, q3⟩ := hSw; go_simp; try with_reducible rfl)
            try simp only [Act.put, List.getElem_toArray, List.getElem_cons_zero, List.getElem_cons_succ, List.setIfInBounds_toArray, List.set_cons_zero, List.set_cons_succ]
            refine wpAnyH_take (i := 8) (v := ?_) rfl (by kernel_rfl) (by kernel_rfl) (by kernel_rfl) (fun _ _ _ h => h) (Or.inl ⟨by rfl, ?_⟩) hHeld ?_
            rotate_left 1
            · (intro w hSw; obtain ⟨q1, q2, q3⟩ := hSw; go_simp; try with_reducible rfl)
            try simp only [Act.put, List.getElem_toArray, List.getElem_cons_zero, List.getElem_cons_succ, List.setIfInBounds_toArray, List.set_cons_zero, List.set_cons_succ]
            refine wpAnyH_ready (rs := [9]) (by kernel_rfl) (by simp) (AllReadyH.cons rfl (fun K hK => ?_) AllReadyH.nil)
            clear hHeld
            go_simp
            refine HIW.out.mono ?_
            rintro e w6 ⟨rfl, hg6⟩
            have HG6 := hide (G.trans (G.drew (G.refl w5)) hg6)
            clear hg6
            go_wp2_with fail
            refine hK.out _ _ (HALL.out _ HG6.out) (fun hHeld => ?_)
            clear hK K
            try simp only [Act.put, List.getElem_toArray, List.getElem_cons_zero, List.getElem_cons_succ, List.setIfInBounds_toArray, List.set_cons_zero, List.set_cons_succ]
            refine wpAnyH_take (i := 10) (v := ?_) rfl (by kernel_rfl) (by kernel_rfl) (by kernel_rfl) (fun _ _ _ h => h) (Or.inl ⟨by rfl, ?_⟩) hHeld ?_
            rotate_left 1
            · (intro w hSw; (try dsimp only at hSw); go_simp; try with_reducible rfl)
            try simp only [Act.put, List.getElem_toArray, List.getElem_cons_zero, List.getElem_cons_succ, List.setIfInBounds_toArray, List.set_cons_zero, List.set_cons_succ]
            refine wpAnyH_take (i := 11) (v := ?_) rfl (by kernel_rfl) (by kernel_rfl) (by kernel_rfl) (fun _ _ _ h => h) (Or.inl ⟨by rfl, ?_⟩) hHeld ?_
            rotate_left 1
            · (intro w hSw; (try dsimp only at hSw); go_simp; try with_reducible rfl)
            try simp only [Act.put, List.getElem_toArray, List.getElem_cons_zero, List.getElem_cons_succ, List.setIfInBounds_toArray, List.set_cons_zero, List.set_cons_succ]
            refine wpAnyH_done (by kernel_rfl) ?_ _
            refine NoPanic.normal ?_
            obtain ⟨v', w', hrun, hnb', hdis'⟩ := app_nb wn w6 sh _ rs _ (.slice sa sums.length sc) E sums (i + 1) (HN4.out.G (HG5.out.trans HG6.out)) HDIS.out x.s (by have := HSL.out; have := HE1.out; have := HIL.out; omega) w6.heap.size rfl
            have HRUN := hide hrun
            have HROW : Hid (Inv1 wn w' sh (.slice ma rs.length mc) rs (.slice (some ⟨ge, 0, none⟩) E.length ec) v' E (sums ++ [x.s]) (i + 1) from_) := HINV.out v' w' x.s hnb' hdis' (.inr ⟨(HWY.out.sum x (List.mem_of_getElem? HWY.out.way.last)).1, (HWY.out.sum x (List.mem_of_getElem? HWY.out.way.last)).2, HWY.out.isd⟩)
            have c8 := (HALL.out _ HG6.out).2.1
            clear hrun hnb' hdis' HIW HALL
            go_wp2_with (first | (at_builtin; refine wpList_append_run rfl _ _ 26 rfl (.slice sa sums.length sc) (.slice (some ⟨w6.heap.size, 0, none⟩) 1 1) rfl rfl HRUN.out ?_) | fail)
            clear HRUN
            go_roundw
            case rel => (try rw [hw]); exact ⟨i + 1, sums ++ [x.s], v', by simp, rfl, HIL.out, HROW.out⟩
            case measure => (try rw [hw]); simp only [RowKit.intOf]; exact ms2 HIL.out
      · have hiI : ¬ ((i : Int) < E.length) := by omega
        obtain rfl : i = E.length := by omega
        have hsl := hinv.len
        rw [hsl]
        have hlp : 0 < sums.length := by have := HEP.out; omega
        obtain ⟨gs, caps, hes, -, -, -⟩ := hinv.nb.l.cell hlp
        obtain ⟨rfl, rfl⟩ : sa = some ⟨gs, 0, none⟩ ∧ sc = caps := by simp at hes; exact hes
        have HCS : Hid (∀ V, G wr V → ∀ (j : Nat) x, sums[j]? = some x → V.cell? ⟨gs, j, none⟩ = some (I x)) := fun V gV j x hx => by
          obtain ⟨g2, cap2, he, -, hc, -⟩ := (hinv.nb.G gV).l.cell hlp
          have : gs = g2 := by simp at he; exact he.1
          subst this
          rw [hc j (by have := (List.getElem?_eq_some_iff.1 hx).1; omega), List.getElem?_map, hx]
          rfl
        have HCE2 : Hid (∀ V, G wr V → ∀ (j : Nat) x, E[j]? = some x → V.cell? ⟨ge, j, none⟩ = some (I x)) := fun V gV j x hx => HCE.out V _ _ _ (hinv.nb.G gV) j x hx
        have HSM := hide hinv.sm
        have HSL := hide hsl
        have HGR := hide hinv.nb.g
        clear hinv hi hil hlp hes hsl HCE
        obtain ⟨w7, rfl⟩ : ∃ w7, w7 = wr := ⟨_, rfl⟩
        go_wp2_with fail
        go_loopw [13] (fun iv wr => ∃ i : Nat, iv = I i ∧ i ≤ E.length ∧ G w7 wr) (fun iv _ => E.length - (RowKit.intOf iv).toNat)
        case atStart => exact ⟨0, rfl, Nat.zero_le _, G.refl _⟩
        case round =>
          obtain ⟨i, rfl, hi, hg⟩ := hrel
          by_cases hil : i < E.length
          · have hiI : (i : Int) < E.length := by omega
            obtain ⟨t, ht⟩ : ∃ t, E[i]? = some t := ⟨_, List.getElem?_eq_getElem hil⟩
            obtain ⟨s, hs⟩ : ∃ s, sums[i]? = some s := ⟨_, List.getElem?_eq_getElem (by have := HSL.out; omega)⟩
            have hsm := HSM.out i t s ht hs
            have htE : t ∈ endsL rs from_ := by rw [← HE.out]; exact List.mem_of_getElem? ht
            have HGW := hide (HGR.out.trans hg)
            obtain ⟨l, hl⟩ : ∃ l, l = (netOf rs false t).1 := ⟨_, rfl⟩
            have HOF := hide (of_any wn wr.drew (.slice ma rs.length mc) rs false t HNR.out (HGW.out.trans (G.drew (G.refl _))) (ends_r64 HNR.out HF.out t htE) HRL2.out)
            rw [← hl] at HOF
            have HL := hide hl
            have HLL : Hid (l.length ≤ 1048576) := by rw [hl]; exact HAL3.out t
            have HALL : Hid (∀ V, G wr V → (fun V => (∀ j, V.cell? ⟨nb, j, none⟩ = ([.slice ma rs.length mc, .bool false] : List Value)[j]?) ∧ V.cell? ⟨ge, i, none⟩ = some (I t)) V) := fun V gV => ⟨(HBN.out.G (HGW.out.trans gV)).cell, HCE2.out V (hg.trans gV) i t ht⟩
            have hw : wrap64 ((i : Int) + 1) = (i : Int) + 1 := wone i (by have := HE1.out; omega)
            have HS := hide hs
            have HSMI := hide hsm
            have HG := hide hg
            have HIL := hide hil
            clear hil ht hs hsm htE hl hg hi
            go_wp2_with fail
            refine wp_region_noPanic ?_
            refine wp_region_held_drew (S := (fun V => (∀ j, V.cell? ⟨nb, j, none⟩ = ([.slice ma rs.length mc, .bool false] : List Value)[j]?) ∧ V.cell? ⟨ge, i, none⟩ = some (I t))) (by kernel_rfl) (HALL.out _ (G.drew (G.refl _))) (fun hHeld => ?_)
            refine wpAnyH_take (i := 0) (v := ?_) rfl (by kernel_rfl) (by kernel_rfl) (by kernel_rfl) (fun _ _ _ h => h) (Or.inl ⟨by rfl, ?_⟩) hHeld ?_
            rotate_left 1
            · (intro w hSw; obtain ⟨q1, q2⟩ := hSw; go_simp; try with_reducible rfl)
            try simp only [Act.put, List.getElem_toArray, List.getElem_cons_zero, List.setIfInBounds_toArray, List.set_cons_zero, List.set_cons_succ]
            refine wpAnyH_take (i := 1) (v := ?_) rfl (by kernel_rfl) (by kernel_rfl) (by kernel_rfl) (fun _ _ _ h => h) (Or.inl ⟨by rfl, ?_⟩) hHeld ?_
            rotate_left 1
            · (intro w hSw; obtain ⟨q1, q2⟩ := hSw; go_simp; try with_reducible rfl)
            try simp only [Act.put, List.getElem_toArray, List.getElem_cons_zero, List.getElem_cons_succ, List.setIfInBounds_toArray, List.set_cons_zero, List.set_cons_succ]
            refine wpAnyH_take (i := 2) (v := ?_) rfl (by kernel_rfl) (by kernel_rfl) (by kernel_rfl) (fun _ _ _ h => h) (Or.inl ⟨by rfl, ?_⟩) hHeld ?_
            rotate_left 1
            · (intro w hSw; obtain ⟨q1, q2⟩ := hSw; go_simp; try with_reducible rfl)
            try simp only [Act.put, List.getElem_toArray, List.getElem_cons_zero, List.getElem_cons_succ, List.setIfInBounds_toArray, List.set_cons_zero, List.set_cons_succ]
            refine wpAnyH_take (i := 3) (v := ?_) rfl (by kernel_rfl) (by kernel_rfl) (by kernel_rfl) (fun _ _ _ h => h) (Or.inl ⟨by rfl, ?_⟩) hHeld ?_
            rotate_left 1
            · (intro w hSw; obtain ⟨q1, q2⟩ := hSw; go_simp; try with_reducible rfl)
            try simp only [Act.put, List.getElem_toArray, List.getElem_cons_zero, List.getElem_cons_succ, List.setIfInBounds_toArray, List.set_cons_zero, List.set_cons_succ]
            refine wpAnyH_take (i := 4) (v := ?_) rfl (by kernel_rfl) (by kernel_rfl) (by kernel_rfl) (fun _ _ _ h => h) (Or.inl ⟨by rfl, ?_⟩) hHeld ?_
            rotate_left 1
            · (intro w hSw; obtain ⟨q1, q2⟩ := hSw; go_simp; try with_reducible rfl)
            try simp only [Act.put, List.getElem_toArray, List.getElem_cons_zero, List.getElem_cons_succ, List.setIfInBounds_toArray, List.set_cons_zero, List.set_cons_succ]
            refine wpAnyH_ready (rs := [5]) (by kernel_rfl) (by simp) (AllReadyH.cons rfl (fun K hK => ?_) AllReadyH.nil)
            clear hHeld
            go_simp
            refine HOF.out.mono ?_
            rintro e w8 ⟨lv, rfl, hax, hg8⟩
            have HG8 := hide (G.trans (G.drew (G.refl wr)) hg8)
            have har := hax.arcs ((HGW.out.trans (G.drew (G.refl wr))).trans hg8)
            obtain ⟨la, lc, rfl⟩ : ∃ la lc, lv = .slice la l.length lc := by obtain ⟨q1, q2, q3, -⟩ := har.at_; exact ⟨q1, q2, q3⟩
            have HA := hide har
            clear hax hg8 har
            go_wp2_with fail
            refine hK.out _ _ (HALL.out _ HG8.out) (fun hHeld => ?_)
            clear hK K
            try simp only [Act.put, List.getElem_toArray, List.getElem_cons_zero, List.getElem_cons_succ, List.setIfInBounds_toArray, List.set_cons_zero, List.set_cons_succ]
            refine wpAnyH_take (i := 6) (v := ?_) rfl (by kernel_rfl) (by kernel_rfl) (by kernel_rfl) (fun _ _ _ h => h) (Or.inl ⟨by rfl, ?_⟩) hHeld ?_
            rotate_left 1
            · (intro w hSw; (try dsimp only at hSw); go_simp; try with_reducible rfl)
            try simp only [Act.put, List.getElem_toArray, List.getElem_cons_zero, List.getElem_cons_succ, List.setIfInBounds_toArray, List.set_cons_zero, List.set_cons_succ]
            refine wpAnyH_take (i := 7) (v := ?_) rfl (by kernel_rfl) (by kernel_rfl) (by kernel_rfl) (fun _ _ _ h => h) (Or.inl ⟨by rfl, ?_⟩) hHeld ?_
            rotate_left 1
            · (intro w hSw; (try dsimp only at hSw); go_simp; try with_reducible rfl)
            try simp only [Act.put, List.getElem_toArray, List.getElem_cons_zero, List.getElem_cons_succ, List.setIfInBounds_toArray, List.set_cons_zero, List.set_cons_succ]
            refine wpAnyH_take (i := 8) (v := ?_) rfl (by kernel_rfl) (by kernel_rfl) (by kernel_rfl) (fun _ _ _ h => h) (Or.inl ⟨by rfl, ?_⟩) hHeld ?_
            rotate_left 1
            · (intro w hSw; (try dsimp only at hSw); go_simp; try with_reducible rfl)
            try simp only [Act.put, List.getElem_toArray, List.getElem_cons_zero, List.getElem_cons_succ, List.setIfInBounds_toArray, List.set_cons_zero, List.set_cons_succ]
            refine wpAnyH_take (i := 9) (v := ?_) rfl (by kernel_rfl) (by kernel_rfl) (by kernel_rfl) (fun _ _ _ h => h) (Or.inl ⟨by rfl, ?_⟩) hHeld ?_
            rotate_left 1
            · (intro w hSw; (try dsimp only at hSw); go_simp; try with_reducible rfl)
            try simp only [Act.put, List.getElem_toArray, List.getElem_cons_zero, List.getElem_cons_succ, List.setIfInBounds_toArray, List.set_cons_zero, List.set_cons_succ]
            refine wpAnyH_take (i := 10) (v := ?_) rfl (by kernel_rfl) (by kernel_rfl) (by kernel_rfl) (fun _ _ _ h => h) (Or.inl ⟨by rfl, ?_⟩) hHeld ?_
            rotate_left 1
            · (intro w hSw; (try dsimp only at hSw); go_simp; try with_reducible rfl)
            try simp only [Act.put, List.getElem_toArray, List.getElem_cons_zero, List.getElem_cons_succ, List.setIfInBounds_toArray, List.set_cons_zero, List.set_cons_succ]
            refine wpAnyH_done (by kernel_rfl) ?_ _
            refine NoPanic.normal ?_
            clear HALL HOF
            have ciS : (i : Int) < sums.length := by have := HSL.out; have := HIL.out; omega
            go_wp2_with fail
            go_loopw [16] (fun jv w9 => ∃ j : Nat, jv = I j ∧ j ≤ l.length ∧ G w8 w9) (fun jv _ => l.length - (RowKit.intOf jv).toNat)
            case atStart => exact ⟨0, rfl, Nat.zero_le _, by first | exact G.refl _ | exact g_drewN _ _⟩
            case round =>
              obtain ⟨j, rfl, hj, hg9⟩ := hrel
              have hgA := (HG.out.trans HG8.out).trans hg9
              have cs := HCS.out _ hgA i s HS.out
              have hwi : wrap64 ((i : Int) + 1) = (i : Int) + 1 := hw
              have HRI : Hid (∃ i' : Nat, I ((i : Int) + 1) = I i' ∧ i' ≤ E.length ∧ G w7 wr) := ⟨i + 1, by simp, HIL.out, hgA⟩
              by_cases hs0 : 0 ≤ s
              · have hs0d : decide (0 ≤ s) = true := decide_eq_true hs0
                by_cases hjl : j < l.length
                · have hjI : (j : Int) < l.length := by omega
                  obtain ⟨⟨xe, xt, xw⟩, hx⟩ : ∃ x, l[j]? = some x := ⟨_, List.getElem?_eq_getElem hjl⟩
                  obtain ⟨-, ab, aoff, rfl, -, -, -, -⟩ := (HA.out.G hg9).get hx
                  have HY : Hid (∀ V, G wr V → V.cell? ⟨ab, aoff + j * 3 + 1, none⟩ = some (I xt) ∧ V.cell? ⟨ab, aoff + j * 3 + 2, none⟩ = some (I xw)) := fun V gV => by
                    obtain ⟨-, ab', aoff', e, -, y2, y3, -⟩ := ((HA.out.G hg9).G gV).get hx
                    simp only [Option.some.injEq, Addr.mk.injEq, and_true] at e
                    obtain ⟨rfl, rfl⟩ := e
                    exact ⟨y2, y3⟩
                  have hxm : ((xe, xt, xw) : Ar) ∈ (netOf rs false t).1 := by rw [← HL.out]; exact List.mem_of_getElem? hx
                  have hwt := HMM.out.wt t _ hxm
                  have hend := HMM.out.ends t _ hxm
                  rw [← HE.out] at hend
                  obtain ⟨K, hKl, hK⟩ := List.getElem_of_mem hend
                  obtain ⟨hs1, hD⟩ : s ≤ 36028797018963968 ∧ IsD false rs false from_ t s := by
                    rcases HSMI.out with ⟨q, -⟩ | ⟨-, q⟩
                    · omega
                    · exact q
                  have hdst : Dst false rs false from_ xt (s + xw) := .step hD.1 hxm
                  have HKK : Hid (∀ (k : Nat) sk, E[k]? = some xt → sums[k]? = some sk → 0 ≤ sk ∧ sk ≤ s + xw) := fun k sk h1 h2 => by
                    rcases HSM.out k xt sk h1 h2 with ⟨-, q⟩ | ⟨q0, -, q⟩
                    · exact absurd hdst (q _)
                    · exact ⟨q0, q.2 _ hdst⟩
                  have wsw : wrap64 (s + xw) = s + xw := wadd s xw ⟨hs0, hs1⟩ hwt
                  have hwj : wrap64 ((j : Int) + 1) = (j : Int) + 1 := wone j (by have := HLL.out; omega)
                  have HKX : Hid (E[K]? = some xt) := by show _ = _; rw [List.getElem?_eq_getElem hKl, hK]
                  have HKL := hide hKl
                  have HJL := hide hjl
                  have HGA := hide hgA
                  have HG9 := hide hg9
                  clear hgA hg9 hj hjl hx hxm hwt hend hKl hK hs1 hD hdst hs0
                  go_wp2_with fail
                  clear cs
                  obtain ⟨w9, rfl⟩ : ∃ w9, w9 = wr := ⟨_, rfl⟩
                  go_loopw [17] (fun kv w10 => ∃ k : Nat, kv = I k ∧ k ≤ K ∧ G w9 w10) (fun kv _ => K - (RowKit.intOf kv).toNat)
                  case atStart => exact ⟨0, rfl, Nat.zero_le _, by first | exact G.refl _ | exact g_drewN _ _⟩
                  case round =>
                    obtain ⟨k, rfl, hk, hg10⟩ := hrel
                    have hkE : k < E.length := Nat.lt_of_le_of_lt hk HKL.out
                    have hkI : (k : Int) < E.length := Int.ofNat_lt.2 hkE
                    obtain ⟨tk, htk⟩ : ∃ tk, E[k]? = some tk := ⟨_, List.getElem?_eq_getElem hkE⟩
                    have ck := HCE2.out _ (HGA.out.trans hg10) k tk htk
                    obtain ⟨y2, y3⟩ := HY.out _ hg10
                    have HG10 := hide hg10
                    by_cases heq : tk = xt
                    · subst heq
                      have he1 : (tk == tk) = true := by simp
                      have he2 : (tk != tk) = false := by simp
                      obtain ⟨sk, hsk⟩ : ∃ sk, sums[k]? = some sk := ⟨_, List.getElem?_eq_getElem (by rw [HSL.out]; exact hkE)⟩
                      obtain ⟨b1, b2⟩ := HKK.out k sk htk hsk
                      have HSK := hide hsk
                      have b1n : ¬ (sk < 0) := Int.not_lt.2 b1
                      have b2n : ¬ (s + xw < sk) := Int.not_lt.2 b2
                      have b1d : decide (sk < 0) = false := decide_eq_false b1n
                      have b2d : decide (s + xw < sk) = false := decide_eq_false b2n
                      have HB : Hid (¬ (sk < 0) ∧ ¬ (s + xw < sk) ∧ decide (sk < 0) = false ∧ decide (s + xw < sk) = false) := ⟨b1n, b2n, b1d, b2d⟩
                      clear hsk hg10 hk hkE htk b1 b2 b1n b2n b1d b2d y3
                      go_wp2_with fail
                      go_quiet (fail)
                      go_wp2_with fail
                      generalize hw11 : World.drewN wr _ = w11
                      have HG11 : Hid (G w9 w11) := by rw [← hw11]; exact HG10.out.trans (g_drewN _ _)
                      clear hw11 ck y2
                      have ck := HCS.out _ (HGA.out.trans HG11.out) k sk HSK.out
                      have ci := HCS.out _ (HGA.out.trans HG11.out) i s HS.out
                      obtain ⟨-, y3⟩ := HY.out _ HG11.out
                      obtain ⟨b1n, b2n, b1d, b2d⟩ := HB.out
                      go_quiet (fail)
                      go_wp2_with fail
                      go_roundw
                      case rel => (try rw [hwj]); exact ⟨j + 1, by simp, HJL.out, HG9.out.trans (HG11.out.trans (g_drewN _ _))⟩
                      case measure => (try rw [hwj]); simp only [RowKit.intOf]; exact ms2 HJL.out
                    · have he1 : (tk == xt) = false := beq_eq_false_iff_ne.2 heq
                      have he2 : (tk != xt) = true := by simpa using heq
                      have hkK : k < K := by
                        rcases Nat.lt_or_ge k K with q | q
                        · exact q
                        · have : k = K := Nat.le_antisymm hk q
                          subst this
                          rw [HKX.out] at htk
                          exact absurd (Option.some.inj htk).symm heq
                      have hwk : wrap64 ((k : Int) + 1) = (k : Int) + 1 := wone k (by have := HE1.out; omega)
                      have HKK2 := hide hkK
                      clear hg10 hk hkE htk hkK y3
                      go_wp2_with fail
                      go_quiet (fail)
                      go_wp2_with fail
                      go_roundw
                      case rel => (try rw [hwk]); exact ⟨k + 1, by simp, HKK2.out, HG10.out.trans (g_drewN _ _)⟩
                      case measure => (try rw [hwk]); simp only [RowKit.intOf]; exact ms2 HKK2.out
                · have hjI : ¬ ((j : Int) < l.length) := by omega
                  have hjd : decide ((j : Int) < l.length) = false := decide_eq_false hjI
                  clear hgA hg9 hj hjl
                  go_wp2_with fail
                  go_roundw
                  case rel => (try rw [hw]); exact HRI.out
                  case measure => (try rw [hw]); simp only [RowKit.intOf]; exact ms2 HIL.out
              · have hs0d : decide (0 ≤ s) = false := decide_eq_false hs0
                clear hgA hg9 hj
                go_wp2_with fail
                go_roundw
                case rel => (try rw [hw]); exact HRI.out
                case measure => (try rw [hw]); simp only [RowKit.intOf]; exact ms2 HIL.out
          · have hiI : ¬ ((i : Int) < E.length) := by omega
            have HGE := hide (HG1.out.trans (HGR.out.trans hg))
            clear hg hil hi
            go_wp2_with fail
            go_ret
            exact ⟨rfl, HGE.out⟩
end Go.Proofs.YtcbjcienjolceaaDoor
