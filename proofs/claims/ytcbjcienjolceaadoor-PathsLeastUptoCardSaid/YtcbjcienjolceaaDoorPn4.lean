/- PathsNear: the walk. -/
import Derived.Test.YtcbjcienjolceaaDoorPn1
import Derived.Test.YtcbjcienjolceaaDoorPn3
import Derived.Test.YtcbjcienjolceaaDoorPm2
namespace Go.Proofs.YtcbjcienjolceaaDoor
open Go.RowKit

theorem netOf_mem {rs : List Nr} {id : Int} {a : Ar} (h : a ∈ (netOf rs false id).1) : ∃ r ∈ rs, a ∈ r.arcs := by
  unfold netOf at h
  split at h
  · rename_i r hr
    split at h
    · exact ⟨r, List.mem_of_find?_eq_some hr, h⟩
    · simp at h
  · simp at h
theorem mild_mem {rs : List Nr} {r : Nr} (h : r ∈ rs.map mildN) : r.code = 0 ∧ ∀ a ∈ r.arcs, 0 ≤ a.2.2 ∧ a.2.2 ≤ 1048575 := by
  obtain ⟨q, _, rfl⟩ := List.mem_map.1 h
  refine ⟨rfl, fun a ha => ?_⟩
  obtain ⟨b, _, rfl⟩ := List.mem_map.1 ha
  exact land_ok _
theorem mild_net (hops : Bool) (rs : List Nr) (from_ : Int) (hl : (endsL (rs.map mildN) from_).length ≤ 1000) : Mild hops (rs.map mildN) false (endsL (rs.map mildN) from_) := by
  refine ⟨fun id => ?_, fun id a ha => ?_, fun id a ha => ?_, hl⟩
  · unfold netOf
    split
    · rename_i r hr
      rw [if_pos (mild_mem (List.mem_of_find?_eq_some hr)).1]
    · rfl
  · obtain ⟨r, hr, ha⟩ := netOf_mem ha
    have := (mild_mem hr).2 a ha
    cases hops
    · have e : wei false a = a.2.2 := rfl
      omega
    · have e : wei true a = 1 := rfl
      omega
  · obtain ⟨r, hr, ha⟩ := netOf_mem ha
    refine List.mem_cons_of_mem _ (List.mem_flatMap.2 ⟨r, hr, ?_⟩)
    exact List.mem_cons_of_mem _ (List.mem_map.2 ⟨a, ha, rfl⟩)
theorem ends_len (rs : List Nr) : (rs.flatMap idsN).length = (rs.map fun r => r.arcs.length + 1).sum := by
  induction rs with
  | nil => rfl
  | cons r rs ih => simp only [List.flatMap_cons, List.length_append, List.map_cons, List.sum_cons, ih]; simp [idsN]
theorem ends_big (rs : List Nr) (from_ : Int) (h : (rs.map fun r => r.arcs.length + 1).sum ≤ 1048576) : (endsL (rs.map mildN) from_).length ≤ 4294967296 := by
  unfold endsL
  rw [List.length_cons, ends_len, List.map_map]
  have : ((fun r : Nr => r.arcs.length + 1) ∘ mildN) = fun r => r.arcs.length + 1 := by funext r; simp [mildN]
  rw [this]
  omega
theorem IsD.uniq {hops : Bool} {rs : List Nr} {tail : Bool} {from_ u s s' : Int} (h : IsD hops rs tail from_ u s) (k : IsD hops rs tail from_ u s') : s = s' := Int.le_antisymm (h.2 _ k.1) (k.2 _ h.1)
theorem last_snoc (l : List Sn) (x : Sn) : (l ++ [x]).getLast! = x := by simp
/-- What Hops tells, in a mild net. -/
theorem hops_mild {rs : List Nr} {E : List Int} {from_ : Int} (m : Mild true rs false E) (hE : from_ ∈ E) (to_ : Int) (R : Rs) (hR : R = srch true rs false (some to_) (-1) 4097 [] [(from_, 0)] []) :
    ∃ (h : Int) (ok : Bool), hopsV R = .tuple #[I h, .bool ok, I 0] ∧ (ok = true → IsD true rs false from_ to_ h) ∧ (ok = false → ∀ s, ¬ Dst true rs false from_ to_ s) := by
  obtain ⟨hc, ⟨hh, st2, s, hs, hD, -⟩ | ⟨hh, hno⟩⟩ := aim_end m hE to_ R hR
  · refine ⟨s, true, ?_, fun _ => hD, fun q => by cases q⟩
    unfold hopsV
    rw [if_pos hh, hs, last_snoc]
  · refine ⟨0, false, ?_, fun q => (by cases q), fun _ => hno⟩
    unfold hopsV
    rw [if_neg (by rw [hh]; simp), hc]
/-- Between the calls. -/
structure Nb (Wb w : World) (sh : Nat) (mv : Value) (rs : List Nr) (ev lv : Value) (E l : List Int) (n : Nat) : Prop where
  ex : ∃ av gv bas gl, Shn Wb w sh mv rs false av gv bas gl ∧ bas.length ≤ n * 4097 ∧ (∀ b, ev.ownBlock = some b → av.ownBlock ≠ some b) ∧ ∀ b, lv.ownBlock = some b → av.ownBlock ≠ some b
  e : Rw Wb.heap.size 2 1 w ev E.length (E.map I)
  l : Rw Wb.heap.size 2 1 w lv l.length (l.map I)
theorem Nb.G {Wb w w' : World} {sh : Nat} {mv : Value} {rs : List Nr} {ev lv : Value} {E l : List Int} {n : Nat} (h : Nb Wb w sh mv rs ev lv E l n) (g : Go.Proofs.YtcbjcienjolceaaDoor.G w w') : Nb Wb w' sh mv rs ev lv E l n := by
  obtain ⟨av, gv, bas, gl, h1, h2, h3, h4⟩ := h.ex
  exact ⟨⟨av, gv, bas, gl, h1.G g, h2, h3, h4⟩, Rw.G h.e g, Rw.G h.l g⟩
theorem Nb.g {Wb w : World} {sh : Nat} {mv : Value} {rs : List Nr} {ev lv : Value} {E l : List Int} {n : Nat} (h : Nb Wb w sh mv rs ev lv E l n) : Go.Proofs.YtcbjcienjolceaaDoor.G Wb w := by
  obtain ⟨av, gv, bas, gl, h1, -⟩ := h.ex
  exact h1.g
theorem hops_nb (Wb W : World) (sh : Nat) (mv : Value) (rs : List Nr) (ev lv : Value) (E l : List Int) (n : Nat) (from_ to_ : Int) (k : Nb Wb W sh mv rs ev lv E l n) (hn : n ≤ 100000) (hf : R64 from_) (hrl : rs.length ≤ 1048576) (hal : ∀ id, (netOf rs false id).1.length ≤ 1048576) (m : Mild true rs false (endsL rs from_)) :
    Calls Tryd.prog 13 #[.func (.func 12) #[ptr sh] #[], I from_, I to_] W fun e W' => ∃ (h : Int) (ok : Bool), e = .returned (.tuple #[I h, .bool ok, I 0]) ∧ (ok = true → IsD true rs false from_ to_ h) ∧ (ok = false → ∀ s, ¬ Dst true rs false from_ to_ s) ∧ Nb Wb W' sh mv rs ev lv E l (n + 1) := by
  obtain ⟨av, gv, bas, gl, h1, h2, h3, h4⟩ := k.ex
  obtain ⟨h, ok, e1, e2, e3⟩ := hops_mild m (List.mem_cons_self ..) to_ _ rfl
  have hlen := srch_len true rs false (some to_) (-1) 4097 [] [(from_, 0)] []
  refine (hops_any Wb W sh mv rs false av gv from_ to_ bas gl (by omega) h1 hf hrl hal _ rfl).mono ?_
  rintro e W' ⟨rfl, ⟨av', gv', gl', hsn, hao⟩, mp, hmv⟩
  refine ⟨h, ok, by rw [e1], e2, e3, ⟨av', gv', _, gl', hsn, ?_, fun b hb e => ?_, fun b hb e => ?_⟩, ?_, ?_⟩
  · rw [List.length_append]
    simp at hlen
    omega
  · rcases hao.2 b e with q | q
    · exact h3 b hb q
    · have := (Rw.own k.e hb).2.1
      omega
  · rcases hao.2 b e with q | q
    · exact h4 b hb q
    · have := (Rw.own k.l hb).2.1
      omega
  · exact k.e.keep fun b hb => by
      obtain ⟨_, _, ys, hy⟩ := Rw.own k.e hb
      exact hao.1 b ys hy (h3 b hb)
  · exact k.l.keep fun b hb => by
      obtain ⟨_, _, ys, hy⟩ := Rw.own k.l hb
      exact hao.1 b ys hy (h4 b hb)
set_option maxRecDepth 100000 in
set_option maxHeartbeats 2000000 in
theorem near_law (W : World) (rv : Value) (rs0 : List Nr) (from_ most : Int) (hN : Nrs W rv rs0) (hM : Mk W) (hrl : rs0.length ≤ 1048576) (hal : ∀ r ∈ rs0, r.arcs.length ≤ 1048576) (hbig : (endsL (rs0.map mildN) from_).length ≤ 4294967296) (hf : R64 from_) :
    Calls Tryd.prog 3 #[rv, I from_, I most] W fun e W' => e = .returned (.bool true) ∧ G W W' := by
  obtain ⟨rva, rvc, hrv⟩ : ∃ a c, rv = .slice a rs0.length c := by obtain ⟨a, c, e, _⟩ := hN; exact ⟨a, c, e⟩
  have HMI := hide (mild_any W rv rs0 hN hrl hal)
  subst hrv
  have HM := hide hM
  have HBIG := hide hbig
  have HF := hide hf
  have hal2 : ∀ r ∈ rs0.map mildN, r.arcs.length ≤ 1048576 := fun r hr => by
    obtain ⟨q, hq, rfl⟩ := List.mem_map.1 hr
    have := hal q hq
    simpa [mildN] using this
  have hrl2 : (rs0.map mildN).length ≤ 1048576 := by rw [List.length_map]; exact hrl
  have HMN := hide (fun hl => mild_net true rs0 from_ hl)
  clear hM hbig hf hN hal hrl
  generalize hrs : rs0.map mildN = rs at *
  have HAL2 := hide hal2
  have hal3 : ∀ id, (netOf rs false id).1.length ≤ 1048576 := fun id => by
    unfold netOf
    split
    · rename_i r hr
      split
      · exact hal2 r (List.mem_of_find?_eq_some hr)
      · simp
    · simp
  have HAL3 := hide hal3
  clear hal2 hal3 hrs
  go_enter Tryd.func3, Tryd.ntmps3
  go_wp2_with fail
  refine HMI.out.mono ?_
  rintro e w1 ⟨mv, L, rfl, hro, hmp, hg1⟩
  have hll : L.length = rs.length := by rw [← hmp, List.length_map]
  obtain ⟨ma, mc, hmv⟩ := Rw.form hro.row
  rw [hll] at hmv
  subst hmv
  have hnr := hro.nrs
  rw [hmp] at hnr
  have hgn : G w1 (w1.alloc (.cells #[.slice ma rs.length mc, .bool false] 25)) := (G.refl w1).alloc _
  have HNR := hide hnr
  have HG1 := hide hg1
  have HBN := hide (Blk.new w1 [.slice ma rs.length mc, .bool false] 25)
  have HEN := hide (ends_any (w1.alloc (.cells #[.slice ma rs.length mc, .bool false] 25)) _ rs from_ (hnr.G hgn) hrl2 HAL2.out HBIG.out)
  have HGN := hide hgn
  clear hro hmp hg1 hnr HMI hll hgn
  obtain ⟨E, hE⟩ : ∃ E, E = endsL rs from_ := ⟨_, rfl⟩
  rw [← hE] at HEN HMN HBIG
  have HE := hide hE
  clear hE
  go_wp2_with fail
  refine HEN.out.mono ?_
  rintro e w2 ⟨ev, rfl, hre, hg2⟩
  obtain ⟨ea, ec, rfl⟩ := Rw.form hre
  have HRE : Hid (Rw w1.heap.size 2 1 w2 (.slice ea E.length ec) E.length (E.map I)) := Rw.base hre HGN.out.size
  have HG2 := hide (HGN.out.trans hg2)
  have c3 : ∀ o, w2.cell? ⟨w1.heap.size, o, none⟩ = ([.slice ma rs.length mc, .bool false] : List Value)[o]? := (HBN.out.G hg2).cell
  clear hre hg2 HEN HBN
  by_cases he1 : 1000 < E.length
  · have he2 : (1000 : Int) < E.length := by omega
    have he3 : decide ((1000 : Int) < E.length) = true := decide_eq_true he2
    clear he1
    go_wp2_with fail
    go_ret
    exact ⟨rfl, HG1.out.trans HG2.out⟩
  · have he2 : ¬ ((1000 : Int) < E.length) := by omega
    have he3 : decide ((1000 : Int) < E.length) = false := decide_eq_false he2
    by_cases hm1 : most < 0
    · have hm3 : decide (most < 0) = true := decide_eq_true hm1
      clear he1
      go_wp2_with fail
      go_ret
      exact ⟨rfl, HG1.out.trans HG2.out⟩
    · have hm3 : decide (most < 0) = false := decide_eq_false hm1
      have hmi := HMN.out (by omega)
      have hmi2 := hmi
      have hfE : from_ ∈ E := by rw [HE.out]; exact List.mem_cons_self ..
      obtain ⟨R, hR⟩ : ∃ R, R = srch true rs false none most 4097 [] [(from_, 0)] [] := ⟨_, rfl⟩
      obtain ⟨hc0, hdj, t, hst⟩ := most_end hmi hfE (by omega) R hR
      have gC : G w2 (w2.alloc (.cells #[.slice ma rs.length mc, .bool false, .slice none 0 0, .slice none 0 0] 31)) := (G.refl w2).alloc _
      have hsn : Shn w1 (w2.alloc (.cells #[.slice ma rs.length mc, .bool false, .slice none 0 0, .slice none 0 0] 31)) w2.heap.size (.slice ma rs.length mc) rs false (.slice none 0 0) (.slice none 0 0) [] [] :=
        ⟨HG2.out.trans gC, Blk.new w2 [.slice ma rs.length mc, .bool false, .slice none 0 0, .slice none 0 0] 31, Rw.nil _ _ _ _, Rw.nil _ _ _ _, rfl, fun i id v h => by simp at h, HNR.out, HG2.out.size, HM.out.G HG1.out⟩
      have HRC := hide (reach_any w1 _ w2.heap.size _ rs false _ _ from_ most [] [] (by simp) hsn HF.out (by omega) hrl2 HAL3.out R hR)
      have HRE2 := hide (Rw.G HRE.out gC)
      have HC0 := hide hc0
      have HDJ := hide hdj
      have HST := hide hst
      have hlR := hdj.few hmi
      have has := srch_len true rs false none most 4097 [] [(from_, 0)] []
      rw [← hR] at has
      simp only [List.length_nil, Nat.zero_add] at has
      have HAS := hide has
      have HLR := hide hlR
      have HLO : Hid (w1.heap.size ≤ (w2.alloc (.cells #[.slice ma rs.length mc, .bool false, .slice none 0 0, .slice none 0 0] 31)).heap.size) := (HG2.out.trans gC).size
      rw [hc0] at HRC
      have HMM : Hid (Mild true rs false (endsL rs from_)) := by have := hmi; rw [HE.out] at this; exact this
      have HE1 := hide he1
      have HRL2 := hide hrl2
      clear he1 hmi hmi2 hfE hc0 hdj hst gC hsn hR hlR has HRE HBIG HMN hrl2
      go_wp2_with fail
      refine HRC.out.mono ?_
      rintro e w3 ⟨av3, gv3, gl3, lv, rfl, hl3, -, hsn3, -, hnd3, hao3⟩
      have hrl3 := hl3 (by first | rfl | trivial)
      obtain ⟨la, lc, rfl⟩ := Rw.form hrl3
      obtain ⟨l, hl⟩ : ∃ l, l = R.st.map (·.1) := ⟨_, rfl⟩
      have hll : R.st.length = l.length := by rw [hl, List.length_map]
      have HLL := hide hll
      rw [← hl, hll] at hrl3
      have HNB : Hid (Nb w1 w3 w2.heap.size (.slice ma rs.length mc) rs (.slice ea E.length ec) (.slice la l.length lc) E l 1) := by
        have noown : ∀ b, (Value.slice none 0 0).ownBlock ≠ some b := fun b e => by simp [Value.ownBlock] at e
        refine ⟨⟨av3, gv3, _, gl3, hsn3, ?_, fun b hb e => ?_, fun b hb e => hnd3 b (by revert hb; cases la <;> exact fun h => h) e⟩, ?_, Rw.base hrl3 HLO.out⟩
        · have := HAS.out
          simpa using this
        · rcases hao3.2 b e with q | q
          · exact noown b q
          · have := (Rw.own HRE2.out hb).2.1
            omega
        · exact Rw.keep HRE2.out fun b hb => by
            obtain ⟨_, _, ys, hy⟩ := Rw.own HRE2.out hb
            exact hao3.1 b ys hy (noown b)
      have HL := hide hl
      rw [hll]
      have hl0 : l[0]? = some from_ := by rw [hl, HST.out]; rfl
      have hlp : 0 < l.length := (List.getElem?_eq_some_iff.1 hl0).1
      obtain ⟨g, cap, he, -, hc, -⟩ := (HNB.out.l).cell hlp
      obtain ⟨rfl, rfl⟩ : la = some ⟨g, 0, none⟩ ∧ lc = cap := by simp at he; exact he
      have hc0 : w3.cell? ⟨g, 0, none⟩ = some (I from_) := by rw [hc 0 (by omega), List.getElem?_map, hl0]; rfl
      have hp1 : ¬ ((l.length : Int) < 1) := by omega
      have hp2 : decide ((l.length : Int) < 1) = false := decide_eq_false hp1
      have hp3 : (0 : Int) < l.length := by omega
      have HLP := hide hlp
      have HLN : Hid (l.length ≤ 1000) := by have := HLR.out; have := HLL.out; show _ ≤ _; omega
      clear hl3 hsn3 hnd3 hao3 hrl3 hll hl HRC c3 he hc hl0 hlp
      go_wp2_with fail
      go_loopw [12, 13] (fun lastv iv wr => ∃ (i : Nat) (last : Int), iv = I i ∧ lastv = I last ∧ i ≤ l.length ∧ Nb w1 wr w2.heap.size (.slice ma rs.length mc) rs (.slice ea E.length ec) (.slice (some ⟨g, 0, none⟩) l.length lc) E l (1 + i) ∧ (i = 0 → last = 0) ∧ ∀ p, 0 < i → R.st[i - 1]? = some p → last = p.2) (fun _ iv _ => l.length - (RowKit.intOf iv).toNat)
      case atStart => exact ⟨0, 0, rfl, rfl, Nat.zero_le _, HNB.out, fun _ => rfl, fun p h => absurd h (by omega)⟩
      case round =>
        obtain ⟨i, last, rfl, rfl, hi, hnb, hla0, hla1⟩ := hrel
        by_cases hil : i < l.length
        · have hiI : (i : Int) < l.length := by omega
          obtain ⟨p, hp⟩ : ∃ p, R.st[i]? = some p := ⟨_, List.getElem?_eq_getElem (by have := HLL.out; omega)⟩
          have hli : l[i]? = some p.1 := by rw [HL.out, List.getElem?_map, hp]; rfl
          have hcell : ∀ V m, Nb w1 V w2.heap.size (.slice ma rs.length mc) rs (.slice ea E.length ec) (.slice (some ⟨g, 0, none⟩) l.length lc) E l m → ∀ o x, l[o]? = some x → V.cell? ⟨g, o, none⟩ = some (I x) := fun V m nb o x ho => by
            obtain ⟨g2, cap2, he, -, hc, -⟩ := nb.l.cell HLP.out
            have : g = g2 := by simp at he; exact he.1
            subst this
            rw [hc o (by have := (List.getElem?_eq_some_iff.1 ho).1; omega), List.getElem?_map, ho]
            rfl
          have ci := hcell wr _ hnb i p.1 hli
          have HHO := hide (hops_nb w1 wr _ _ rs _ _ E l (1 + i) from_ p.1 hnb (by have := HLN.out; omega) HF.out HRL2.out HAL3.out HMM.out)
          have hpm := List.mem_of_getElem? hp
          have hD := HDJ.out.d1 p hpm
          have hpm2 : p.2 ≤ most := by have := HDJ.out.d12 p (.inl hpm); omega
          have hp0 : 0 ≤ p.2 := hD.1.pos HMM.out
          -- as to the one ahead of it
          have hlast : last ≤ p.2 ∧ (0 < i → last = p.2 → ∀ x, l[i - 1]? = some x → x < p.1) := by
            by_cases h0 : i = 0
            · rw [hla0 h0]
              exact ⟨hp0, fun h => absurd h (by omega)⟩
            · obtain ⟨q, hq⟩ : ∃ q, R.st[i - 1]? = some q := ⟨_, List.getElem?_eq_getElem (by have := HLL.out; omega)⟩
              have hb : before q p = true := by
                have hpw := (HDJ.out.d13 rfl).1
                rw [List.pairwise_iff_getElem] at hpw
                obtain ⟨hi1, e1⟩ := List.getElem?_eq_some_iff.1 hq
                obtain ⟨hi2, e2⟩ := List.getElem?_eq_some_iff.1 hp
                rw [← e1, ← e2]
                exact hpw _ _ hi1 hi2 (by omega)
              rw [before_iff] at hb
              rw [hla1 q (by omega) hq]
              refine ⟨by omega, fun _ he x hx => ?_⟩
              rw [HL.out, List.getElem?_map, hq] at hx
              simp at hx
              omega
          have HLA := hide hlast
          have HD := hide hD
          have HIL := hide hil
          have HP := hide hp
          have HCL := hide hcell
          have HLI := hide hli
          clear hnb hla0 hla1 hil hp hli hcell hpm hD hlast
          go_wp2_with fail
          refine HHO.out.mono ?_
          rintro e w4 ⟨h, ok, rfl, hok1, hok2, hnb4⟩
          obtain rfl : ok = true := by
            cases ok with
            | true => rfl
            | false => exact absurd HD.out.1 (hok2 rfl _)
          obtain rfl : h = p.2 := (hok1 rfl).uniq HD.out
          have hw : wrap64 ((i : Int) + 1) = (i : Int) + 1 := by have := HLN.out; unfold wrap64; omega
          have g1 : ¬ (most < p.2) := by omega
          have g1d : decide (most < p.2) = false := decide_eq_false g1
          have g2 : ¬ (p.2 < last) := by have := HLA.out.1; omega
          have g2d : decide (p.2 < last) = false := decide_eq_false g2
          have HREL : Hid (∃ (i' : Nat) (last' : Int), I ((i : Int) + 1) = I i' ∧ I p.2 = I last' ∧ i' ≤ l.length ∧ Nb w1 w4 w2.heap.size (.slice ma rs.length mc) rs (.slice ea E.length ec) (.slice (some ⟨g, 0, none⟩) l.length lc) E l (1 + i') ∧ (i' = 0 → last' = 0) ∧ ∀ p, 0 < i' → R.st[i' - 1]? = some p → last' = p.2) := by
            refine ⟨i + 1, p.2, by simp, rfl, HIL.out, hnb4, fun h => absurd h (by omega), fun q _ hq => ?_⟩
            have : R.st[i]? = some q := hq
            rw [HP.out] at this
            cases this
            rfl
          have HN4 := hide hnb4
          clear HHO hnb4 hok1 hok2 ci
          by_cases h0 : i = 0
          · subst h0
            go_wp2_with fail
            go_quiet (fail)
            go_wp2_with fail
            go_roundw
            case rel =>
              (try rw [hw])
              obtain ⟨i', last', r1, r2, r3, r4, r5, r6⟩ := HREL.out
              exact ⟨i', last', r1, r2, r3, r4.G (g_drewN _ _), r5, r6⟩
            case measure => (try rw [hw]); simp only [RowKit.intOf]; exact ms2 HIL.out
          · have hz : (0 : Int) < i := by omega
            have hzd : decide ((0 : Int) < i) = true := decide_eq_true hz
            have hz2 : 0 < i := by omega
            have hzd2 : decide (0 < i) = true := decide_eq_true hz2
            obtain ⟨q, hq⟩ : ∃ q : Nat, q = i - 1 := ⟨_, rfl⟩
            have hqi : (q : Int) < l.length := by omega
            have e1 : wrap64 ((i : Int) - 1) = (q : Int) := by have := HLN.out; unfold wrap64; omega
            obtain ⟨x, hx⟩ : ∃ x, l[q]? = some x := ⟨_, List.getElem?_eq_getElem (by omega)⟩
            have cq := HCL.out w4 _ HN4.out q x hx
            have ci := HCL.out w4 _ HN4.out i p.1 HLI.out
            by_cases he : p.2 = last
            · have heb : (p.2 == last) = true := by simpa using he
              have hlt := HLA.out.2 (by omega) he.symm x (by rw [← hq]; exact hx)
              have g3 : ¬ (p.1 ≤ x) := by omega
              have g3d : decide (p.1 ≤ x) = false := decide_eq_false g3
              clear h0 he hlt hx hq
              go_wp2_with fail
              go_quiet (fail)
              go_wp2_with fail
              go_roundw
              case rel =>
                (try rw [hw])
                obtain ⟨i', last', r1, r2, r3, r4, r5, r6⟩ := HREL.out
                exact ⟨i', last', r1, r2, r3, r4.G (g_drewN _ _), r5, r6⟩
              case measure => (try rw [hw]); simp only [RowKit.intOf]; exact ms2 HIL.out
            · have heb : (p.2 == last) = false := beq_eq_false_iff_ne.2 he
              clear h0 he hx hq
              go_wp2_with fail
              go_quiet (fail)
              go_wp2_with fail
              go_roundw
              case rel =>
                (try rw [hw])
                obtain ⟨i', last', r1, r2, r3, r4, r5, r6⟩ := HREL.out
                exact ⟨i', last', r1, r2, r3, r4.G (g_drewN _ _), r5, r6⟩
              case measure => (try rw [hw]); simp only [RowKit.intOf]; exact ms2 HIL.out
        · have hiI : ¬ ((i : Int) < l.length) := by omega
          have HN5 : Hid (Nb w1 wr w2.heap.size (.slice ma rs.length mc) rs (.slice ea E.length ec) (.slice (some ⟨g, 0, none⟩) l.length lc) E l (1001 + 0)) := by
            obtain ⟨⟨av, gv, bas, gl, h1, h2, h3, h4⟩, h5, h6⟩ := hnb
            exact ⟨⟨av, gv, bas, gl, h1, by have := HLN.out; omega, h3, h4⟩, h5, h6⟩
          clear hnb hla0 hla1 hil hi
          go_wp2_with fail
          go_loopw [17] (fun iv w5 => ∃ i : Nat, iv = I i ∧ i ≤ E.length ∧ Nb w1 w5 w2.heap.size (.slice ma rs.length mc) rs (.slice ea E.length ec) (.slice (some ⟨g, 0, none⟩) l.length lc) E l (1001 + i)) (fun iv _ => E.length - (RowKit.intOf iv).toNat)
          case atStart => exact ⟨0, rfl, Nat.zero_le _, HN5.out⟩
          case round =>
            obtain ⟨i, rfl, hi, hnb⟩ := hrel
            by_cases hil : i < E.length
            · have hiI : (i : Int) < E.length := by omega
              obtain ⟨x, hx⟩ : ∃ x, E[i]? = some x := ⟨_, List.getElem?_eq_getElem hil⟩
              obtain ⟨ge, cape, hee, -, hce, -⟩ := hnb.e.cell (by omega)
              obtain ⟨rfl, rfl⟩ : ea = some ⟨ge, 0, none⟩ ∧ ec = cape := by simp at hee; exact hee
              have HCE : Hid (∀ V m, Nb w1 V w2.heap.size (.slice ma rs.length mc) rs (.slice (some ⟨ge, 0, none⟩) E.length ec) (.slice (some ⟨g, 0, none⟩) l.length lc) E l m → V.cell? ⟨ge, i, none⟩ = some (I x)) := fun V m nb => by
                obtain ⟨g2, cap2, he, -, hc, -⟩ := nb.e.cell (by have := (List.getElem?_eq_some_iff.1 hx).1; omega)
                have : ge = g2 := by simp at he; exact he.1
                subst this
                rw [hc i (by omega), List.getElem?_map, hx]
                rfl
              have HCL : Hid (∀ V m, Nb w1 V w2.heap.size (.slice ma rs.length mc) rs (.slice (some ⟨ge, 0, none⟩) E.length ec) (.slice (some ⟨g, 0, none⟩) l.length lc) E l m → ∀ o x, l[o]? = some x → V.cell? ⟨g, o, none⟩ = some (I x)) := fun V m nb o x ho => by
                obtain ⟨g2, cap2, he, -, hc, -⟩ := nb.l.cell HLP.out
                have : g = g2 := by simp at he; exact he.1
                subst this
                rw [hc o (by have := (List.getElem?_eq_some_iff.1 ho).1; omega), List.getElem?_map, ho]
                rfl
              have ci := HCE.out wr _ hnb
              have HHO := hide (hops_nb w1 wr _ _ rs _ _ E l (1001 + i) from_ x hnb (by have := HE1.out; omega) HF.out HRL2.out HAL3.out HMM.out)
              have HIL := hide hil
              clear hnb hil hx hee hce
              go_wp2_with fail
              refine HHO.out.mono ?_
              rintro e w6 ⟨h, ok, rfl, hok1, hok2, hnb6⟩
              have hin : decide (x ∈ l) = (ok && decide (h ≤ most)) := by
                have hmem : x ∈ l ↔ ∃ p ∈ R.st, p.1 = x := by rw [HL.out]; exact List.mem_map
                cases ok with
                | true =>
                  have hD := hok1 rfl
                  rw [Bool.true_and]
                  refine decide_eq_decide.2 ⟨fun hm => ?_, fun hm => ?_⟩
                  · obtain ⟨p, hp, he⟩ := hmem.1 hm
                    have := HDJ.out.d1 p hp
                    rw [he] at this
                    have e2 := hD.uniq this
                    have := HDJ.out.d12 p (.inl hp)
                    omega
                  · rcases HDJ.out.near_ (by have := HMM.out; rw [← HE.out] at this; exact this) (.inr rfl) hD.1 (.inr hm) with q | ⟨q, hq, -⟩
                    · exact hmem.2 q
                    · simp at hq
                | false =>
                  rw [Bool.false_and]
                  refine decide_eq_false (fun hm => ?_)
                  obtain ⟨p, hp, he⟩ := hmem.1 hm
                  have := (HDJ.out.d1 p hp).1
                  rw [he] at this
                  exact hok2 rfl _ this
              have HIN := hide hin
              have HN6 := hide hnb6
              clear HHO hok1 hok2 hnb6 hin ci
              go_wp2_with fail
              go_loopw [21, 22] (fun bv kv w7 => ∃ k : Nat, kv = I k ∧ bv = .bool (decide (x ∈ l.take k)) ∧ k ≤ l.length ∧ G w6 w7) (fun _ kv _ => l.length - (RowKit.intOf kv).toNat)
              case atStart => exact ⟨0, rfl, by simp, Nat.zero_le _, by first | exact G.refl _ | exact g_drewN _ _⟩
              case round =>
                obtain ⟨k, rfl, rfl, hk, hg7⟩ := hrel
                by_cases hkl : k < l.length
                · have hkI : (k : Int) < l.length := by omega
                  obtain ⟨y, hy⟩ : ∃ y, l[k]? = some y := ⟨_, List.getElem?_eq_getElem hkl⟩
                  have cy := HCL.out wr _ (HN6.out.G hg7) k y hy
                  have cx := HCE.out wr _ (HN6.out.G hg7)
                  have hw : wrap64 ((k : Int) + 1) = (k : Int) + 1 := by have := HLN.out; unfold wrap64; omega
                  have hnx : decide (x ∈ l.take (k + 1)) = (decide (x ∈ l.take k) || (y == x)) := by
                    rw [List.take_add_one, hy]
                    simp [eq_comm, Bool.beq_eq_decide_eq]
                  have HNX := hide hnx
                  have HG7 := hide hg7
                  have HKL := hide hkl
                  obtain ⟨bb, hbb⟩ : ∃ bb, bb = decide (x ∈ l.take k) := ⟨_, rfl⟩
                  rw [← hbb] at HNX ⊢
                  clear hbb hnx hg7 hkl hy hk
                  by_cases hyx : y = x
                  · have hyb : (y == x) = true := by simpa using hyx
                    clear hyx
                    cases bb with
                    | true =>
                      go_wp2_with fail
                      go_quiet (fail)
                      go_wp2_with fail
                      go_roundw
                      case rel =>
                        (try rw [hw])
                        exact ⟨k + 1, by simp, by rw [HNX.out]; simp [hyb], HKL.out, HG7.out.trans (g_drewN _ _)⟩
                      case measure => (try rw [hw]); simp only [RowKit.intOf]; exact ms2 HKL.out
                    | false =>
                      go_wp2_with fail
                      go_quiet (fail)
                      go_wp2_with fail
                      go_roundw
                      case rel =>
                        (try rw [hw])
                        exact ⟨k + 1, by simp, by rw [HNX.out]; simp [hyb], HKL.out, HG7.out.trans (g_drewN _ _)⟩
                      case measure => (try rw [hw]); simp only [RowKit.intOf]; exact ms2 HKL.out
                  · have hyb : (y == x) = false := beq_eq_false_iff_ne.2 hyx
                    clear hyx
                    cases bb with
                    | true =>
                      go_wp2_with fail
                      go_quiet (fail)
                      go_wp2_with fail
                      go_roundw
                      case rel =>
                        (try rw [hw])
                        exact ⟨k + 1, by simp, by rw [HNX.out]; simp [hyb], HKL.out, HG7.out.trans (g_drewN _ _)⟩
                      case measure => (try rw [hw]); simp only [RowKit.intOf]; exact ms2 HKL.out
                    | false =>
                      go_wp2_with fail
                      go_quiet (fail)
                      go_wp2_with fail
                      go_roundw
                      case rel =>
                        (try rw [hw])
                        exact ⟨k + 1, by simp, by rw [HNX.out]; simp [hyb], HKL.out, HG7.out.trans (g_drewN _ _)⟩
                      case measure => (try rw [hw]); simp only [RowKit.intOf]; exact ms2 HKL.out
                · have hkI : ¬ ((k : Int) < l.length) := by omega
                  obtain rfl : k = l.length := by omega
                  rw [List.take_length, HIN.out]
                  have hw : wrap64 ((i : Int) + 1) = (i : Int) + 1 := by have := HE1.out; unfold wrap64; omega
                  have HN8 : Hid (Nb w1 wr w2.heap.size (.slice ma rs.length mc) rs (.slice (some ⟨ge, 0, none⟩) E.length ec) (.slice (some ⟨g, 0, none⟩) l.length lc) E l (1001 + (i + 1))) := HN6.out.G hg7
                  clear hg7 hkl hk
                  by_cases hm : h ≤ most
                  · have hmd : decide (h ≤ most) = true := decide_eq_true hm
                    rw [hmd]
                    cases ok with
                    | true =>
                      rw [Bool.and_true]
                      go_wp2_with fail
                      go_roundw
                      case rel => (try rw [hw]); exact ⟨i + 1, by simp, HIL.out, HN8.out⟩
                      case measure => (try rw [hw]); simp only [RowKit.intOf]; exact ms2 HIL.out
                    | false =>
                      rw [Bool.and_true]
                      go_wp2_with fail
                      go_roundw
                      case rel => (try rw [hw]); exact ⟨i + 1, by simp, HIL.out, HN8.out⟩
                      case measure => (try rw [hw]); simp only [RowKit.intOf]; exact ms2 HIL.out
                  · have hmd : decide (h ≤ most) = false := decide_eq_false hm
                    rw [hmd, Bool.and_false]
                    cases ok with
                    | true =>
                      go_wp2_with fail
                      go_roundw
                      case rel => (try rw [hw]); exact ⟨i + 1, by simp, HIL.out, HN8.out⟩
                      case measure => (try rw [hw]); simp only [RowKit.intOf]; exact ms2 HIL.out
                    | false =>
                      go_wp2_with fail
                      go_roundw
                      case rel => (try rw [hw]); exact ⟨i + 1, by simp, HIL.out, HN8.out⟩
                      case measure => (try rw [hw]); simp only [RowKit.intOf]; exact ms2 HIL.out
            · have hiI : ¬ ((i : Int) < E.length) := by omega
              have HGE := hide (HG1.out.trans hnb.g)
              clear hnb hil hi
              go_wp2_with fail
              go_ret
              exact ⟨rfl, HGE.out⟩
end Go.Proofs.YtcbjcienjolceaaDoor
