/- PathsTogether: the walk. -/
import Derived.Test.YtemkilffagjmcaaDoorQa3
import Derived.Test.YtemkilffagjmcaaDoorPx3
namespace Go.Proofs.YtemkilffagjmcaaDoor
open Go.RowKit

theorem zero_ok {y : Int} (h : R64 y) : Ar.ok (0, y, 0) := ⟨by show R64 0; unfold R64; omega, h, by show R64 0; unfold R64; omega⟩
theorem rows_sum {rs : List Nr} (h : (rs.map fun r => r.arcs.length + 1).sum ≤ 1048576) : ((rs.map mildN).map fun r => r.arcs.length).sum ≤ 1048576 := by
  rw [List.map_map]
  have e : ((fun r : Nr => r.arcs.length) ∘ mildN) = fun r => r.arcs.length := by funext r; simp [mildN]
  rw [e]
  have : ∀ l : List Nr, (l.map fun r => r.arcs.length).sum ≤ (l.map fun r => r.arcs.length + 1).sum := fun l => by
    induction l with
    | nil => simp
    | cons r l ih => simp only [List.map_cons, List.sum_cons]; omega
  exact Nat.le_trans (this rs) h
theorem cnt_a {i k n : Nat} (hi : i < n) (hk : k ≤ n) (hn : n ≤ 200) : i * 201 + 1 + k ≤ 100000 := by omega
theorem cnt_b {i n : Nat} (hn : n ≤ 200) : i * 201 + 1 + n ≤ (i + 1) * 201 := by omega
theorem cnt_c {i n : Nat} (hi : i < n) (hn : n ≤ 200) : i * 201 ≤ 100000 := by omega
set_option maxRecDepth 100000 in
set_option maxHeartbeats 4000000 in
theorem together_law (W : World) (rv : Value) (rs0 : List Nr) (la : Option Addr) (lc : Nat) (nodes : List Int) (hN : Nrs W rv rs0) (hM : Mk W) (hrl : rs0.length ≤ 1048576) (hal : ∀ r ∈ rs0, r.arcs.length ≤ 1048576) (hsum : (rs0.map fun r => r.arcs.length + 1).sum ≤ 1048576) (hI : Ids W (.slice la nodes.length lc) nodes) (hnl : nodes.length ≤ 1048576) :
    Calls Tryd.prog 5 #[rv, .slice la nodes.length lc] W fun e W' => e = .returned (.bool true) ∧ G W W' := by
  obtain ⟨rva, rvc, hrv⟩ : ∃ a c, rv = .slice a rs0.length c := by obtain ⟨a, c, e, _⟩ := hN; exact ⟨a, c, e⟩
  have HMI := hide (mild_any W rv rs0 hN hrl hal)
  subst hrv
  have HM := hide hM
  have HI := hide hI
  have hal2 : ∀ r ∈ rs0.map mildN, r.arcs.length ≤ 1048576 := fun r hr => by
    obtain ⟨q, hq, rfl⟩ := List.mem_map.1 hr
    have := hal q hq
    simpa [mildN] using this
  have HT := hide (rows_sum hsum)
  have HRL : Hid ((rs0.map mildN).length ≤ 1048576) := by show _ ≤ _; rw [List.length_map]; exact hrl
  have HC0 : Hid (∀ id, (netOf (rs0.map mildN) false id).2 = 0) := mild_code
  clear hM hN hal hrl hI hsum
  generalize hrs : rs0.map mildN = rs at *
  have HAL : Hid (∀ id, (netOf rs false id).1.length ≤ 1048576) := fun id => by
    unfold netOf
    split
    · rename_i r hr
      split
      · exact hal2 r (List.mem_of_find?_eq_some hr)
      · simp
    · simp
  clear hal2 hrs
  by_cases he1 : 200 < nodes.length
  · have he2 : (200 : Int) < nodes.length := by omega
    have he3 : decide ((200 : Int) < nodes.length) = true := decide_eq_true he2
    clear he1
    go_enter Tryd.func5, Tryd.ntmps5
    go_wp2_with fail
    go_ret
    exact ⟨rfl, G.refl _⟩
  have he2 : ¬ ((200 : Int) < nodes.length) := by omega
  have he3 : decide ((200 : Int) < nodes.length) = false := decide_eq_false he2
  have HE1 : Hid (nodes.length ≤ 200) := Nat.le_of_not_lt he1
  clear he1
  by_cases hr1 : 200 < rs0.length
  · have hr2 : (200 : Int) < rs0.length := by omega
    have hr3 : decide ((200 : Int) < rs0.length) = true := decide_eq_true hr2
    clear hr1
    go_enter Tryd.func5, Tryd.ntmps5
    go_wp2_with fail
    go_ret
    exact ⟨rfl, G.refl _⟩
  have hr2 : ¬ ((200 : Int) < rs0.length) := by omega
  have hr3 : decide ((200 : Int) < rs0.length) = false := decide_eq_false hr2
  have HNL := hide hnl
  clear hr1 hnl
  go_enter Tryd.func5, Tryd.ntmps5
  go_wp2_with fail
  refine HMI.out.mono ?_
  rintro e w1 ⟨mv, L0, rfl, hro, hmp, hg1⟩
  have hll : L0.length = rs.length := by rw [← hmp, List.length_map]
  obtain ⟨ma, mc, hmv⟩ := Rw.form hro.row
  rw [hll] at hmv
  subst hmv
  have hnr := hro.nrs
  rw [hmp] at hnr
  have HNR := hide hnr
  have HG1 := hide hg1
  have gN : G w1 (w1.alloc (.cells #[.slice ma rs.length mc, .bool false] 26)) := (G.refl w1).alloc _
  have gZ : G (w1.alloc (.cells #[.slice ma rs.length mc, .bool false] 26)) ((w1.alloc (.cells #[.slice ma rs.length mc, .bool false] 26)).alloc (.cells #[.slice none 0 0, .bool false] 26)) := (G.refl _).alloc _
  have HGN := hide gN
  have HBN := hide (Blk.new w1 [.slice ma rs.length mc, .bool false] 26)
  have hbz := Blk.new (w1.alloc (.cells #[.slice ma rs.length mc, .bool false] 26)) [.slice none 0 0, .bool false] 26
  have HRS : Hid (Rbs (w1.alloc (.cells #[.slice ma rs.length mc, .bool false] 26)) ((w1.alloc (.cells #[.slice ma rs.length mc, .bool false] 26)).alloc (.cells #[.slice none 0 0, .bool false] 26)) (w1.alloc (.cells #[.slice ma rs.length mc, .bool false] 26)).heap.size (.slice none 0 0) []) := ⟨gZ, hbz, ⟨Rw.nil _ _ _ _, fun p hp => by simp at hp⟩, Nat.le_refl _⟩
  rw [World.size_alloc] at HRS
  clear hro hmp hg1 hnr HMI hll gN gZ hbz
  go_wp2_with fail
  generalize ((w1.alloc (.cells #[.slice ma rs.length mc, .bool false] 26)).alloc (.cells #[.slice none 0 0, .bool false] 26)) = w3 at *
  generalize w1.alloc (.cells #[.slice ma rs.length mc, .bool false] 26) = w2 at *
  obtain ⟨bn, hbn⟩ : ∃ bn, bn = w1.heap.size := ⟨_, rfl⟩
  obtain ⟨bb, hbb⟩ : ∃ bb, bb = w1.heap.size + 1 := ⟨_, rfl⟩
  rw [← hbb] at HRS ⊢
  rw [← hbn] at HBN ⊢
  clear hbb hbn
  have HCELL : Hid (∀ V, G w2 V → ∀ (o : Nat) x, nodes[o]? = some x → ∀ lb lo, la = some ⟨lb, lo, none⟩ → V.cell? ⟨lb, lo + o, none⟩ = some (I x)) := fun V gV o x ho lb lo e => by
    obtain ⟨lb', lo', e', c⟩ := (HI.out.G (HG1.out.trans (HGN.out.trans gV))).cellAt ho
    rw [e] at e'
    simp only [Option.some.injEq, Addr.mk.injEq] at e'
    obtain ⟨rfl, rfl, -⟩ := e'
    exact c
  have HLA : Hid (∀ (o : Nat) x, nodes[o]? = some x → ∃ lb lo, la = some ⟨lb, lo, none⟩) := fun o x ho => by
    obtain ⟨lb', lo', e', c⟩ := HI.out.cellAt ho
    exact ⟨lb', lo', e'⟩
  go_loopw [7] (fun iv wr => ∃ (i : Nat) (L : List (Nr × Value)) (ov : Value), iv = I i ∧ i ≤ nodes.length ∧ Rbs w2 wr bb ov L ∧ L.map (·.1) = (nodes.take i).map (bothR rs nodes)) (fun iv _ => nodes.length - (RowKit.intOf iv).toNat)
  case atStart => exact ⟨0, [], _, rfl, Nat.zero_le _, HRS.out, rfl⟩
  case round =>
    obtain ⟨i, L, ov, rfl, hi, hrs, hmp⟩ := hrel
    obtain ⟨oa, oc, rfl⟩ := Rw.form hrs.r.row
    have hlk : L.length = i := by have := congrArg List.length hmp; simpa [Nat.min_eq_left hi] using this
    have HRSI := hide hrs
    have HMP := hide hmp
    have HLK := hide hlk
    clear hrs hmp hlk HRS
    by_cases hil : i < nodes.length
    · have hiI : (i : Int) < nodes.length := Int.ofNat_lt.2 hil
      obtain ⟨x, hx⟩ : ∃ x, nodes[i]? = some x := ⟨_, List.getElem?_eq_getElem hil⟩
      obtain ⟨lb, lo, rfl⟩ := HLA.out i x hx
      have HCELL2 : Hid (∀ V, G w2 V → ∀ (o : Nat) x, nodes[o]? = some x → V.cell? ⟨lb, lo + o, none⟩ = some (I x)) := fun V gV o x ho => HCELL.out V gV o x ho lb lo rfl
      have cx := HCELL2.out wr HRSI.out.g i x hx
      have hwi : wrap64 ((i : Int) + 1) = (i : Int) + 1 := wone6 i (Nat.le_trans (Nat.le_of_lt hil) HNL.out)
      have HX := hide hx
      have HIL := hide hil
      have HRB0 : Hid (Rb wr (wr.alloc (.cells #[I x, .slice none 0 0, I 0] 51)) wr.heap.size x (.slice none 0 0) []) := ⟨(G.refl wr).alloc _, Blk.new wr [I x, .slice none 0 0, I 0] 51, Rw.nil _ _ _ _, fun a ha => by simp at ha, Nat.le_refl _⟩
      have HG20 : Hid (G w2 wr) := HRSI.out.g
      have HG10 : Hid (G w1 wr) := HGN.out.trans HRSI.out.g
      clear hi hil hx HCELL HLA
      go_wp2_with fail
      generalize wr.alloc (.cells #[I x, .slice none 0 0, I 0] 51) = wq at *
      obtain ⟨br, hbr⟩ : ∃ br, br = wr.heap.size := ⟨_, rfl⟩
      rw [← hbr] at HRB0 ⊢
      obtain ⟨wr0, hwr0⟩ : ∃ wr0, wr0 = wr := ⟨_, rfl⟩
      rw [← hwr0] at HRB0 HG20 HG10 HRSI
      clear hbr hwr0 cx
      have HCELL := HCELL2
      clear HCELL2
      obtain ⟨A, hA⟩ : ∃ A, A = (netOf rs false x).1 := ⟨_, rfl⟩
      have HAL1 : Hid (A.length ≤ 1048576) := by rw [hA]; exact HAL.out x
      have AE := hide hA
      clear hA
      go_loopw [9] (fun kv wi => ∃ (k : Nat) (va : Value) (C : List Ar), kv = I k ∧ k ≤ nodes.length ∧ C = bothA rs x (nodes.take k) ∧ Rb wr0 wi br x va C) (fun kv _ => nodes.length - (RowKit.intOf kv).toNat)
      case atStart => exact ⟨0, _, [], rfl, Nat.zero_le _, rfl, HRB0.out⟩
      case round =>
        obtain ⟨k, va0, C0, rfl, hk, hC0, hrb⟩ := hrel
        by_cases hkl : k < nodes.length
        · have hkI : (k : Int) < nodes.length := Int.ofNat_lt.2 hkl
          obtain ⟨y, hy⟩ : ∃ y, nodes[k]? = some y := ⟨_, List.getElem?_eq_getElem hkl⟩
          have hwk : wrap64 ((k : Int) + 1) = (k : Int) + 1 := wone6 k (Nat.le_trans (Nat.le_of_lt hkl) HNL.out)
          have hiI2 : (i : Int) < nodes.length := Int.ofNat_lt.2 HIL.out
          have HYR : Hid (R64 y) := HI.out.ok y (List.mem_of_getElem? hy)
          have HC0L : Hid (C0.length ≤ 419430400) := by
            show _ ≤ _
            rw [hC0]
            have h1 := bothA_len x (nodes.take k) 1048576 HAL.out
            have h2 : (nodes.take k).length ≤ 200 := by rw [List.length_take]; have := HE1.out; omega
            have h3 : (nodes.take k).length * (2 * 1048576) ≤ 200 * (2 * 1048576) := Nat.mul_le_mul_right _ h2
            omega
          have HY := hide hy
          have HKL := hide hkl
          have HC0E := hide hC0
          have HRB1 := hide hrb
          have HGW : Hid (G w1 wr) := HG10.out.trans hrb.g
          have HG2W : Hid (G w2 wr) := HG20.out.trans hrb.g
          clear hk hC0 hrb hkl
          obtain ⟨M, hM⟩ : ∃ M, M = (netOf rs false y).1 := ⟨_, rfl⟩
          have HML1 : Hid (M.length ≤ 1048576) := by rw [hM]; exact HAL.out y
          have ME := hide hM
          clear hM
          have HOF := hide (of_anyF w1 wr.drew (.slice ma rs.length mc) rs false x HNR.out (HGW.out.trans (G.drew (G.refl _))) rfl HRL.out)
          rw [← AE.out] at HOF
          have HALL : Hid (∀ V, G wr V → (fun V => (∀ o, V.cell? ⟨bn, o, none⟩ = ([.slice ma rs.length mc, .bool false] : List Value)[o]?) ∧ V.cell? ⟨lb, lo + i, none⟩ = some (I x)) V) := fun V gV => ⟨(HBN.out.G (HG2W.out.trans gV)).cell, HCELL.out V (HG2W.out.trans gV) i x HX.out⟩
          obtain ⟨code, hcode⟩ : ∃ code, code = (netOf rs false x).2 := ⟨_, rfl⟩
          rw [← hcode] at HOF
          clear hcode
          go_wp2_with fail
          refine wp_region_noPanic ?_
          refine wp_region_held_drew (S := (fun V => (∀ o, V.cell? ⟨bn, o, none⟩ = ([.slice ma rs.length mc, .bool false] : List Value)[o]?) ∧ V.cell? ⟨lb, lo + i, none⟩ = some (I x))) (by kernel_rfl) (HALL.out _ (G.drew (G.refl _))) (fun hHeld => ?_)
          refine wpAnyH_take (i := 0) (v := ?_) rfl (by kernel_rfl) (by kernel_rfl) (by kernel_rfl) (fun _ _ _ h => h) (Or.inl ⟨by rfl, ?_⟩) hHeld ?_
          rotate_left 1
          · (intro w hSw; obtain ⟨q1, q2⟩ := hSw; go_simp; try with_reducible rfl)
          try simp only [Act.put, List.getElem_toArray, List.getElem_cons_zero, List.setIfInBounds_toArray, List.set_cons_zero, List.set_cons_succ]
          refine wpAnyH_take (i := 1) (v := ?_) rfl (by kernel_rfl) (by kernel_rfl) (by kernel_rfl) (fun _ _ _ h => h) (Or.inl ⟨by rfl, ?_⟩) hHeld ?_
          rotate_left 1
          · (intro w hSw; obtain ⟨q1, q2⟩ := hSw; go_simp; try with_reducible rfl)
          try simp only [Act.put, List.getElem_toArray, List.getElem_cons_zero, List.getElem_cons_succ, List.setIfInBounds_toArray, List.set_cons_zero, List.set_cons_succ]
          refine wpAnyH_take (i := 2) (v := ?_) rfl (by kernel_rfl) (by kernel_rfl) (by kernel_rfl) (fun _ _ _ h => h) (Or.inl ⟨by rfl, ?_⟩) hHeld ?_
          rotate_left 1
          · (intro w hSw; obtain ⟨q1, q2⟩ := hSw; go_simp; try with_reducible rfl)
          try simp only [Act.put, List.getElem_toArray, List.getElem_cons_zero, List.getElem_cons_succ, List.setIfInBounds_toArray, List.set_cons_zero, List.set_cons_succ]
          refine wpAnyH_take (i := 3) (v := ?_) rfl (by kernel_rfl) (by kernel_rfl) (by kernel_rfl) (fun _ _ _ h => h) (Or.inl ⟨by rfl, ?_⟩) hHeld ?_
          rotate_left 1
          · (intro w hSw; obtain ⟨q1, q2⟩ := hSw; go_simp; try with_reducible rfl)
          try simp only [Act.put, List.getElem_toArray, List.getElem_cons_zero, List.getElem_cons_succ, List.setIfInBounds_toArray, List.set_cons_zero, List.set_cons_succ]
          refine wpAnyH_take (i := 4) (v := ?_) rfl (by kernel_rfl) (by kernel_rfl) (by kernel_rfl) (fun _ _ _ h => h) (Or.inl ⟨by rfl, ?_⟩) hHeld ?_
          rotate_left 1
          · (intro w hSw; obtain ⟨q1, q2⟩ := hSw; go_simp; try with_reducible rfl)
          try simp only [Act.put, List.getElem_toArray, List.getElem_cons_zero, List.getElem_cons_succ, List.setIfInBounds_toArray, List.set_cons_zero, List.set_cons_succ]
          refine wpAnyH_ready (rs := [5]) (by kernel_rfl) (by simp) (AllReadyH.cons rfl (fun K hK => ?_) AllReadyH.nil)
          clear hHeld
          go_simp
          refine HOF.out.mono ?_
          rintro e w5 ⟨lv5, rfl, har, hg5⟩
          have HG5 := hide (G.trans (G.drew (G.refl wr)) hg5)
          obtain ⟨la5, lc5, rfl⟩ : ∃ la lc, lv5 = .slice la A.length lc := by obtain ⟨q1, q2, q3, -⟩ := har.at_; exact ⟨q1, q2, q3⟩
          have HAA := hide har
          clear hg5 har
          go_wp2_with fail
          refine hK.out _ _ (HALL.out _ HG5.out) (fun hHeld => ?_)
          clear hK K
          try simp only [Act.put, List.getElem_toArray, List.getElem_cons_zero, List.getElem_cons_succ, List.setIfInBounds_toArray, List.set_cons_zero, List.set_cons_succ]
          refine wpAnyH_take (i := 6) (v := ?_) rfl (by kernel_rfl) (by kernel_rfl) (by kernel_rfl) (fun _ _ _ h => h) (Or.inl ⟨by rfl, ?_⟩) hHeld ?_
          rotate_left 1
          · (intro w hSw; (try dsimp only at hSw); go_simp; try with_reducible rfl)
          try simp only [Act.put, List.getElem_toArray, List.getElem_cons_zero, List.getElem_cons_succ, List.setIfInBounds_toArray, List.set_cons_zero, List.set_cons_succ]
          refine wpAnyH_take (i := 7) (v := ?_) rfl (by kernel_rfl) (by kernel_rfl) (by kernel_rfl) (fun _ _ _ h => h) (Or.inl ⟨by rfl, ?_⟩) hHeld ?_
          rotate_left 1
          · (intro w hSw; (try dsimp only at hSw); go_simp; try with_reducible rfl)
          try simp only [Act.put, List.getElem_toArray, List.getElem_cons_zero, List.getElem_cons_succ, List.setIfInBounds_toArray, List.set_cons_zero, List.set_cons_succ]
          refine wpAnyH_take (i := 8) (v := ?_) rfl (by kernel_rfl) (by kernel_rfl) (by kernel_rfl) (fun _ _ _ h => h) (Or.inl ⟨by rfl, ?_⟩) hHeld ?_
          rotate_left 1
          · (intro w hSw; (try dsimp only at hSw); go_simp; try with_reducible rfl)
          try simp only [Act.put, List.getElem_toArray, List.getElem_cons_zero, List.getElem_cons_succ, List.setIfInBounds_toArray, List.set_cons_zero, List.set_cons_succ]
          refine wpAnyH_take (i := 9) (v := ?_) rfl (by kernel_rfl) (by kernel_rfl) (by kernel_rfl) (fun _ _ _ h => h) (Or.inl ⟨by rfl, ?_⟩) hHeld ?_
          rotate_left 1
          · (intro w hSw; (try dsimp only at hSw); go_simp; try with_reducible rfl)
          try simp only [Act.put, List.getElem_toArray, List.getElem_cons_zero, List.getElem_cons_succ, List.setIfInBounds_toArray, List.set_cons_zero, List.set_cons_succ]
          refine wpAnyH_take (i := 10) (v := ?_) rfl (by kernel_rfl) (by kernel_rfl) (by kernel_rfl) (fun _ _ _ h => h) (Or.inl ⟨by rfl, ?_⟩) hHeld ?_
          rotate_left 1
          · (intro w hSw; (try dsimp only at hSw); go_simp; try with_reducible rfl)
          try simp only [Act.put, List.getElem_toArray, List.getElem_cons_zero, List.getElem_cons_succ, List.setIfInBounds_toArray, List.set_cons_zero, List.set_cons_succ]
          refine wpAnyH_done (by kernel_rfl) ?_ _
          refine NoPanic.normal ?_
          clear HOF HALL
          have HRBS := hide (HRB1.out.G HG5.out)
          clear HRB1 HG5 HGW HG2W
          go_wp2_with fail
          go_loopw [12] (fun jv wj => ∃ (j : Nat) (va : Value) (C : List Ar), jv = I j ∧ j ≤ A.length ∧ C = C0 ++ outs (A.take j) y ∧ Rb wr0 wj br x va C) (fun jv _ => A.length - (RowKit.intOf jv).toNat)
          case atStart => exact ⟨0, _, C0, rfl, Nat.zero_le _, by simp [outs], HRBS.out⟩
          case round =>
            obtain ⟨j, va, C, rfl, hj, hC, hrb⟩ := hrel
            obtain ⟨a2, c2, rfl⟩ := Rw.form hrb.r
            have HCL : Hid (C.length < 1073741824) := by
              show _ < _
              rw [hC, List.length_append]
              have h1 := HC0L.out
              have h2 := outs_len (A.take j) y
              have h3 := HAL1.out
              rw [List.length_take] at h2
              omega
            by_cases hjl : j < A.length
            · have hjI : (j : Int) < A.length := Int.ofNat_lt.2 hjl
              obtain ⟨⟨ye, yt, yw⟩, hz⟩ : ∃ z, A[j]? = some z := ⟨_, List.getElem?_eq_getElem hjl⟩
              obtain ⟨-, ab, aoff, rfl, -⟩ := HAA.out.get hz
              have HARC0 : Hid (∀ V, G w1 V → V.cell? ⟨ab, aoff + j * 3, none⟩ = some (I ye) ∧ V.cell? ⟨ab, aoff + j * 3 + 1, none⟩ = some (I yt) ∧ V.cell? ⟨ab, aoff + j * 3 + 2, none⟩ = some (I yw)) := fun V gV => by
                obtain ⟨-, ab', aoff', e, y1, y2, y3, -⟩ := (HAA.out.G gV).get hz
                simp only [Option.some.injEq, Addr.mk.injEq] at e
                obtain ⟨rfl, rfl, -⟩ := e
                exact ⟨y1, y2, y3⟩
              have hG1 : G w1 wr := HG10.out.trans hrb.g
              obtain ⟨-, y2, -⟩ := HARC0.out wr hG1
              have cn := HCELL.out wr (HG20.out.trans hrb.g) k y HY.out
              have hwj : wrap64 ((j : Int) + 1) = (j : Int) + 1 := wone6 j (Nat.le_trans (Nat.le_of_lt hjl) HAL1.out)
              have HTK := hide (outs_take (y := y) hz)
              have HCE := hide hC
              have HRB := hide hrb
              have HJL := hide hjl
              have HOKA : Hid (Ar.ok (ye, yt, yw)) := HAA.out.ok _ (List.mem_of_getElem? hz)
              clear hj hC hrb hjl hG1
              by_cases hyx : yt = y
              · have hyb : (yt == y) = true := by simpa using hyx
                have HCN : Hid (C ++ [(ye, yt, yw)] = C0 ++ outs (A.take (j + 1)) y) := by
                  show _ = _
                  rw [HTK.out, if_pos hyx, HCE.out, List.append_assoc]
                clear hyx
                go_wp2_with fail
                go_quiet (fail)
                go_wp2_with fail
                generalize hwd : World.drewN wr _ = wd
                have HGD : Hid (G wr wd) := by rw [← hwd]; exact g_drewN _ _
                have HRBD := hide (HRB.out.G HGD.out)
                have HARC : Hid (∀ V, G wr0 V → V.cell? ⟨ab, aoff + j * 3, none⟩ = some (I ye) ∧ V.cell? ⟨ab, aoff + j * 3 + 1, none⟩ = some (I yt) ∧ V.cell? ⟨ab, aoff + j * 3 + 2, none⟩ = some (I yw)) := fun V gV => HARC0.out V (HG10.out.trans gV)
                have HALL : Hid (∀ V, G wd V → (fun V => (∀ o, V.cell? ⟨br, o, none⟩ = ([I x, .slice a2 C.length c2, I 0] : List Value)[o]?) ∧ V.cell? ⟨ab, aoff + j * 3, none⟩ = some (I ye) ∧ V.cell? ⟨ab, aoff + j * 3 + 1, none⟩ = some (I yt) ∧ V.cell? ⟨ab, aoff + j * 3 + 2, none⟩ = some (I yw)) V) := fun V gV => ⟨((HRBD.out.G gV).b).cell, HARC.out V (HRBD.out.g.trans gV)⟩
                clear hwd y2 cn HRB HGD
                refine wp_region_noPanic ?_
                refine wp_region_L (S := (fun V => (∀ o, V.cell? ⟨br, o, none⟩ = ([I x, .slice a2 C.length c2, I 0] : List Value)[o]?) ∧ V.cell? ⟨ab, aoff + j * 3, none⟩ = some (I ye) ∧ V.cell? ⟨ab, aoff + j * 3 + 1, none⟩ = some (I yt) ∧ V.cell? ⟨ab, aoff + j * 3 + 2, none⟩ = some (I yw))) 9 (by kernel_rfl) (HALL.out _ (G.drew (G.refl _))) (fun hHeld => ?_)
                refine wpAnyL_take (i := 0) (v := ?_) rfl (by kernel_rfl) (by kernel_rfl) (by kernel_rfl) (by kernel_rfl) (fun _ _ _ h => h) (Or.inl ⟨by rfl, ?_⟩) hHeld ?_
                rotate_left 1
                · (intro w hSw; obtain ⟨q1, q2, q3, q4⟩ := hSw; go_simp; try with_reducible rfl)
                try simp only [Act.put, List.getElem_toArray, List.getElem_cons_zero, List.setIfInBounds_toArray, List.set_cons_zero, List.set_cons_succ]
                refine wpAnyL_take (i := 1) (v := ?_) rfl (by kernel_rfl) (by kernel_rfl) (by kernel_rfl) (by kernel_rfl) (fun _ _ _ h => h) (Or.inl ⟨by rfl, ?_⟩) hHeld ?_
                rotate_left 1
                · (intro w hSw; obtain ⟨q1, q2, q3, q4⟩ := hSw; go_simp; try with_reducible rfl)
                try simp only [Act.put, List.getElem_toArray, List.getElem_cons_zero, List.getElem_cons_succ, List.setIfInBounds_toArray, List.set_cons_zero, List.set_cons_succ]
                refine wpAnyL_take (i := 2) (v := ?_) rfl (by kernel_rfl) (by kernel_rfl) (by kernel_rfl) (by kernel_rfl) (fun _ _ _ h => h) (Or.inl ⟨by rfl, ?_⟩) hHeld ?_
                rotate_left 1
                · (intro w hSw; obtain ⟨q1, q2, q3, q4⟩ := hSw; go_simp; try with_reducible rfl)
                try simp only [Act.put, List.getElem_toArray, List.getElem_cons_zero, List.getElem_cons_succ, List.setIfInBounds_toArray, List.set_cons_zero, List.set_cons_succ]
                refine wpAnyL_take (i := 3) (v := ?_) rfl (by kernel_rfl) (by kernel_rfl) (by kernel_rfl) (by kernel_rfl) (fun _ _ _ h => h) (Or.inl ⟨by rfl, ?_⟩) hHeld ?_
                rotate_left 1
                · (intro w hSw; obtain ⟨q1, q2, q3, q4⟩ := hSw; go_simp; try with_reducible rfl)
                try simp only [Act.put, List.getElem_toArray, List.getElem_cons_zero, List.getElem_cons_succ, List.setIfInBounds_toArray, List.set_cons_zero, List.set_cons_succ]
                refine wpAnyL_take (i := 4) (v := ?_) rfl (by kernel_rfl) (by kernel_rfl) (by kernel_rfl) (by kernel_rfl) (fun _ _ _ h => h) (Or.inl ⟨by rfl, ?_⟩) hHeld ?_
                rotate_left 1
                · (intro w hSw; obtain ⟨q1, q2, q3, q4⟩ := hSw; go_simp; try with_reducible rfl)
                try simp only [Act.put, List.getElem_toArray, List.getElem_cons_zero, List.getElem_cons_succ, List.setIfInBounds_toArray, List.set_cons_zero, List.set_cons_succ]
                refine wpAnyL_take (i := 5) (v := ?_) rfl (by kernel_rfl) (by kernel_rfl) (by kernel_rfl) (by kernel_rfl) (fun _ _ _ h => h) (Or.inl ⟨by rfl, ?_⟩) hHeld ?_
                rotate_left 1
                · (intro w hSw; obtain ⟨q1, q2, q3, q4⟩ := hSw; go_simp; try with_reducible rfl)
                try simp only [Act.put, List.getElem_toArray, List.getElem_cons_zero, List.getElem_cons_succ, List.setIfInBounds_toArray, List.set_cons_zero, List.set_cons_succ]
                refine wpAnyL_one (i := 6) (by kernel_rfl) rfl (by kernel_rfl) (fun K hK => ?_)
                clear hHeld
                go_simp
                have HG6 : Hid (G wd (wd.alloc (.cells #[I ye, I yt, I yw] 40)).drew) := ((G.refl wd).alloc _).drew
                have HC6 : Hid (∀ j u, ([I ye, I yt, I yw] : List Value)[j]? = some u → (wd.alloc (.cells #[I ye, I yt, I yw] 40)).drew.cell? ((⟨wd.heap.size, 0, none⟩ : Addr).add j) = some u) := cell_new wd [I ye, I yt, I yw] 40
                generalize (wd.alloc (.cells #[I ye, I yt, I yw] 40)).drew = w6 at HG6 HC6 ⊢
                refine hK.out _ _ (HALL.out _ HG6.out) (fun hHeld => ?_)
                clear hK K
                try simp only [Act.put, List.getElem_toArray, List.getElem_cons_zero, List.getElem_cons_succ, List.setIfInBounds_toArray, List.set_cons_zero, List.set_cons_succ]
                refine wpAnyL_one (i := 7) (by kernel_rfl) rfl (by kernel_rfl) (fun K hK => ?_)
                clear hHeld
                obtain ⟨v7, w7, hrun, hb7, hrb7, hg7⟩ := (HRBD.out.G HG6.out).add (ye, yt, yw) HOKA.out HCL.out ⟨wd.heap.size, 0, none⟩ HC6.out
                obtain ⟨va7, vc7, rfl⟩ := Rw.form hrb7.r
                have HB7 := hide hb7
                have HRB7 := hide hrb7
                have HG7 := hide hg7
                refine (if_pos rfl).mpr ?_
                refine wp_of_exec (exec_append _ _ 37 rfl (.slice a2 C.length c2) (.slice (some ⟨wd.heap.size, 0, none⟩) 1 1) rfl rfl 37 rfl hrun) ?_
                clear hrun hb7 hrb7 hg7
                refine hK.out _ _ (⟨HB7.out.cell, HARC.out _ HG7.out⟩) (fun hHeld => ?_)
                clear hK K
                try simp only [Act.put, List.getElem_toArray, List.getElem_cons_zero, List.getElem_cons_succ, List.setIfInBounds_toArray, List.set_cons_zero, List.set_cons_succ]
                refine wpAnyL_take (i := 8) (v := ?_) rfl (by kernel_rfl) (by kernel_rfl) (by kernel_rfl) (by kernel_rfl) (fun _ _ _ h => h) (Or.inl ⟨by rfl, ?_⟩) hHeld ?_
                rotate_left 1
                · (intro w hSw; obtain ⟨q1, q2, q3, q4⟩ := hSw; go_simp; try with_reducible rfl)
                try simp only [Act.put, List.getElem_toArray, List.getElem_cons_zero, List.getElem_cons_succ, List.setIfInBounds_toArray, List.set_cons_zero, List.set_cons_succ]
                refine wpAnyL_last (by kernel_rfl) rfl (by kernel_rfl) (fun K hK => ?_)
                clear hHeld
                have hc7 := HB7.out.cell
                have hz7 := HB7.out.frozen
                go_simp
                refine hK.out _ _ ?_
                clear hK K
                refine NoPanic.normal ?_
                clear HRBD HARC HALL
                have HRB8 : Hid (∃ (j' : Nat) (va : Value) (C' : List Ar), I ((j : Int) + 1) = I j' ∧ j' ≤ A.length ∧ C' = C0 ++ outs (A.take j') y ∧ Rb wr0 (w7.setCell ⟨br, 1, none⟩ (.slice va7 (C.length + 1) vc7)) br x va C') := ⟨j + 1, _, C ++ [(ye, yt, yw)], by simp, HJL.out, HCN.out, by have h := HRB7.out; rw [List.length_append] at h; exact h⟩
                go_wp2_with fail
                go_roundw
                case rel => (try rw [hwj]); exact HRB8.out
                case measure => (try rw [hwj]); simp only [RowKit.intOf]; exact ms5 HJL.out
              · have hyb : (yt == y) = false := beq_eq_false_iff_ne.2 hyx
                have HCN : Hid (C = C0 ++ outs (A.take (j + 1)) y) := by
                  show _ = _
                  rw [HTK.out, if_neg hyx, List.append_nil]
                  exact HCE.out
                clear hyx
                go_wp2_with fail
                go_quiet (fail)
                go_wp2_with fail
                go_roundw
                case rel => (try rw [hwj]); exact ⟨j + 1, _, C, by simp, HJL.out, HCN.out, HRB.out.G (g_drewN _ _)⟩
                case measure => (try rw [hwj]); simp only [RowKit.intOf]; exact ms5 HJL.out
            · have hjI : ¬ ((j : Int) < A.length) := fun h => hjl (Int.ofNat_lt.1 h)
              obtain rfl : j = A.length := Nat.le_antisymm hj (Nat.le_of_not_lt hjl)
              rw [List.take_length] at hC
              have HC1L : Hid (C.length ≤ 420478976) := by
                show _ ≤ _
                rw [hC, List.length_append]
                have h1 := HC0L.out
                have h2 := outs_len A y
                have h3 := HAL1.out
                omega
              obtain ⟨C1, hC1⟩ : ∃ C1, C1 = C := ⟨_, rfl⟩
              have HC1E : Hid (C1 = C0 ++ outs A y) := by show _ = _; rw [hC1, hC]
              have HRB1 : Hid (Rb wr0 wr br x (.slice a2 C1.length c2) C1) := by rw [hC1]; exact hrb
              rw [← hC1] at HC1L
              have HGW : Hid (G w1 wr) := HG10.out.trans hrb.g
              have HG2W : Hid (G w2 wr) := HG20.out.trans hrb.g
              clear hj hC hrb hjl hC1 HCL
              have HOF := hide (of_anyF w1 wr.drew (.slice ma rs.length mc) rs false y HNR.out (HGW.out.trans (G.drew (G.refl _))) rfl HRL.out)
              rw [← ME.out] at HOF
              have HALL : Hid (∀ V, G wr V → (fun V => (∀ o, V.cell? ⟨bn, o, none⟩ = ([.slice ma rs.length mc, .bool false] : List Value)[o]?) ∧ V.cell? ⟨lb, lo + k, none⟩ = some (I y)) V) := fun V gV => ⟨(HBN.out.G (HG2W.out.trans gV)).cell, HCELL.out V (HG2W.out.trans gV) k y HY.out⟩
              obtain ⟨code, hcode⟩ : ∃ code, code = (netOf rs false y).2 := ⟨_, rfl⟩
              rw [← hcode] at HOF
              clear hcode
              go_wp2_with fail
              refine wp_region_noPanic ?_
              refine wp_region_held_drew (S := (fun V => (∀ o, V.cell? ⟨bn, o, none⟩ = ([.slice ma rs.length mc, .bool false] : List Value)[o]?) ∧ V.cell? ⟨lb, lo + k, none⟩ = some (I y))) (by kernel_rfl) (HALL.out _ (G.drew (G.refl _))) (fun hHeld => ?_)
              refine wpAnyH_take (i := 0) (v := ?_) rfl (by kernel_rfl) (by kernel_rfl) (by kernel_rfl) (fun _ _ _ h => h) (Or.inl ⟨by rfl, ?_⟩) hHeld ?_
              rotate_left 1
              · (intro w hSw; obtain ⟨q1, q2⟩ := hSw; go_simp; try with_reducible rfl)
              try simp only [Act.put, List.getElem_toArray, List.getElem_cons_zero, List.setIfInBounds_toArray, List.set_cons_zero, List.set_cons_succ]
              refine wpAnyH_take (i := 1) (v := ?_) rfl (by kernel_rfl) (by kernel_rfl) (by kernel_rfl) (fun _ _ _ h => h) (Or.inl ⟨by rfl, ?_⟩) hHeld ?_
              rotate_left 1
              · (intro w hSw; obtain ⟨q1, q2⟩ := hSw; go_simp; try with_reducible rfl)
              try simp only [Act.put, List.getElem_toArray, List.getElem_cons_zero, List.getElem_cons_succ, List.setIfInBounds_toArray, List.set_cons_zero, List.set_cons_succ]
              refine wpAnyH_take (i := 2) (v := ?_) rfl (by kernel_rfl) (by kernel_rfl) (by kernel_rfl) (fun _ _ _ h => h) (Or.inl ⟨by rfl, ?_⟩) hHeld ?_
              rotate_left 1
              · (intro w hSw; obtain ⟨q1, q2⟩ := hSw; go_simp; try with_reducible rfl)
              try simp only [Act.put, List.getElem_toArray, List.getElem_cons_zero, List.getElem_cons_succ, List.setIfInBounds_toArray, List.set_cons_zero, List.set_cons_succ]
              refine wpAnyH_take (i := 3) (v := ?_) rfl (by kernel_rfl) (by kernel_rfl) (by kernel_rfl) (fun _ _ _ h => h) (Or.inl ⟨by rfl, ?_⟩) hHeld ?_
              rotate_left 1
              · (intro w hSw; obtain ⟨q1, q2⟩ := hSw; go_simp; try with_reducible rfl)
              try simp only [Act.put, List.getElem_toArray, List.getElem_cons_zero, List.getElem_cons_succ, List.setIfInBounds_toArray, List.set_cons_zero, List.set_cons_succ]
              refine wpAnyH_take (i := 4) (v := ?_) rfl (by kernel_rfl) (by kernel_rfl) (by kernel_rfl) (fun _ _ _ h => h) (Or.inl ⟨by rfl, ?_⟩) hHeld ?_
              rotate_left 1
              · (intro w hSw; obtain ⟨q1, q2⟩ := hSw; go_simp; try with_reducible rfl)
              try simp only [Act.put, List.getElem_toArray, List.getElem_cons_zero, List.getElem_cons_succ, List.setIfInBounds_toArray, List.set_cons_zero, List.set_cons_succ]
              refine wpAnyH_ready (rs := [5]) (by kernel_rfl) (by simp) (AllReadyH.cons rfl (fun K hK => ?_) AllReadyH.nil)
              clear hHeld
              go_simp
              refine HOF.out.mono ?_
              rintro e w5 ⟨lv5, rfl, har, hg5⟩
              have HG5 := hide (G.trans (G.drew (G.refl wr)) hg5)
              obtain ⟨la5, lc5, rfl⟩ : ∃ la lc, lv5 = .slice la M.length lc := by obtain ⟨q1, q2, q3, -⟩ := har.at_; exact ⟨q1, q2, q3⟩
              have HAM := hide har
              clear hg5 har
              go_wp2_with fail
              refine hK.out _ _ (HALL.out _ HG5.out) (fun hHeld => ?_)
              clear hK K
              try simp only [Act.put, List.getElem_toArray, List.getElem_cons_zero, List.getElem_cons_succ, List.setIfInBounds_toArray, List.set_cons_zero, List.set_cons_succ]
              refine wpAnyH_take (i := 6) (v := ?_) rfl (by kernel_rfl) (by kernel_rfl) (by kernel_rfl) (fun _ _ _ h => h) (Or.inl ⟨by rfl, ?_⟩) hHeld ?_
              rotate_left 1
              · (intro w hSw; (try dsimp only at hSw); go_simp; try with_reducible rfl)
              try simp only [Act.put, List.getElem_toArray, List.getElem_cons_zero, List.getElem_cons_succ, List.setIfInBounds_toArray, List.set_cons_zero, List.set_cons_succ]
              refine wpAnyH_take (i := 7) (v := ?_) rfl (by kernel_rfl) (by kernel_rfl) (by kernel_rfl) (fun _ _ _ h => h) (Or.inl ⟨by rfl, ?_⟩) hHeld ?_
              rotate_left 1
              · (intro w hSw; (try dsimp only at hSw); go_simp; try with_reducible rfl)
              try simp only [Act.put, List.getElem_toArray, List.getElem_cons_zero, List.getElem_cons_succ, List.setIfInBounds_toArray, List.set_cons_zero, List.set_cons_succ]
              refine wpAnyH_take (i := 8) (v := ?_) rfl (by kernel_rfl) (by kernel_rfl) (by kernel_rfl) (fun _ _ _ h => h) (Or.inl ⟨by rfl, ?_⟩) hHeld ?_
              rotate_left 1
              · (intro w hSw; (try dsimp only at hSw); go_simp; try with_reducible rfl)
              try simp only [Act.put, List.getElem_toArray, List.getElem_cons_zero, List.getElem_cons_succ, List.setIfInBounds_toArray, List.set_cons_zero, List.set_cons_succ]
              refine wpAnyH_take (i := 9) (v := ?_) rfl (by kernel_rfl) (by kernel_rfl) (by kernel_rfl) (fun _ _ _ h => h) (Or.inl ⟨by rfl, ?_⟩) hHeld ?_
              rotate_left 1
              · (intro w hSw; (try dsimp only at hSw); go_simp; try with_reducible rfl)
              try simp only [Act.put, List.getElem_toArray, List.getElem_cons_zero, List.getElem_cons_succ, List.setIfInBounds_toArray, List.set_cons_zero, List.set_cons_succ]
              refine wpAnyH_take (i := 10) (v := ?_) rfl (by kernel_rfl) (by kernel_rfl) (by kernel_rfl) (fun _ _ _ h => h) (Or.inl ⟨by rfl, ?_⟩) hHeld ?_
              rotate_left 1
              · (intro w hSw; (try dsimp only at hSw); go_simp; try with_reducible rfl)
              try simp only [Act.put, List.getElem_toArray, List.getElem_cons_zero, List.getElem_cons_succ, List.setIfInBounds_toArray, List.set_cons_zero, List.set_cons_succ]
              refine wpAnyH_done (by kernel_rfl) ?_ _
              refine NoPanic.normal ?_
              clear HOF HALL
              have HRBS := hide (HRB1.out.G HG5.out)
              clear HRB1 HG5 HGW HG2W
              go_wp2_with fail
              go_loopw [15] (fun jv wj => ∃ (j : Nat) (va : Value) (C : List Ar), jv = I j ∧ j ≤ M.length ∧ C = C1 ++ ins (M.take j) x y ∧ Rb wr0 wj br x va C) (fun jv _ => M.length - (RowKit.intOf jv).toNat)
              case atStart => exact ⟨0, _, C1, rfl, Nat.zero_le _, by simp [ins], HRBS.out⟩
              case round =>
                obtain ⟨j, va, C, rfl, hj, hC, hrb⟩ := hrel
                obtain ⟨a2, c2, rfl⟩ := Rw.form hrb.r
                have HCL : Hid (C.length < 1073741824) := by
                  show _ < _
                  rw [hC, List.length_append]
                  have h1 := HC1L.out
                  have h2 := ins_len (M.take j) x y
                  have h3 := HML1.out
                  rw [List.length_take] at h2
                  omega
                by_cases hjl : j < M.length
                · have hjI : (j : Int) < M.length := Int.ofNat_lt.2 hjl
                  obtain ⟨⟨ye, yt, yw⟩, hz⟩ : ∃ z, M[j]? = some z := ⟨_, List.getElem?_eq_getElem hjl⟩
                  obtain ⟨-, ab, aoff, rfl, -⟩ := HAM.out.get hz
                  have HARC0 : Hid (∀ V, G w1 V → V.cell? ⟨ab, aoff + j * 3, none⟩ = some (I ye) ∧ V.cell? ⟨ab, aoff + j * 3 + 1, none⟩ = some (I yt) ∧ V.cell? ⟨ab, aoff + j * 3 + 2, none⟩ = some (I yw)) := fun V gV => by
                    obtain ⟨-, ab', aoff', e, y1, y2, y3, -⟩ := (HAM.out.G gV).get hz
                    simp only [Option.some.injEq, Addr.mk.injEq] at e
                    obtain ⟨rfl, rfl, -⟩ := e
                    exact ⟨y1, y2, y3⟩
                  have hG1 : G w1 wr := HG10.out.trans hrb.g
                  obtain ⟨-, y2, -⟩ := HARC0.out wr hG1
                  have cn := HCELL.out wr (HG20.out.trans hrb.g) i x HX.out
                  have hwj : wrap64 ((j : Int) + 1) = (j : Int) + 1 := wone6 j (Nat.le_trans (Nat.le_of_lt hjl) HML1.out)
                  have HTK := hide (ins_take (x := x) (y := y) hz)
                  have HCE := hide hC
                  have HRB := hide hrb
                  have HJL := hide hjl
                  have HOKA : Hid (Ar.ok (0, y, 0)) := zero_ok HYR.out
                  clear hj hC hrb hjl hG1
                  by_cases hyx : yt = x
                  · have hyb : (yt == x) = true := by simpa using hyx
                    have HCN : Hid (C ++ [(0, y, 0)] = C1 ++ ins (M.take (j + 1)) x y) := by
                      show _ = _
                      rw [HTK.out, if_pos hyx, HCE.out, List.append_assoc]
                    clear hyx
                    go_wp2_with fail
                    go_quiet (fail)
                    go_wp2_with fail
                    generalize hwd : World.drewN wr _ = wd
                    have HGD : Hid (G wr wd) := by rw [← hwd]; exact g_drewN _ _
                    have HRBD := hide (HRB.out.G HGD.out)
                    have HARC : Hid (∀ V, G wr0 V → V.cell? ⟨lb, lo + k, none⟩ = some (I y)) := fun V gV => HCELL.out V (HG20.out.trans gV) k y HY.out
                    have HALL : Hid (∀ V, G wd V → (fun V => (∀ o, V.cell? ⟨br, o, none⟩ = ([I x, .slice a2 C.length c2, I 0] : List Value)[o]?) ∧ V.cell? ⟨lb, lo + k, none⟩ = some (I y)) V) := fun V gV => ⟨((HRBD.out.G gV).b).cell, HARC.out V (HRBD.out.g.trans gV)⟩
                    clear hwd y2 cn HRB HGD
                    refine wp_region_noPanic ?_
                    refine wp_region_L (S := (fun V => (∀ o, V.cell? ⟨br, o, none⟩ = ([I x, .slice a2 C.length c2, I 0] : List Value)[o]?) ∧ V.cell? ⟨lb, lo + k, none⟩ = some (I y))) 10 (by kernel_rfl) (HALL.out _ (G.drew (G.refl _))) (fun hHeld => ?_)
                    refine wpAnyL_take (i := 0) (v := ?_) rfl (by kernel_rfl) (by kernel_rfl) (by kernel_rfl) (by kernel_rfl) (fun _ _ _ h => h) (Or.inl ⟨by rfl, ?_⟩) hHeld ?_
                    rotate_left 1
                    · (intro w hSw; obtain ⟨q1, q2⟩ := hSw; go_simp; try with_reducible rfl)
                    try simp only [Act.put, List.getElem_toArray, List.getElem_cons_zero, List.setIfInBounds_toArray, List.set_cons_zero, List.set_cons_succ]
                    refine wpAnyL_take (i := 1) (v := ?_) rfl (by kernel_rfl) (by kernel_rfl) (by kernel_rfl) (by kernel_rfl) (fun _ _ _ h => h) (Or.inl ⟨by rfl, ?_⟩) hHeld ?_
                    rotate_left 1
                    · (intro w hSw; obtain ⟨q1, q2⟩ := hSw; go_simp; try with_reducible rfl)
                    try simp only [Act.put, List.getElem_toArray, List.getElem_cons_zero, List.getElem_cons_succ, List.setIfInBounds_toArray, List.set_cons_zero, List.set_cons_succ]
                    refine wpAnyL_take (i := 2) (v := ?_) rfl (by kernel_rfl) (by kernel_rfl) (by kernel_rfl) (by kernel_rfl) (fun _ _ _ h => h) (Or.inl ⟨by rfl, ?_⟩) hHeld ?_
                    rotate_left 1
                    · (intro w hSw; obtain ⟨q1, q2⟩ := hSw; go_simp; try with_reducible rfl)
                    try simp only [Act.put, List.getElem_toArray, List.getElem_cons_zero, List.getElem_cons_succ, List.setIfInBounds_toArray, List.set_cons_zero, List.set_cons_succ]
                    refine wpAnyL_take (i := 3) (v := ?_) rfl (by kernel_rfl) (by kernel_rfl) (by kernel_rfl) (by kernel_rfl) (fun _ _ _ h => h) (Or.inl ⟨by rfl, ?_⟩) hHeld ?_
                    rotate_left 1
                    · (intro w hSw; obtain ⟨q1, q2⟩ := hSw; go_simp; try with_reducible rfl)
                    try simp only [Act.put, List.getElem_toArray, List.getElem_cons_zero, List.getElem_cons_succ, List.setIfInBounds_toArray, List.set_cons_zero, List.set_cons_succ]
                    refine wpAnyL_take (i := 4) (v := ?_) rfl (by kernel_rfl) (by kernel_rfl) (by kernel_rfl) (by kernel_rfl) (fun _ _ _ h => h) (Or.inl ⟨by rfl, ?_⟩) hHeld ?_
                    rotate_left 1
                    · (intro w hSw; obtain ⟨q1, q2⟩ := hSw; go_simp; try with_reducible rfl)
                    try simp only [Act.put, List.getElem_toArray, List.getElem_cons_zero, List.getElem_cons_succ, List.setIfInBounds_toArray, List.set_cons_zero, List.set_cons_succ]
                    refine wpAnyL_take (i := 5) (v := ?_) rfl (by kernel_rfl) (by kernel_rfl) (by kernel_rfl) (by kernel_rfl) (fun _ _ _ h => h) (Or.inl ⟨by rfl, ?_⟩) hHeld ?_
                    rotate_left 1
                    · (intro w hSw; obtain ⟨q1, q2⟩ := hSw; go_simp; try with_reducible rfl)
                    try simp only [Act.put, List.getElem_toArray, List.getElem_cons_zero, List.getElem_cons_succ, List.setIfInBounds_toArray, List.set_cons_zero, List.set_cons_succ]
                    refine wpAnyL_take (i := 6) (v := ?_) rfl (by kernel_rfl) (by kernel_rfl) (by kernel_rfl) (by kernel_rfl) (fun _ _ _ h => h) (Or.inl ⟨by rfl, ?_⟩) hHeld ?_
                    rotate_left 1
                    · (intro w hSw; obtain ⟨q1, q2⟩ := hSw; go_simp; try with_reducible rfl)
                    try simp only [Act.put, List.getElem_toArray, List.getElem_cons_zero, List.getElem_cons_succ, List.setIfInBounds_toArray, List.set_cons_zero, List.set_cons_succ]
                    refine wpAnyL_one (i := 7) (by kernel_rfl) rfl (by kernel_rfl) (fun K hK => ?_)
                    clear hHeld
                    go_simp
                    have HG6 : Hid (G wd (wd.alloc (.cells #[I 0, I y, I 0] 40)).drew) := ((G.refl wd).alloc _).drew
                    have HC6 : Hid (∀ j u, ([I 0, I y, I 0] : List Value)[j]? = some u → (wd.alloc (.cells #[I 0, I y, I 0] 40)).drew.cell? ((⟨wd.heap.size, 0, none⟩ : Addr).add j) = some u) := cell_new wd [I 0, I y, I 0] 40
                    generalize (wd.alloc (.cells #[I 0, I y, I 0] 40)).drew = w6 at HG6 HC6 ⊢
                    refine hK.out _ _ (HALL.out _ HG6.out) (fun hHeld => ?_)
                    clear hK K
                    try simp only [Act.put, List.getElem_toArray, List.getElem_cons_zero, List.getElem_cons_succ, List.setIfInBounds_toArray, List.set_cons_zero, List.set_cons_succ]
                    refine wpAnyL_one (i := 8) (by kernel_rfl) rfl (by kernel_rfl) (fun K hK => ?_)
                    clear hHeld
                    obtain ⟨v7, w7, hrun, hb7, hrb7, hg7⟩ := (HRBD.out.G HG6.out).add (0, y, 0) HOKA.out HCL.out ⟨wd.heap.size, 0, none⟩ HC6.out
                    obtain ⟨va7, vc7, rfl⟩ := Rw.form hrb7.r
                    have HB7 := hide hb7
                    have HRB7 := hide hrb7
                    have HG7 := hide hg7
                    refine (if_pos rfl).mpr ?_
                    refine wp_of_exec (exec_append _ _ 37 rfl (.slice a2 C.length c2) (.slice (some ⟨wd.heap.size, 0, none⟩) 1 1) rfl rfl 37 rfl hrun) ?_
                    clear hrun hb7 hrb7 hg7
                    refine hK.out _ _ (⟨HB7.out.cell, HARC.out _ HG7.out⟩) (fun hHeld => ?_)
                    clear hK K
                    try simp only [Act.put, List.getElem_toArray, List.getElem_cons_zero, List.getElem_cons_succ, List.setIfInBounds_toArray, List.set_cons_zero, List.set_cons_succ]
                    refine wpAnyL_take (i := 9) (v := ?_) rfl (by kernel_rfl) (by kernel_rfl) (by kernel_rfl) (by kernel_rfl) (fun _ _ _ h => h) (Or.inl ⟨by rfl, ?_⟩) hHeld ?_
                    rotate_left 1
                    · (intro w hSw; obtain ⟨q1, q2⟩ := hSw; go_simp; try with_reducible rfl)
                    try simp only [Act.put, List.getElem_toArray, List.getElem_cons_zero, List.getElem_cons_succ, List.setIfInBounds_toArray, List.set_cons_zero, List.set_cons_succ]
                    refine wpAnyL_last (by kernel_rfl) rfl (by kernel_rfl) (fun K hK => ?_)
                    clear hHeld
                    have hc7 := HB7.out.cell
                    have hz7 := HB7.out.frozen
                    go_simp
                    refine hK.out _ _ ?_
                    clear hK K
                    refine NoPanic.normal ?_
                    clear HRBD HARC HALL
                    have HRB8 : Hid (∃ (j' : Nat) (va : Value) (C' : List Ar), I ((j : Int) + 1) = I j' ∧ j' ≤ M.length ∧ C' = C1 ++ ins (M.take j') x y ∧ Rb wr0 (w7.setCell ⟨br, 1, none⟩ (.slice va7 (C.length + 1) vc7)) br x va C') := ⟨j + 1, _, C ++ [(0, y, 0)], by simp, HJL.out, HCN.out, by have h := HRB7.out; rw [List.length_append] at h; exact h⟩
                    go_wp2_with fail
                    go_roundw
                    case rel => (try rw [hwj]); exact HRB8.out
                    case measure => (try rw [hwj]); simp only [RowKit.intOf]; exact ms5 HJL.out
                  · have hyb : (yt == x) = false := beq_eq_false_iff_ne.2 hyx
                    have HCN : Hid (C = C1 ++ ins (M.take (j + 1)) x y) := by
                      show _ = _
                      rw [HTK.out, if_neg hyx, List.append_nil]
                      exact HCE.out
                    clear hyx
                    go_wp2_with fail
                    go_quiet (fail)
                    go_wp2_with fail
                    go_roundw
                    case rel => (try rw [hwj]); exact ⟨j + 1, _, C, by simp, HJL.out, HCN.out, HRB.out.G (g_drewN _ _)⟩
                    case measure => (try rw [hwj]); simp only [RowKit.intOf]; exact ms5 HJL.out
                · have hjI : ¬ ((j : Int) < M.length) := fun h => hjl (Int.ofNat_lt.1 h)
                  obtain rfl : j = M.length := Nat.le_antisymm hj (Nat.le_of_not_lt hjl)
                  rw [List.take_length] at hC
                  have HREL : Hid (∃ (k' : Nat) (va : Value) (C' : List Ar), I ((k : Int) + 1) = I k' ∧ k' ≤ nodes.length ∧ C' = bothA rs x (nodes.take k') ∧ Rb wr0 wr br x va C') := by
                    refine ⟨k + 1, _, C, by simp, HKL.out, ?_, hrb⟩
                    rw [bothA_take HY.out, hC, HC1E.out, HC0E.out, AE.out, ME.out, List.append_assoc]
                  clear hj hC hrb hjl HCL
                  go_wp2_with fail
                  go_roundw
                  case rel => (try rw [hwk]); exact HREL.out
                  case measure => (try rw [hwk]); simp only [RowKit.intOf]; exact ms5 HKL.out
        · have hkI : ¬ ((k : Int) < nodes.length) := fun h => hkl (Int.ofNat_lt.1 h)
          obtain rfl : k = nodes.length := Nat.le_antisymm hk (Nat.le_of_not_lt hkl)
          rw [List.take_length] at hC0
          obtain ⟨va, vc, rfl⟩ := Rw.form hrb.r
          have hRW : (bothR rs nodes x).arcs = C0 := hC0.symm
          have gA : G wr (wr.alloc (.cells #[I x, .slice va C0.length vc, I 0] 51)) := (G.refl wr).alloc _
          have hbr := hrb.b.cell
          have hbb := (HRSI.out.b.G hrb.g).cell
          obtain ⟨v', w', q1, q2, q3⟩ := ((HRSI.out.G hrb.g).G gA).add (bothR rs nodes x) (.slice va C0.length vc) rfl (by rw [hRW]; exact Rw.base (Rw.G hrb.r gA) HG20.out.size) (by rw [hRW]; exact hrb.ok) (HI.out.ok x (List.mem_of_getElem? HX.out)) (by have := HLK.out; have := HIL.out; have := HE1.out; omega) ⟨wr.heap.size, 0, none⟩ rfl (fun o u ho => by rw [Addr.add_mid, Nat.zero_add, (Blk.new wr [I x, .slice va C0.length vc, I 0] 51).cell]; exact ho)
          obtain ⟨va9, vc9, rfl⟩ := Rw.form q3.r.row
          have HRUN := hide q1
          have hbc := q2.cell
          have hbz := q2.frozen
          have HREL : Hid (∃ (i' : Nat) (L' : List (Nr × Value)) (ov : Value), I ((i : Int) + 1) = I i' ∧ i' ≤ nodes.length ∧ Rbs w2 (w'.setCell ⟨bb, 0, none⟩ (.slice va9 (L.length + 1) vc9)) bb ov L' ∧ L'.map (·.1) = (nodes.take i').map (bothR rs nodes)) := by
            rw [List.length_append] at q3
            refine ⟨i + 1, _, _, by simp, HIL.out, q3, ?_⟩
            rw [List.map_append, HMP.out, List.take_add_one, HX.out, List.map_append]
            rfl
          clear hk hC0 hrb hkl q1 q2 q3 gA hRW
          go_wp2_with (first | (at_builtin; refine wpList_append_run rfl _ _ 22 rfl (.slice oa L.length oc) (.slice (some ⟨wr.heap.size, 0, none⟩) 1 1) rfl rfl HRUN.out ?_) | fail)
          go_roundw
          case rel => (try rw [hwi]); exact HREL.out
          case measure => (try rw [hwi]); simp only [RowKit.intOf]; exact ms5 HIL.out
    · have hiI : ¬ ((i : Int) < nodes.length) := fun h => hil (Int.ofNat_lt.1 h)
      obtain rfl : i = nodes.length := Nat.le_antisymm hi (Nat.le_of_not_lt hil)
      have hmp := HMP.out
      rw [List.take_length] at hmp
      obtain ⟨B, hB⟩ : ∃ B, B = nodes.map (bothR rs nodes) := ⟨_, rfl⟩
      rw [← hB] at hmp
      have hLB : L.length = B.length := by rw [← hmp, List.length_map]
      rw [hLB] at HRSI
      have hnrB := HRSI.out.r.nrs
      rw [hmp] at hnrB
      have HNRB := hide hnrB
      have HBE := hide hB
      have HBRL : Hid (B.length ≤ 1048576) := by show _ ≤ _; rw [hB, List.length_map]; exact HNL.out
      have HBAL : Hid (∀ id, (netOf B false id).1.length ≤ 1073741824) := fun id => by rw [hB]; exact Nat.le_trans (both_len 1048576 HAL.out HE1.out id) (by decide)
      have HBSUM : Hid (∀ st : List Sn, (st.map (·.1)).Nodup → st.length ≤ 4096 → (st.map fun p => (netOf B false p.1).1.length).sum ≤ 8589934592) := fun st h _ => by rw [hB]; exact both_sum HT.out HAL.out HE1.out st h
      have HMILD : Hid (Mild true B false nodes) := by rw [hB]; exact both_mild (Nat.le_trans HE1.out (by decide))
      have c2 := (HBN.out.G HRSI.out.g).cell
      have gS : G wr (wr.alloc (.cells #[.slice ma rs.length mc, .bool false, .slice none 0 0, .slice none 0 0] 30)) := (G.refl wr).alloc _
      have HG2R := hide HRSI.out.g
      have HBBR := hide HRSI.out.b
      have HGW := hide (HG1.out.trans (HGN.out.trans HRSI.out.g))
      have HGS := hide gS
      have HBS := hide (Blk.new wr [.slice ma rs.length mc, .bool false, .slice none 0 0, .slice none 0 0] 30)
      have HCP := hide (copy_any (wr.alloc (.cells #[.slice ma rs.length mc, .bool false, .slice none 0 0, .slice none 0 0] 30)) _ nodes (HI.out.G (HGW.out.trans gS)) (by have := HNL.out; omega))
      have HNR2 := hide (HNR.out.G (HGN.out.trans HRSI.out.g))
      clear hi hil hmp hB hLB hnrB gS HMP HLK HRSI
      go_wp2_with fail
      refine HCP.out.mono ?_
      rintro e w4 ⟨cv, rfl, hrc, hg4⟩
      obtain ⟨ca, cc, rfl⟩ := Rw.form hrc
      have hsn : Shn wr w4 wr.heap.size (.slice ma rs.length mc) rs false (.slice none 0 0) (.slice none 0 0) [] [] :=
        ⟨HGS.out.trans hg4, HBS.out.G hg4, Rw.nil _ _ _ _, Rw.nil _ _ _ _, rfl, fun i id v h => by simp at h, HNR2.out, Nat.le_refl _, HM.out.G HGW.out⟩
      have HRCI := hide hrc
      have HPA := hide (partp_any wr w4 wr.heap.size (.slice ma rs.length mc) rs false _ _ [] [] (by simp) hsn HRL.out HAL.out _ nodes (Rw.ids hrc HI.out.ok) HNL.out (eachL nodes) (eachL_up nodes) (fun _ => eachL_mem) (fun w' av' k => Rw.ids (Rw.askO HRCI.out k (fun b _ => noown b)) HI.out.ok))
      clear hrc hg4 hsn HCP c2 HRCI
      go_wp2_with fail
      refine HPA.out.mono ?_
      rintro e w5 ⟨out, code, asked, av5, gv5, gl5, nv5, hR, rfl, hr5, hsn5, -, -, -⟩
      obtain ⟨rfl, pf, hpts, hout⟩ := hR.says (Nat.le_trans HE1.out (by decide)) HC0.out
      have hol : out.length = nodes.length := by rw [hout, List.length_map]
      rw [hol] at hr5
      have HR5 := hide hr5
      have HPTS : Hid (Pts nodes B pf) := by rw [HBE.out]; exact hpts
      have HOUT := hide hout
      have HG5 := hide hsn5.g
      obtain ⟨na, nc, rfl⟩ := Rw.form hr5
      have c5 := (HBBR.out.G hsn5.g).cell
      obtain ⟨ov, hov⟩ : ∃ ov, ov = Value.slice oa B.length oc := ⟨_, rfl⟩
      rw [← hov] at HNRB
      have hsh2 : Shn w5 (w5.alloc (.cells #[.slice oa B.length oc, .bool false, .slice none 0 0, .slice none 0 0] 30)) w5.heap.size ov B false (.slice none 0 0) (.slice none 0 0) [] [] :=
        ⟨(G.refl w5).alloc _, by rw [hov]; exact Blk.new w5 [.slice oa B.length oc, .bool false, .slice none 0 0, .slice none 0 0] 30, Rw.nil _ _ _ _, Rw.nil _ _ _ _, rfl, fun i id v h => by simp at h, HNRB.out.G hsn5.g, Nat.le_refl _, HM.out.G (HGW.out.trans hsn5.g)⟩
      have HHS0 : Hid (Hs w5 (w5.alloc (.cells #[.slice oa B.length oc, .bool false, .slice none 0 0, .slice none 0 0] 30)) w5.heap.size ov B 0) := ⟨_, _, _, _, hsh2, by simp⟩
      clear hR hr5 hsn5 hpts hout hol hsh2 hov HPA
      go_wp2_with fail
      generalize w5.alloc (.cells #[.slice oa B.length oc, .bool false, .slice none 0 0, .slice none 0 0] 30) = w6 at *
      obtain ⟨sh2, hsh2⟩ : ∃ sh2, sh2 = w5.heap.size := ⟨_, rfl⟩
      rw [← hsh2] at HHS0 ⊢
      clear hsh2 c5
      go_loopw [20] (fun iv wr => ∃ i : Nat, iv = I i ∧ i ≤ nodes.length ∧ Hs w5 wr sh2 ov B (i * 201)) (fun iv _ => nodes.length - (RowKit.intOf iv).toNat)
      case atStart => exact ⟨0, rfl, Nat.zero_le _, HHS0.out⟩
      case round =>
        obtain ⟨i, rfl, hi, hhs⟩ := hrel
        by_cases hil : i < nodes.length
        · have hiI : (i : Int) < nodes.length := Int.ofNat_lt.2 hil
          obtain ⟨x, hx⟩ : ∃ x, nodes[i]? = some x := ⟨_, List.getElem?_eq_getElem hil⟩
          obtain ⟨lb, lo, rfl⟩ := HLA.out i x hx
          have HCELL5 : Hid (∀ V, G w5 V → ∀ (o : Nat) x, nodes[o]? = some x → V.cell? ⟨lb, lo + o, none⟩ = some (I x)) := fun V gV o x ho => HCELL.out V (HG2R.out.trans (HG5.out.trans gV)) o x ho lb lo rfl
          obtain ⟨pg, pcap, hpe, -, -⟩ := HR5.out.cell (Nat.zero_lt_of_lt hil)
          obtain ⟨rfl, rfl⟩ : na = some ⟨pg, 0, none⟩ ∧ nc = pcap := by simp at hpe; exact hpe
          have HCP5 : Hid (∀ V, G w5 V → ∀ (o : Nat) x, nodes[o]? = some x → V.cell? ⟨pg, o, none⟩ = some (I (pf x))) := fun V gV o x ho => by
            have hop := (List.getElem?_eq_some_iff.1 ho).1
            obtain ⟨g2, cap2, he, -, hc, -⟩ := (Rw.G HR5.out gV).cell (Nat.zero_lt_of_lt hop)
            have : pg = g2 := by simp at he; exact he.1
            subst this
            rw [hc o (by rw [Nat.mul_one]; exact hop), HOUT.out, List.getElem?_map, List.getElem?_map, ho]
            rfl
          have hwi : wrap64 ((i : Int) + 1) = (i : Int) + 1 := wone6 i (Nat.le_trans (Nat.le_of_lt hil) HNL.out)
          have hxm : x ∈ nodes := List.mem_of_getElem? hx
          have HXM := hide hxm
          have HX := hide hx
          have HIL := hide hil
          have HHS := hide hhs
          have HPXM := hide (HPTS.out.inn x hxm)
          have hle : ¬ (x < pf x) := Int.not_lt.2 (HPTS.out.le x hxm)
          have hled : decide (x < pf x) = false := decide_eq_false hle
          have HPN : Hid (∀ V, G w5 V → (fun V => V.cell? ⟨pg, i, none⟩ = some (I (pf x)) ∧ V.cell? ⟨lb, lo + i, none⟩ = some (I x)) V) := fun V gV => ⟨HCP5.out V gV i x hx, HCELL5.out V gV i x hx⟩
          have HHO := hide (hops_tg w5 wr.drew sh2 ov B nodes (i * 201) (pf x) x (hhs.G (G.drew (G.refl _))) (cnt_c hil HE1.out) (HI.out.ok _ (HPTS.out.inn x hxm)) HBRL.out HBAL.out HBSUM.out HMILD.out (HPTS.out.inn x hxm))
          clear hi hhs hil hx hxm hpe HHS0
          go_wp2_with fail
          refine wp_region_noPanic ?_
          refine wp_region_held_drew (S := (fun V => V.cell? ⟨pg, i, none⟩ = some (I (pf x)) ∧ V.cell? ⟨lb, lo + i, none⟩ = some (I x))) (by kernel_rfl) (HPN.out _ (HHS.out.g.trans (G.drew (G.refl _)))) (fun hHeld => ?_)
          refine wpAnyH_take (i := 0) (v := ?_) rfl (by kernel_rfl) (by kernel_rfl) (by kernel_rfl) (fun _ _ _ h => h) (Or.inl ⟨by rfl, ?_⟩) hHeld ?_
          rotate_left 1
          · (intro w hSw; obtain ⟨q1, q2⟩ := hSw; go_simp; try with_reducible rfl)
          try simp only [Act.put, List.getElem_toArray, List.getElem_cons_zero, List.setIfInBounds_toArray, List.set_cons_zero, List.set_cons_succ]
          refine wpAnyH_take (i := 1) (v := ?_) rfl (by kernel_rfl) (by kernel_rfl) (by kernel_rfl) (fun _ _ _ h => h) (Or.inl ⟨by rfl, ?_⟩) hHeld ?_
          rotate_left 1
          · (intro w hSw; obtain ⟨q1, q2⟩ := hSw; go_simp; try with_reducible rfl)
          try simp only [Act.put, List.getElem_toArray, List.getElem_cons_zero, List.getElem_cons_succ, List.setIfInBounds_toArray, List.set_cons_zero, List.set_cons_succ]
          refine wpAnyH_take (i := 2) (v := ?_) rfl (by kernel_rfl) (by kernel_rfl) (by kernel_rfl) (fun _ _ _ h => h) (Or.inl ⟨by rfl, ?_⟩) hHeld ?_
          rotate_left 1
          · (intro w hSw; obtain ⟨q1, q2⟩ := hSw; go_simp; try with_reducible rfl)
          try simp only [Act.put, List.getElem_toArray, List.getElem_cons_zero, List.getElem_cons_succ, List.setIfInBounds_toArray, List.set_cons_zero, List.set_cons_succ]
          refine wpAnyH_take (i := 3) (v := ?_) rfl (by kernel_rfl) (by kernel_rfl) (by kernel_rfl) (fun _ _ _ h => h) (Or.inl ⟨by rfl, ?_⟩) hHeld ?_
          rotate_left 1
          · (intro w hSw; obtain ⟨q1, q2⟩ := hSw; go_simp; try with_reducible rfl)
          try simp only [Act.put, List.getElem_toArray, List.getElem_cons_zero, List.getElem_cons_succ, List.setIfInBounds_toArray, List.set_cons_zero, List.set_cons_succ]
          refine wpAnyH_take (i := 4) (v := ?_) rfl (by kernel_rfl) (by kernel_rfl) (by kernel_rfl) (fun _ _ _ h => h) (Or.inl ⟨by rfl, ?_⟩) hHeld ?_
          rotate_left 1
          · (intro w hSw; obtain ⟨q1, q2⟩ := hSw; go_simp; try with_reducible rfl)
          try simp only [Act.put, List.getElem_toArray, List.getElem_cons_zero, List.getElem_cons_succ, List.setIfInBounds_toArray, List.set_cons_zero, List.set_cons_succ]
          refine wpAnyH_take (i := 5) (v := ?_) rfl (by kernel_rfl) (by kernel_rfl) (by kernel_rfl) (fun _ _ _ h => h) (Or.inl ⟨by rfl, ?_⟩) hHeld ?_
          rotate_left 1
          · (intro w hSw; obtain ⟨q1, q2⟩ := hSw; go_simp; try with_reducible rfl)
          try simp only [Act.put, List.getElem_toArray, List.getElem_cons_zero, List.getElem_cons_succ, List.setIfInBounds_toArray, List.set_cons_zero, List.set_cons_succ]
          refine wpAnyH_take (i := 6) (v := ?_) rfl (by kernel_rfl) (by kernel_rfl) (by kernel_rfl) (fun _ _ _ h => h) (Or.inl ⟨by rfl, ?_⟩) hHeld ?_
          rotate_left 1
          · (intro w hSw; obtain ⟨q1, q2⟩ := hSw; go_simp; try with_reducible rfl)
          try simp only [Act.put, List.getElem_toArray, List.getElem_cons_zero, List.getElem_cons_succ, List.setIfInBounds_toArray, List.set_cons_zero, List.set_cons_succ]
          refine wpAnyH_take (i := 7) (v := ?_) rfl (by kernel_rfl) (by kernel_rfl) (by kernel_rfl) (fun _ _ _ h => h) (Or.inl ⟨by rfl, ?_⟩) hHeld ?_
          rotate_left 1
          · (intro w hSw; obtain ⟨q1, q2⟩ := hSw; go_simp; try with_reducible rfl)
          try simp only [Act.put, List.getElem_toArray, List.getElem_cons_zero, List.getElem_cons_succ, List.setIfInBounds_toArray, List.set_cons_zero, List.set_cons_succ]
          refine wpAnyH_take (i := 8) (v := ?_) rfl (by kernel_rfl) (by kernel_rfl) (by kernel_rfl) (fun _ _ _ h => h) (Or.inl ⟨by rfl, ?_⟩) hHeld ?_
          rotate_left 1
          · (intro w hSw; obtain ⟨q1, q2⟩ := hSw; go_simp; try with_reducible rfl)
          try simp only [Act.put, List.getElem_toArray, List.getElem_cons_zero, List.getElem_cons_succ, List.setIfInBounds_toArray, List.set_cons_zero, List.set_cons_succ]
          refine wpAnyH_take (i := 9) (v := ?_) rfl (by kernel_rfl) (by kernel_rfl) (by kernel_rfl) (fun _ _ _ h => h) (Or.inl ⟨by rfl, ?_⟩) hHeld ?_
          rotate_left 1
          · (intro w hSw; obtain ⟨q1, q2⟩ := hSw; go_simp; try with_reducible rfl)
          try simp only [Act.put, List.getElem_toArray, List.getElem_cons_zero, List.getElem_cons_succ, List.setIfInBounds_toArray, List.set_cons_zero, List.set_cons_succ]
          refine wpAnyH_ready (rs := [10]) (by kernel_rfl) (by simp) (AllReadyH.cons rfl (fun K hK => ?_) AllReadyH.nil)
          clear hHeld
          go_simp
          refine HHO.out.mono ?_
          rintro e w7 ⟨h7, ok7, rfl, hok7, hhs7⟩
          have HOK7 := hide hok7
          have HHS7 := hide hhs7
          clear hok7 hhs7 HHO
          go_wp2_with fail
          refine hK.out _ _ (HPN.out _ HHS7.out.g) (fun hHeld => ?_)
          clear hK K
          try simp only [Act.put, List.getElem_toArray, List.getElem_cons_zero, List.getElem_cons_succ, List.setIfInBounds_toArray, List.set_cons_zero, List.set_cons_succ]
          refine wpAnyH_take (i := 11) (v := ?_) rfl (by kernel_rfl) (by kernel_rfl) (by kernel_rfl) (fun _ _ _ h => h) (Or.inl ⟨by rfl, ?_⟩) hHeld ?_
          rotate_left 1
          · (intro w hSw; (try dsimp only at hSw); go_simp; try with_reducible rfl)
          try simp only [Act.put, List.getElem_toArray, List.getElem_cons_zero, List.getElem_cons_succ, List.setIfInBounds_toArray, List.set_cons_zero, List.set_cons_succ]
          refine wpAnyH_take (i := 12) (v := ?_) rfl (by kernel_rfl) (by kernel_rfl) (by kernel_rfl) (fun _ _ _ h => h) (Or.inl ⟨by rfl, ?_⟩) hHeld ?_
          rotate_left 1
          · (intro w hSw; (try dsimp only at hSw); go_simp; try with_reducible rfl)
          try simp only [Act.put, List.getElem_toArray, List.getElem_cons_zero, List.getElem_cons_succ, List.setIfInBounds_toArray, List.set_cons_zero, List.set_cons_succ]
          refine wpAnyH_take (i := 13) (v := ?_) rfl (by kernel_rfl) (by kernel_rfl) (by kernel_rfl) (fun _ _ _ h => h) (Or.inl ⟨by rfl, ?_⟩) hHeld ?_
          rotate_left 1
          · (intro w hSw; (try dsimp only at hSw); go_simp; try with_reducible rfl)
          try simp only [Act.put, List.getElem_toArray, List.getElem_cons_zero, List.getElem_cons_succ, List.setIfInBounds_toArray, List.set_cons_zero, List.set_cons_succ]
          refine wpAnyH_take (i := 14) (v := ?_) rfl (by kernel_rfl) (by kernel_rfl) (by kernel_rfl) (fun _ _ _ h => h) (Or.inl ⟨by rfl, ?_⟩) hHeld ?_
          rotate_left 1
          · (intro w hSw; (try dsimp only at hSw); go_simp; try with_reducible rfl)
          try simp only [Act.put, List.getElem_toArray, List.getElem_cons_zero, List.getElem_cons_succ, List.setIfInBounds_toArray, List.set_cons_zero, List.set_cons_succ]
          refine wpAnyH_take (i := 15) (v := ?_) rfl (by kernel_rfl) (by kernel_rfl) (by kernel_rfl) (fun _ _ _ h => h) (Or.inl ⟨by rfl, ?_⟩) hHeld ?_
          rotate_left 1
          · (intro w hSw; (try dsimp only at hSw); go_simp; try with_reducible rfl)
          try simp only [Act.put, List.getElem_toArray, List.getElem_cons_zero, List.getElem_cons_succ, List.setIfInBounds_toArray, List.set_cons_zero, List.set_cons_succ]
          refine wpAnyH_take (i := 16) (v := ?_) rfl (by kernel_rfl) (by kernel_rfl) (by kernel_rfl) (fun _ _ _ h => h) (Or.inl ⟨by rfl, ?_⟩) hHeld ?_
          rotate_left 1
          · (intro w hSw; (try dsimp only at hSw); go_simp; try with_reducible rfl)
          try simp only [Act.put, List.getElem_toArray, List.getElem_cons_zero, List.getElem_cons_succ, List.setIfInBounds_toArray, List.set_cons_zero, List.set_cons_succ]
          refine wpAnyH_take (i := 17) (v := ?_) rfl (by kernel_rfl) (by kernel_rfl) (by kernel_rfl) (fun _ _ _ h => h) (Or.inl ⟨by rfl, ?_⟩) hHeld ?_
          rotate_left 1
          · (intro w hSw; (try dsimp only at hSw); go_simp; try with_reducible rfl)
          try simp only [Act.put, List.getElem_toArray, List.getElem_cons_zero, List.getElem_cons_succ, List.setIfInBounds_toArray, List.set_cons_zero, List.set_cons_succ]
          refine wpAnyH_done (by kernel_rfl) ?_ _
          refine NoPanic.normal ?_
          clear HPN
          obtain rfl : ok7 = true := HOK7.out.2 (HPTS.out.to_ x HXM.out)
          have cpi := HCP5.out w7 HHS7.out.g i x HX.out
          have cni := HCELL5.out w7 HHS7.out.g i x HX.out
          clear HOK7 HHS
          go_wp2_with fail
          go_quiet (fail)
          go_wp2_with fail
          generalize hwd : World.drewN w7 _ = wd
          have HHSD : Hid (Hs w5 wd sh2 ov B (i * 201 + 1 + 0)) := by rw [← hwd]; exact HHS7.out.G (g_drewN _ _)
          clear hwd cpi cni HHS7
          go_loopw [24, 25] (fun bv kv wr => ∃ k : Nat, bv = .bool (decide (pf x ∈ nodes.take k)) ∧ kv = I k ∧ k ≤ nodes.length ∧ Hs w5 wr sh2 ov B (i * 201 + 1 + k)) (fun _ kv _ => nodes.length - (RowKit.intOf kv).toNat)
          case atStart => exact ⟨0, by simp, rfl, Nat.zero_le _, HHSD.out⟩
          case round =>
            obtain ⟨k, rfl, rfl, hk, hhs⟩ := hrel
            by_cases hkl : k < nodes.length
            · have hkI : (k : Int) < nodes.length := Int.ofNat_lt.2 hkl
              have hiI2 : (i : Int) < nodes.length := Int.ofNat_lt.2 HIL.out
              obtain ⟨y, hy⟩ : ∃ y, nodes[k]? = some y := ⟨_, List.getElem?_eq_getElem hkl⟩
              have hwk : wrap64 ((k : Int) + 1) = (k : Int) + 1 := wone6 k (Nat.le_trans (Nat.le_of_lt hkl) HNL.out)
              have HYM : Hid (y ∈ nodes) := List.mem_of_getElem? hy
              have HY := hide hy
              have HKL := hide hkl
              have HHS1 := hide hhs
              have HNN := hide (cnt_a HIL.out (Nat.le_of_lt hkl) HE1.out)
              have cy := HCELL5.out wr hhs.g k y hy
              have cpi := HCP5.out wr hhs.g i x HX.out
              have hnx : decide (pf x ∈ nodes.take (k + 1)) = (decide (pf x ∈ nodes.take k) || (y == pf x)) := by
                rw [List.take_add_one, hy]
                simp [eq_comm, Bool.beq_eq_decide_eq]
              have HNX := hide hnx
              obtain ⟨bb, hbb⟩ : ∃ bb, bb = decide (pf x ∈ nodes.take k) := ⟨_, rfl⟩
              rw [← hbb] at HNX ⊢
              clear hk hhs hkl hy hnx hbb HHSD
              by_cases hyp : y = pf x
              · have hyb : (y == pf x) = true := by simpa using hyp
                have HMN : Hid (decide (pf x ∈ nodes.take (k + 1)) = true) := by show _ = _; rw [HNX.out, hyb, Bool.or_true]
                have hpe : pf y = pf x := by rw [hyp]; exact HPTS.out.own x HXM.out
                have hpb : (pf y != pf x) = false := by rw [hpe]; simp
                clear hyp hpe
                go_wp2_with fail
                go_quiet (fail)
                generalize hwd : World.drewN wr _ = we
                have HHS2 : Hid (Hs w5 we sh2 ov B (i * 201 + 1 + k)) := by rw [← hwd]; exact HHS1.out.G (g_drewN _ _)
                have cpk := HCP5.out we HHS2.out.g k y HY.out
                have cpi2 := HCP5.out we HHS2.out.g i x HX.out
                clear hwd cy cpi
                go_wp2_with fail
                go_quiet (fail)
                go_wp2_with fail
                generalize hwd : World.drewN we _ = wr
                have HHS : Hid (Hs w5 wr sh2 ov B (i * 201 + 1 + k)) := by rw [← hwd]; exact HHS2.out.G (g_drewN _ _)
                clear hwd cpk cpi2 HHS2
                have HPN : Hid (∀ V, G w5 V → (fun V => V.cell? ⟨lb, lo + i, none⟩ = some (I x) ∧ V.cell? ⟨lb, lo + k, none⟩ = some (I y)) V) := fun V gV => ⟨HCELL5.out V gV i x HX.out, HCELL5.out V gV k y HY.out⟩
                have HHO := hide (hops_tg w5 wr.drew sh2 ov B nodes (i * 201 + 1 + k) x y (HHS.out.G (G.drew (G.refl _))) HNN.out (HI.out.ok x HXM.out) HBRL.out HBAL.out HBSUM.out HMILD.out HXM.out)
                go_wp2_with fail
                refine wp_region_noPanic ?_
                refine wp_region_held_drew (S := (fun V => V.cell? ⟨lb, lo + i, none⟩ = some (I x) ∧ V.cell? ⟨lb, lo + k, none⟩ = some (I y))) (by kernel_rfl) (HPN.out _ (HHS.out.g.trans (G.drew (G.refl _)))) (fun hHeld => ?_)
                refine wpAnyH_take (i := 0) (v := ?_) rfl (by kernel_rfl) (by kernel_rfl) (by kernel_rfl) (fun _ _ _ h => h) (Or.inl ⟨by rfl, ?_⟩) hHeld ?_
                rotate_left 1
                · (intro w hSw; obtain ⟨q1, q2⟩ := hSw; go_simp; try with_reducible rfl)
                try simp only [Act.put, List.getElem_toArray, List.getElem_cons_zero, List.setIfInBounds_toArray, List.set_cons_zero, List.set_cons_succ]
                refine wpAnyH_take (i := 1) (v := ?_) rfl (by kernel_rfl) (by kernel_rfl) (by kernel_rfl) (fun _ _ _ h => h) (Or.inl ⟨by rfl, ?_⟩) hHeld ?_
                rotate_left 1
                · (intro w hSw; obtain ⟨q1, q2⟩ := hSw; go_simp; try with_reducible rfl)
                try simp only [Act.put, List.getElem_toArray, List.getElem_cons_zero, List.getElem_cons_succ, List.setIfInBounds_toArray, List.set_cons_zero, List.set_cons_succ]
                refine wpAnyH_take (i := 2) (v := ?_) rfl (by kernel_rfl) (by kernel_rfl) (by kernel_rfl) (fun _ _ _ h => h) (Or.inl ⟨by rfl, ?_⟩) hHeld ?_
                rotate_left 1
                · (intro w hSw; obtain ⟨q1, q2⟩ := hSw; go_simp; try with_reducible rfl)
                try simp only [Act.put, List.getElem_toArray, List.getElem_cons_zero, List.getElem_cons_succ, List.setIfInBounds_toArray, List.set_cons_zero, List.set_cons_succ]
                refine wpAnyH_take (i := 3) (v := ?_) rfl (by kernel_rfl) (by kernel_rfl) (by kernel_rfl) (fun _ _ _ h => h) (Or.inl ⟨by rfl, ?_⟩) hHeld ?_
                rotate_left 1
                · (intro w hSw; obtain ⟨q1, q2⟩ := hSw; go_simp; try with_reducible rfl)
                try simp only [Act.put, List.getElem_toArray, List.getElem_cons_zero, List.getElem_cons_succ, List.setIfInBounds_toArray, List.set_cons_zero, List.set_cons_succ]
                refine wpAnyH_take (i := 4) (v := ?_) rfl (by kernel_rfl) (by kernel_rfl) (by kernel_rfl) (fun _ _ _ h => h) (Or.inl ⟨by rfl, ?_⟩) hHeld ?_
                rotate_left 1
                · (intro w hSw; obtain ⟨q1, q2⟩ := hSw; go_simp; try with_reducible rfl)
                try simp only [Act.put, List.getElem_toArray, List.getElem_cons_zero, List.getElem_cons_succ, List.setIfInBounds_toArray, List.set_cons_zero, List.set_cons_succ]
                refine wpAnyH_take (i := 5) (v := ?_) rfl (by kernel_rfl) (by kernel_rfl) (by kernel_rfl) (fun _ _ _ h => h) (Or.inl ⟨by rfl, ?_⟩) hHeld ?_
                rotate_left 1
                · (intro w hSw; obtain ⟨q1, q2⟩ := hSw; go_simp; try with_reducible rfl)
                try simp only [Act.put, List.getElem_toArray, List.getElem_cons_zero, List.getElem_cons_succ, List.setIfInBounds_toArray, List.set_cons_zero, List.set_cons_succ]
                refine wpAnyH_take (i := 6) (v := ?_) rfl (by kernel_rfl) (by kernel_rfl) (by kernel_rfl) (fun _ _ _ h => h) (Or.inl ⟨by rfl, ?_⟩) hHeld ?_
                rotate_left 1
                · (intro w hSw; obtain ⟨q1, q2⟩ := hSw; go_simp; try with_reducible rfl)
                try simp only [Act.put, List.getElem_toArray, List.getElem_cons_zero, List.getElem_cons_succ, List.setIfInBounds_toArray, List.set_cons_zero, List.set_cons_succ]
                refine wpAnyH_take (i := 7) (v := ?_) rfl (by kernel_rfl) (by kernel_rfl) (by kernel_rfl) (fun _ _ _ h => h) (Or.inl ⟨by rfl, ?_⟩) hHeld ?_
                rotate_left 1
                · (intro w hSw; obtain ⟨q1, q2⟩ := hSw; go_simp; try with_reducible rfl)
                try simp only [Act.put, List.getElem_toArray, List.getElem_cons_zero, List.getElem_cons_succ, List.setIfInBounds_toArray, List.set_cons_zero, List.set_cons_succ]
                refine wpAnyH_take (i := 8) (v := ?_) rfl (by kernel_rfl) (by kernel_rfl) (by kernel_rfl) (fun _ _ _ h => h) (Or.inl ⟨by rfl, ?_⟩) hHeld ?_
                rotate_left 1
                · (intro w hSw; obtain ⟨q1, q2⟩ := hSw; go_simp; try with_reducible rfl)
                try simp only [Act.put, List.getElem_toArray, List.getElem_cons_zero, List.getElem_cons_succ, List.setIfInBounds_toArray, List.set_cons_zero, List.set_cons_succ]
                refine wpAnyH_take (i := 9) (v := ?_) rfl (by kernel_rfl) (by kernel_rfl) (by kernel_rfl) (fun _ _ _ h => h) (Or.inl ⟨by rfl, ?_⟩) hHeld ?_
                rotate_left 1
                · (intro w hSw; obtain ⟨q1, q2⟩ := hSw; go_simp; try with_reducible rfl)
                try simp only [Act.put, List.getElem_toArray, List.getElem_cons_zero, List.getElem_cons_succ, List.setIfInBounds_toArray, List.set_cons_zero, List.set_cons_succ]
                refine wpAnyH_ready (rs := [10]) (by kernel_rfl) (by simp) (AllReadyH.cons rfl (fun K hK => ?_) AllReadyH.nil)
                clear hHeld
                go_simp
                refine HHO.out.mono ?_
                rintro e w9 ⟨h9, ok9, rfl, hok9, hhs9⟩
                have HOK9 := hide hok9
                have HHS9 := hide hhs9
                clear hok9 hhs9 HHO
                go_wp2_with fail
                refine hK.out _ _ (HPN.out _ HHS9.out.g) (fun hHeld => ?_)
                clear hK K
                try simp only [Act.put, List.getElem_toArray, List.getElem_cons_zero, List.getElem_cons_succ, List.setIfInBounds_toArray, List.set_cons_zero, List.set_cons_succ]
                refine wpAnyH_take (i := 11) (v := ?_) rfl (by kernel_rfl) (by kernel_rfl) (by kernel_rfl) (fun _ _ _ h => h) (Or.inl ⟨by rfl, ?_⟩) hHeld ?_
                rotate_left 1
                · (intro w hSw; (try dsimp only at hSw); go_simp; try with_reducible rfl)
                try simp only [Act.put, List.getElem_toArray, List.getElem_cons_zero, List.getElem_cons_succ, List.setIfInBounds_toArray, List.set_cons_zero, List.set_cons_succ]
                refine wpAnyH_take (i := 12) (v := ?_) rfl (by kernel_rfl) (by kernel_rfl) (by kernel_rfl) (fun _ _ _ h => h) (Or.inl ⟨by rfl, ?_⟩) hHeld ?_
                rotate_left 1
                · (intro w hSw; (try dsimp only at hSw); go_simp; try with_reducible rfl)
                try simp only [Act.put, List.getElem_toArray, List.getElem_cons_zero, List.getElem_cons_succ, List.setIfInBounds_toArray, List.set_cons_zero, List.set_cons_succ]
                refine wpAnyH_take (i := 13) (v := ?_) rfl (by kernel_rfl) (by kernel_rfl) (by kernel_rfl) (fun _ _ _ h => h) (Or.inl ⟨by rfl, ?_⟩) hHeld ?_
                rotate_left 1
                · (intro w hSw; (try dsimp only at hSw); go_simp; try with_reducible rfl)
                try simp only [Act.put, List.getElem_toArray, List.getElem_cons_zero, List.getElem_cons_succ, List.setIfInBounds_toArray, List.set_cons_zero, List.set_cons_succ]
                refine wpAnyH_take (i := 14) (v := ?_) rfl (by kernel_rfl) (by kernel_rfl) (by kernel_rfl) (fun _ _ _ h => h) (Or.inl ⟨by rfl, ?_⟩) hHeld ?_
                rotate_left 1
                · (intro w hSw; (try dsimp only at hSw); go_simp; try with_reducible rfl)
                try simp only [Act.put, List.getElem_toArray, List.getElem_cons_zero, List.getElem_cons_succ, List.setIfInBounds_toArray, List.set_cons_zero, List.set_cons_succ]
                refine wpAnyH_take (i := 15) (v := ?_) rfl (by kernel_rfl) (by kernel_rfl) (by kernel_rfl) (fun _ _ _ h => h) (Or.inl ⟨by rfl, ?_⟩) hHeld ?_
                rotate_left 1
                · (intro w hSw; (try dsimp only at hSw); go_simp; try with_reducible rfl)
                try simp only [Act.put, List.getElem_toArray, List.getElem_cons_zero, List.getElem_cons_succ, List.setIfInBounds_toArray, List.set_cons_zero, List.set_cons_succ]
                refine wpAnyH_take (i := 16) (v := ?_) rfl (by kernel_rfl) (by kernel_rfl) (by kernel_rfl) (fun _ _ _ h => h) (Or.inl ⟨by rfl, ?_⟩) hHeld ?_
                rotate_left 1
                · (intro w hSw; (try dsimp only at hSw); go_simp; try with_reducible rfl)
                try simp only [Act.put, List.getElem_toArray, List.getElem_cons_zero, List.getElem_cons_succ, List.setIfInBounds_toArray, List.set_cons_zero, List.set_cons_succ]
                refine wpAnyH_take (i := 17) (v := ?_) rfl (by kernel_rfl) (by kernel_rfl) (by kernel_rfl) (fun _ _ _ h => h) (Or.inl ⟨by rfl, ?_⟩) hHeld ?_
                rotate_left 1
                · (intro w hSw; (try dsimp only at hSw); go_simp; try with_reducible rfl)
                try simp only [Act.put, List.getElem_toArray, List.getElem_cons_zero, List.getElem_cons_succ, List.setIfInBounds_toArray, List.set_cons_zero, List.set_cons_succ]
                refine wpAnyH_done (by kernel_rfl) ?_ _
                refine NoPanic.normal ?_
                clear HPN
                obtain ⟨bq, hbq⟩ : ∃ bq, bq = (pf x == pf y) := ⟨_, rfl⟩
                have hbq2 := hbq.symm
                have hnear : ok9 = bq := by
                  have h1 := (HOK9.out).trans (HPTS.out.iff_ x HXM.out y HYM.out)
                  rw [hbq]
                  cases ok9 with
                  | true => exact (beq_iff_eq.2 (h1.1 rfl)).symm
                  | false => exact (beq_eq_false_iff_ne.2 (fun e => by cases h1.2 e)).symm
                subst hnear
                have cpi := HCP5.out w9 HHS9.out.g i x HX.out
                have cpk := HCP5.out w9 HHS9.out.g k y HY.out
                have HREL : Hid (∃ (k' : Nat), Value.bool true = .bool (decide (pf x ∈ nodes.take k')) ∧ I ((k : Int) + 1) = I k' ∧ k' ≤ nodes.length ∧ Hs w5 w9 sh2 ov B (i * 201 + 1 + k')) := ⟨k + 1, by rw [HMN.out], by simp, HKL.out, HHS9.out⟩
                clear hbq HOK9 HHS
                cases ok9 with
                | true =>
                  go_wp2_with fail
                  go_quiet (fail)
                  go_wp2_with fail
                  go_roundw
                  case rel =>
                    (try rw [hwk])
                    obtain ⟨k', r1, r2, r3, r4⟩ := HREL.out
                    exact ⟨k', r1, r2, r3, r4.G (g_drewN _ _)⟩
                  case measure => (try rw [hwk]); simp only [RowKit.intOf]; exact ms5 HKL.out
                | false =>
                  go_wp2_with fail
                  go_quiet (fail)
                  go_wp2_with fail
                  go_roundw
                  case rel =>
                    (try rw [hwk])
                    obtain ⟨k', r1, r2, r3, r4⟩ := HREL.out
                    exact ⟨k', r1, r2, r3, r4.G (g_drewN _ _)⟩
                  case measure => (try rw [hwk]); simp only [RowKit.intOf]; exact ms5 HKL.out
              · have hyb : (y == pf x) = false := beq_eq_false_iff_ne.2 hyp
                have HMN : Hid (decide (pf x ∈ nodes.take (k + 1)) = bb) := by show _ = _; rw [HNX.out, hyb, Bool.or_false]
                clear hyp
                go_wp2_with fail
                go_quiet (fail)
                go_wp2_with fail
                generalize hwd : World.drewN wr _ = wr
                have HHS : Hid (Hs w5 wr sh2 ov B (i * 201 + 1 + k)) := by rw [← hwd]; exact HHS1.out.G (g_drewN _ _)
                clear hwd cy cpi
                have HPN : Hid (∀ V, G w5 V → (fun V => V.cell? ⟨lb, lo + i, none⟩ = some (I x) ∧ V.cell? ⟨lb, lo + k, none⟩ = some (I y)) V) := fun V gV => ⟨HCELL5.out V gV i x HX.out, HCELL5.out V gV k y HY.out⟩
                have HHO := hide (hops_tg w5 wr.drew sh2 ov B nodes (i * 201 + 1 + k) x y (HHS.out.G (G.drew (G.refl _))) HNN.out (HI.out.ok x HXM.out) HBRL.out HBAL.out HBSUM.out HMILD.out HXM.out)
                go_wp2_with fail
                refine wp_region_noPanic ?_
                refine wp_region_held_drew (S := (fun V => V.cell? ⟨lb, lo + i, none⟩ = some (I x) ∧ V.cell? ⟨lb, lo + k, none⟩ = some (I y))) (by kernel_rfl) (HPN.out _ (HHS.out.g.trans (G.drew (G.refl _)))) (fun hHeld => ?_)
                refine wpAnyH_take (i := 0) (v := ?_) rfl (by kernel_rfl) (by kernel_rfl) (by kernel_rfl) (fun _ _ _ h => h) (Or.inl ⟨by rfl, ?_⟩) hHeld ?_
                rotate_left 1
                · (intro w hSw; obtain ⟨q1, q2⟩ := hSw; go_simp; try with_reducible rfl)
                try simp only [Act.put, List.getElem_toArray, List.getElem_cons_zero, List.setIfInBounds_toArray, List.set_cons_zero, List.set_cons_succ]
                refine wpAnyH_take (i := 1) (v := ?_) rfl (by kernel_rfl) (by kernel_rfl) (by kernel_rfl) (fun _ _ _ h => h) (Or.inl ⟨by rfl, ?_⟩) hHeld ?_
                rotate_left 1
                · (intro w hSw; obtain ⟨q1, q2⟩ := hSw; go_simp; try with_reducible rfl)
                try simp only [Act.put, List.getElem_toArray, List.getElem_cons_zero, List.getElem_cons_succ, List.setIfInBounds_toArray, List.set_cons_zero, List.set_cons_succ]
                refine wpAnyH_take (i := 2) (v := ?_) rfl (by kernel_rfl) (by kernel_rfl) (by kernel_rfl) (fun _ _ _ h => h) (Or.inl ⟨by rfl, ?_⟩) hHeld ?_
                rotate_left 1
                · (intro w hSw; obtain ⟨q1, q2⟩ := hSw; go_simp; try with_reducible rfl)
                try simp only [Act.put, List.getElem_toArray, List.getElem_cons_zero, List.getElem_cons_succ, List.setIfInBounds_toArray, List.set_cons_zero, List.set_cons_succ]
                refine wpAnyH_take (i := 3) (v := ?_) rfl (by kernel_rfl) (by kernel_rfl) (by kernel_rfl) (fun _ _ _ h => h) (Or.inl ⟨by rfl, ?_⟩) hHeld ?_
                rotate_left 1
                · (intro w hSw; obtain ⟨q1, q2⟩ := hSw; go_simp; try with_reducible rfl)
                try simp only [Act.put, List.getElem_toArray, List.getElem_cons_zero, List.getElem_cons_succ, List.setIfInBounds_toArray, List.set_cons_zero, List.set_cons_succ]
                refine wpAnyH_take (i := 4) (v := ?_) rfl (by kernel_rfl) (by kernel_rfl) (by kernel_rfl) (fun _ _ _ h => h) (Or.inl ⟨by rfl, ?_⟩) hHeld ?_
                rotate_left 1
                · (intro w hSw; obtain ⟨q1, q2⟩ := hSw; go_simp; try with_reducible rfl)
                try simp only [Act.put, List.getElem_toArray, List.getElem_cons_zero, List.getElem_cons_succ, List.setIfInBounds_toArray, List.set_cons_zero, List.set_cons_succ]
                refine wpAnyH_take (i := 5) (v := ?_) rfl (by kernel_rfl) (by kernel_rfl) (by kernel_rfl) (fun _ _ _ h => h) (Or.inl ⟨by rfl, ?_⟩) hHeld ?_
                rotate_left 1
                · (intro w hSw; obtain ⟨q1, q2⟩ := hSw; go_simp; try with_reducible rfl)
                try simp only [Act.put, List.getElem_toArray, List.getElem_cons_zero, List.getElem_cons_succ, List.setIfInBounds_toArray, List.set_cons_zero, List.set_cons_succ]
                refine wpAnyH_take (i := 6) (v := ?_) rfl (by kernel_rfl) (by kernel_rfl) (by kernel_rfl) (fun _ _ _ h => h) (Or.inl ⟨by rfl, ?_⟩) hHeld ?_
                rotate_left 1
                · (intro w hSw; obtain ⟨q1, q2⟩ := hSw; go_simp; try with_reducible rfl)
                try simp only [Act.put, List.getElem_toArray, List.getElem_cons_zero, List.getElem_cons_succ, List.setIfInBounds_toArray, List.set_cons_zero, List.set_cons_succ]
                refine wpAnyH_take (i := 7) (v := ?_) rfl (by kernel_rfl) (by kernel_rfl) (by kernel_rfl) (fun _ _ _ h => h) (Or.inl ⟨by rfl, ?_⟩) hHeld ?_
                rotate_left 1
                · (intro w hSw; obtain ⟨q1, q2⟩ := hSw; go_simp; try with_reducible rfl)
                try simp only [Act.put, List.getElem_toArray, List.getElem_cons_zero, List.getElem_cons_succ, List.setIfInBounds_toArray, List.set_cons_zero, List.set_cons_succ]
                refine wpAnyH_take (i := 8) (v := ?_) rfl (by kernel_rfl) (by kernel_rfl) (by kernel_rfl) (fun _ _ _ h => h) (Or.inl ⟨by rfl, ?_⟩) hHeld ?_
                rotate_left 1
                · (intro w hSw; obtain ⟨q1, q2⟩ := hSw; go_simp; try with_reducible rfl)
                try simp only [Act.put, List.getElem_toArray, List.getElem_cons_zero, List.getElem_cons_succ, List.setIfInBounds_toArray, List.set_cons_zero, List.set_cons_succ]
                refine wpAnyH_take (i := 9) (v := ?_) rfl (by kernel_rfl) (by kernel_rfl) (by kernel_rfl) (fun _ _ _ h => h) (Or.inl ⟨by rfl, ?_⟩) hHeld ?_
                rotate_left 1
                · (intro w hSw; obtain ⟨q1, q2⟩ := hSw; go_simp; try with_reducible rfl)
                try simp only [Act.put, List.getElem_toArray, List.getElem_cons_zero, List.getElem_cons_succ, List.setIfInBounds_toArray, List.set_cons_zero, List.set_cons_succ]
                refine wpAnyH_ready (rs := [10]) (by kernel_rfl) (by simp) (AllReadyH.cons rfl (fun K hK => ?_) AllReadyH.nil)
                clear hHeld
                go_simp
                refine HHO.out.mono ?_
                rintro e w9 ⟨h9, ok9, rfl, hok9, hhs9⟩
                have HOK9 := hide hok9
                have HHS9 := hide hhs9
                clear hok9 hhs9 HHO
                go_wp2_with fail
                refine hK.out _ _ (HPN.out _ HHS9.out.g) (fun hHeld => ?_)
                clear hK K
                try simp only [Act.put, List.getElem_toArray, List.getElem_cons_zero, List.getElem_cons_succ, List.setIfInBounds_toArray, List.set_cons_zero, List.set_cons_succ]
                refine wpAnyH_take (i := 11) (v := ?_) rfl (by kernel_rfl) (by kernel_rfl) (by kernel_rfl) (fun _ _ _ h => h) (Or.inl ⟨by rfl, ?_⟩) hHeld ?_
                rotate_left 1
                · (intro w hSw; (try dsimp only at hSw); go_simp; try with_reducible rfl)
                try simp only [Act.put, List.getElem_toArray, List.getElem_cons_zero, List.getElem_cons_succ, List.setIfInBounds_toArray, List.set_cons_zero, List.set_cons_succ]
                refine wpAnyH_take (i := 12) (v := ?_) rfl (by kernel_rfl) (by kernel_rfl) (by kernel_rfl) (fun _ _ _ h => h) (Or.inl ⟨by rfl, ?_⟩) hHeld ?_
                rotate_left 1
                · (intro w hSw; (try dsimp only at hSw); go_simp; try with_reducible rfl)
                try simp only [Act.put, List.getElem_toArray, List.getElem_cons_zero, List.getElem_cons_succ, List.setIfInBounds_toArray, List.set_cons_zero, List.set_cons_succ]
                refine wpAnyH_take (i := 13) (v := ?_) rfl (by kernel_rfl) (by kernel_rfl) (by kernel_rfl) (fun _ _ _ h => h) (Or.inl ⟨by rfl, ?_⟩) hHeld ?_
                rotate_left 1
                · (intro w hSw; (try dsimp only at hSw); go_simp; try with_reducible rfl)
                try simp only [Act.put, List.getElem_toArray, List.getElem_cons_zero, List.getElem_cons_succ, List.setIfInBounds_toArray, List.set_cons_zero, List.set_cons_succ]
                refine wpAnyH_take (i := 14) (v := ?_) rfl (by kernel_rfl) (by kernel_rfl) (by kernel_rfl) (fun _ _ _ h => h) (Or.inl ⟨by rfl, ?_⟩) hHeld ?_
                rotate_left 1
                · (intro w hSw; (try dsimp only at hSw); go_simp; try with_reducible rfl)
                try simp only [Act.put, List.getElem_toArray, List.getElem_cons_zero, List.getElem_cons_succ, List.setIfInBounds_toArray, List.set_cons_zero, List.set_cons_succ]
                refine wpAnyH_take (i := 15) (v := ?_) rfl (by kernel_rfl) (by kernel_rfl) (by kernel_rfl) (fun _ _ _ h => h) (Or.inl ⟨by rfl, ?_⟩) hHeld ?_
                rotate_left 1
                · (intro w hSw; (try dsimp only at hSw); go_simp; try with_reducible rfl)
                try simp only [Act.put, List.getElem_toArray, List.getElem_cons_zero, List.getElem_cons_succ, List.setIfInBounds_toArray, List.set_cons_zero, List.set_cons_succ]
                refine wpAnyH_take (i := 16) (v := ?_) rfl (by kernel_rfl) (by kernel_rfl) (by kernel_rfl) (fun _ _ _ h => h) (Or.inl ⟨by rfl, ?_⟩) hHeld ?_
                rotate_left 1
                · (intro w hSw; (try dsimp only at hSw); go_simp; try with_reducible rfl)
                try simp only [Act.put, List.getElem_toArray, List.getElem_cons_zero, List.getElem_cons_succ, List.setIfInBounds_toArray, List.set_cons_zero, List.set_cons_succ]
                refine wpAnyH_take (i := 17) (v := ?_) rfl (by kernel_rfl) (by kernel_rfl) (by kernel_rfl) (fun _ _ _ h => h) (Or.inl ⟨by rfl, ?_⟩) hHeld ?_
                rotate_left 1
                · (intro w hSw; (try dsimp only at hSw); go_simp; try with_reducible rfl)
                try simp only [Act.put, List.getElem_toArray, List.getElem_cons_zero, List.getElem_cons_succ, List.setIfInBounds_toArray, List.set_cons_zero, List.set_cons_succ]
                refine wpAnyH_done (by kernel_rfl) ?_ _
                refine NoPanic.normal ?_
                clear HPN
                obtain ⟨bq, hbq⟩ : ∃ bq, bq = (pf x == pf y) := ⟨_, rfl⟩
                have hbq2 := hbq.symm
                have hnear : ok9 = bq := by
                  have h1 := (HOK9.out).trans (HPTS.out.iff_ x HXM.out y HYM.out)
                  rw [hbq]
                  cases ok9 with
                  | true => exact (beq_iff_eq.2 (h1.1 rfl)).symm
                  | false => exact (beq_eq_false_iff_ne.2 (fun e => by cases h1.2 e)).symm
                subst hnear
                have cpi := HCP5.out w9 HHS9.out.g i x HX.out
                have cpk := HCP5.out w9 HHS9.out.g k y HY.out
                have HREL : Hid (∃ (k' : Nat), Value.bool bb = .bool (decide (pf x ∈ nodes.take k')) ∧ I ((k : Int) + 1) = I k' ∧ k' ≤ nodes.length ∧ Hs w5 w9 sh2 ov B (i * 201 + 1 + k')) := ⟨k + 1, by rw [HMN.out], by simp, HKL.out, HHS9.out⟩
                clear hbq HOK9 HHS
                cases ok9 with
                | true =>
                  go_wp2_with fail
                  go_quiet (fail)
                  go_wp2_with fail
                  go_roundw
                  case rel =>
                    (try rw [hwk])
                    obtain ⟨k', r1, r2, r3, r4⟩ := HREL.out
                    exact ⟨k', r1, r2, r3, r4.G (g_drewN _ _)⟩
                  case measure => (try rw [hwk]); simp only [RowKit.intOf]; exact ms5 HKL.out
                | false =>
                  go_wp2_with fail
                  go_quiet (fail)
                  go_wp2_with fail
                  go_roundw
                  case rel =>
                    (try rw [hwk])
                    obtain ⟨k', r1, r2, r3, r4⟩ := HREL.out
                    exact ⟨k', r1, r2, r3, r4.G (g_drewN _ _)⟩
                  case measure => (try rw [hwk]); simp only [RowKit.intOf]; exact ms5 HKL.out
            · have hkI : ¬ ((k : Int) < nodes.length) := fun h => hkl (Int.ofNat_lt.1 h)
              obtain rfl : k = nodes.length := Nat.le_antisymm hk (Nat.le_of_not_lt hkl)
              rw [List.take_length, decide_eq_true HPXM.out]
              have HHS3 := hide (hhs.mono (cnt_b HE1.out))
              clear hk hhs hkl
              go_wp2_with fail
              go_roundw
              case rel => (try rw [hwi]); exact ⟨i + 1, by simp, HIL.out, HHS3.out⟩
              case measure => (try rw [hwi]); simp only [RowKit.intOf]; exact ms5 HIL.out
        · have hiI : ¬ ((i : Int) < nodes.length) := fun h => hil (Int.ofNat_lt.1 h)
          have HF := hide (HGW.out.trans (HG5.out.trans hhs.g))
          clear hi hhs hil
          go_wp2_with fail
          go_ret
          exact ⟨rfl, HF.out⟩
end Go.Proofs.YtemkilffagjmcaaDoor
