/- Paths: Parts of the program. -/
import Derived.Test.YtemkilffagjmcaaDoorPz22
namespace Go.Proofs.YtemkilffagjmcaaDoor
open Go.RowKit

/-- What Parts tells, and what it asks. -/
def PrtR (rs : List Nr) (tail : Bool) (ids nodes out : List Int) (code : Int) (asked : List Int) : Prop :=
  (4096 < ids.length ∧ out = [] ∧ code = 92 ∧ asked = []) ∨
  (ids.length ≤ 4096 ∧ ∃ (k : Nat) (id : Int), ids[k]? = some id ∧ (netOf rs tail id).2 ≠ 0 ∧ (∀ (j : Nat) id', j < k → ids[j]? = some id' → (netOf rs tail id').2 = 0) ∧ out = [] ∧ code = (netOf rs tail id).2 ∧ asked = ids.take (k + 1)) ∨
  (ids.length ≤ 4096 ∧ (∀ id ∈ ids, (netOf rs tail id).2 = 0) ∧ code = 0 ∧ asked = ids ∧ ∃ F : List Nat, F.length = ids.length ∧ (∀ i, i < ids.length → Jn (AR (ids.map fun id => insL (atI ids) (netOf rs tail id).1) (ids.map fun id => insL (atI ids) (netOf rs tail id).1).length 0) i F[i]! ∧ ∀ j, Jn (AR (ids.map fun id => insL (atI ids) (netOf rs tail id).1) (ids.map fun id => insL (atI ids) (netOf rs tail id).1).length 0) i j → F[i]! ≤ j) ∧ out = nodes.map fun x => ids[F[(atI ids x).getD 0]!]!)
theorem PrtR.uniq {rs : List Nr} {tail : Bool} {ids nodes out out' : List Int} {code code' : Int} {asked asked' : List Int} (h : PrtR rs tail ids nodes out code asked) (h' : PrtR rs tail ids nodes out' code' asked') : out = out' ∧ code = code' ∧ asked = asked' := by
  rcases h with ⟨a1, rfl, rfl, rfl⟩ | ⟨a1, k, id, a2, a3, a4, rfl, rfl, rfl⟩ | ⟨a1, a2, rfl, rfl, G1, a3, a4, rfl⟩
  · rcases h' with ⟨b1, rfl, rfl, rfl⟩ | ⟨b1, -⟩ | ⟨b1, -⟩
    · exact ⟨rfl, rfl, rfl⟩
    · omega
    · omega
  · rcases h' with ⟨b1, -⟩ | ⟨b1, k', id', b2, b3, b4, rfl, rfl, rfl⟩ | ⟨b1, b2, -⟩
    · omega
    · have hk : k = k' := by
        rcases Nat.lt_trichotomy k k' with q | q | q
        · exact absurd (b4 k id q a2) a3
        · exact q
        · exact absurd (a4 k' id' q b2) b3
      subst hk
      rw [a2] at b2
      cases b2
      exact ⟨rfl, rfl, rfl⟩
    · exact absurd (b2 id (List.mem_of_getElem? a2)) a3
  · rcases h' with ⟨b1, -⟩ | ⟨b1, k', id', b2, b3, b4, -⟩ | ⟨b1, b2, rfl, rfl, G2, b3, b4, rfl⟩
    · omega
    · exact absurd (a2 id' (List.mem_of_getElem? b2)) b3
    · have e : G1 = G2 := by
        refine List.ext_getElem (by rw [a3, b3]) (fun i h1 h2 => ?_)
        obtain ⟨c1, c2⟩ := a4 i (by rw [← a3]; exact h1)
        obtain ⟨d1, d2⟩ := b4 i (by rw [← b3]; exact h2)
        rw [Hp.get_of h1] at c1 c2
        rw [Hp.get_of h2] at d1 d2
        exact Nat.le_antisymm (c2 _ d1) (d2 _ c1)
      rw [e]
      exact ⟨rfl, rfl, rfl⟩
/-- What the call leaves. -/
def PtP (Wb W : World) (sh : Nat) (rv : Value) (rs : List Nr) (tail : Bool) (av : Value) (bas ids nodes : List Int) (e : Ending) (W' : World) : Prop :=
  ∃ (out : List Int) (code : Int) (asked : List Int) (av' gv' : Value) (gl' : List Value) (nv : Value), PrtR rs tail ids nodes out code asked ∧ e = .returned (.tuple #[nv, I code]) ∧ Rw W.heap.size 2 1 W' nv out.length (out.map I) ∧ Shn Wb W' sh rv rs tail av' gv' (bas ++ asked) gl' ∧ Mv Wb shTs (fun _ => False) W W' ∧ (∀ b, nv.ownBlock = some b → av'.ownBlock ≠ some b) ∧ AskO W W' av av'
theorem rw_mo (w : World) (lo n : Nat) (hn : n ≤ maxLen) (hlo : lo ≤ w.heap.size) : Rw lo 2 1 (w.alloc (.cells (List.replicate n (I 0)).toArray 2)) (.slice (some ⟨w.heap.size, 0, none⟩) n n) n ((List.replicate n (0 : Int)).map I) :=
  ⟨by simp, .inr ⟨w.heap.size, n, _, rfl, hlo, heap_alloc_new w _, Nat.le_refl _, hn, by simp, by simp⟩⟩
theorem mk_I (w : World) (n : Nat) (hn : n ≤ 1048576) : (Instr.makeSlice 23 (I (n : Int)) (I (n : Int))).run Tryd.prog w = .ok (.slice (some ⟨w.heap.size, 0, none⟩) n n) (w.alloc (.cells (List.replicate n (I 0)).toArray 2)) := by
  obtain ⟨i0, hi, hz0, hz1, hz2⟩ := info_I
  have hmk := run_make (P := Tryd.prog) w 23 2 i0 (I 0) Tryd.underlying23 hi hz0 .i64 .i64 (n : Int) (n : Int) (by omega) (by omega) (by rw [hz2]; omega) (by omega)
  rw [hz1, made_i, Nat.mul_one, show ((n : Int)).toNat = n by omega] at hmk
  exact hmk
theorem mx_I {n : Nat} (hn : n ≤ 1048576) : n ≤ maxLen := by
  have hmx : (1048576 : Nat) ≤ maxLen := of_decide_eq_true (by kernel_rfl)
  omega
set_option maxRecDepth 100000 in
set_option maxHeartbeats 4000000 in
theorem partp_any (Wb W : World) (sh : Nat) (rv : Value) (rs : List Nr) (tail : Bool) (av gv : Value) (bas : List Int) (gl : List Value) (hbas : bas.length ≤ 4294967296) (sn : Shn Wb W sh rv rs tail av gv bas gl) (hrl : rs.length ≤ 1048576) (hal : ∀ id, (netOf rs tail id).1.length ≤ 1048576) (v : Value) (nodes : List Int) (hI : Ids W v nodes) (hnl : nodes.length ≤ 1048576) (ids : List Int) (hids : ids.Pairwise (· < ·)) (hmem : ∀ a, a ∈ ids ↔ a ∈ nodes) (hK : ∀ w' av', AskO W w' av av' → Ids w' v nodes) :
    Calls Tryd.prog 13 #[v, (.func (.func 9) #[ptr sh] #[])] W (PtP Wb W sh rv rs tail av bas ids nodes) := by
  have HNP := hide (newpiece_any Wb W sh rv rs tail av gv bas gl hbas sn hrl hal v nodes hI hnl ids hids hmem)
  obtain ⟨la, lc, rfl⟩ : ∃ a c, v = .slice a nodes.length c := by obtain ⟨a, c, e, -⟩ := hI.at_; exact ⟨a, c, e⟩
  have HAL := hide hal
  have HMEM := hide hmem
  have HKP := hide hK
  have HNOK := hide hI.ok
  have HNL := hide hnl
  have HIDS := hide hids
  clear sn hal hids hmem hI hK hnl
  go_enter Tryd.func13, Tryd.ntmps13
  go_wp2_with fail
  refine HNP.out.mono ?_
  rintro e w1 ⟨av1, gv1, gl1, asked, hsn, hao, hmv, hc⟩
  have HSN := hide hsn
  have HAO := hide hao
  have HI1 := hide (HKP.out w1 av1 hao)
  have HMV := hide hmv
  clear hsn hao hmv HNP HKP
  rcases hc with ⟨h1, rfl, rfl⟩ | ⟨h1, k, id, h2, h3, h4, rfl, rfl⟩ | ⟨h1, h2, hask, pb, mb, iv, ov, rfl, hpc, hne⟩
  · have HR : Hid (PrtR rs tail ids nodes [] 92 []) := .inl ⟨h1, rfl, rfl, rfl⟩
    clear h1
    go_wp2_with fail
    go_ret2
    exact ⟨_, _, _, av1, gv1, gl1, _, HR.out, rfl, Rw.nil _ _ _ _, HSN.out, HMV.out, fun b hb => by simp [Value.ownBlock] at hb, HAO.out⟩
  · have HR : Hid (PrtR rs tail ids nodes [] (netOf rs tail id).2 (ids.take (k + 1))) := .inr (.inl ⟨h1, k, id, h2, h3, h4, rfl, rfl, rfl⟩)
    have HH3 := hide h3
    clear h1 h2 h3 h4
    obtain ⟨code, hcode⟩ : ∃ code, code = (netOf rs tail id).2 := ⟨_, rfl⟩
    rw [← hcode] at HR HH3 ⊢
    have hcb : (code != 0) = true := by simpa using HH3.out
    have hcb2 : (code == 0) = false := beq_eq_false_iff_ne.2 HH3.out
    clear hcode
    go_wp2_with fail
    go_ret2
    exact ⟨_, _, _, av1, gv1, gl1, _, HR.out, rfl, Rw.nil _ _ _ _, HSN.out, HMV.out, fun b hb => by simp [Value.ownBlock] at hb, HAO.out⟩
  · rw [hask] at HSN
    clear hask
    have HPA := hide (parts_any w1 W.heap.size pb mb iv ov ids _ (ids.map fun id => insL (atI ids) (netOf rs tail id).1) hpc (List.length_map _) h1 (fun l hl => by
      obtain ⟨id, -, rfl⟩ := List.mem_map.1 hl
      exact Nat.le_trans (insL_len _ _) (HAL.out id)) (fun l hl => by
      obtain ⟨id, -, rfl⟩ := List.mem_map.1 hl
      exact insL_in))
    have HPC := hide hpc
    have HR : Hid (∀ F : List Nat, F.length = ids.length → (∀ i, i < ids.length → Jn (AR (ids.map fun id => insL (atI ids) (netOf rs tail id).1) (ids.map fun id => insL (atI ids) (netOf rs tail id).1).length 0) i F[i]! ∧ ∀ j, Jn (AR (ids.map fun id => insL (atI ids) (netOf rs tail id).1) (ids.map fun id => insL (atI ids) (netOf rs tail id).1).length 0) i j → F[i]! ≤ j) → PrtR rs tail ids nodes (nodes.map fun x => ids[F[(atI ids x).getD 0]!]!) 0 ids) := fun F q1 q2 => .inr (.inr ⟨h1, h2, rfl, rfl, F, q1, q2, rfl⟩)
    obtain ⟨ia, ic, rfl⟩ := Rw.form hpc.ids
    have H4 := hide h1
    clear h1 h2 hpc hne
    go_wp2_with fail
    refine HPA.out.mono ?_
    rintro e w2 ⟨fg, F, rfl, hg2, hfg, hrf, hFl, hFj⟩
    have HR2 := hide (HR.out F hFl hFj)
    have HFN : Hid (∀ i, i < ids.length → F[i]! < ids.length) := fun i hi => by
      have := (hFj i hi).2 i (.refl i)
      exact Nat.lt_of_le_of_lt this hi
    have hmk := mk_I w2 nodes.length HNL.out
    have hRo := rw_mo w2 w1.heap.size nodes.length (mx_I HNL.out) hg2.size
    have hg3 : G w2 (w2.alloc (.cells (List.replicate nodes.length (I 0)).toArray 2)) := (G.refl w2).alloc _
    have HMK := hide hmk
    have HRO := hide hRo
    have HG3 := hide (hg2.trans hg3)
    have HRF := hide (Rw.G hrf hg3)
    have HFL := hide hFl
    have HZ2 := hide hg2.size
    clear hmk hRo hg3 hg2 hrf hFl hFj hfg HPA HR
    generalize w2.alloc (.cells (List.replicate nodes.length (I 0)).toArray 2) = w3 at *
    obtain ⟨og, hog⟩ : ∃ og, og = w2.heap.size := ⟨_, rfl⟩
    rw [← hog] at HMK HRO
    have HOG : Hid (w1.heap.size ≤ og) := by rw [hog]; exact HZ2.out
    clear hog
    go_wp2_with fail
    rw [HMK.out]
    clear HMK
    go_wp2_with fail
    have HX0 : Hid (Chg (fun b => b = og) w3 w3) := Chg.refl _ _
    go_loopw [28] (fun kv wr => ∃ (i : Nat) (X : List Int), kv = I i ∧ i ≤ nodes.length ∧ X.length = nodes.length ∧ Rw w1.heap.size 2 1 wr (.slice (some ⟨og, 0, none⟩) nodes.length nodes.length) nodes.length (X.map I) ∧ (∀ m, m < i → X[m]! = ids[F[(atI ids nodes[m]!).getD 0]!]!) ∧ Chg (fun b => b = og) w3 wr) (fun kv _ => nodes.length - (RowKit.intOf kv).toNat)
    case atStart => exact ⟨0, _, rfl, Nat.zero_le _, List.length_replicate, HRO.out, fun m hm => absurd hm (by omega), HX0.out⟩
    case round =>
      obtain ⟨i, X, rfl, hi, hXl, hrx, hX, hch⟩ := hrel
      have hgw : G w1 wr := HG3.out.trans' hch (fun b e => by rw [e]; exact HOG.out)
      by_cases hil : i < nodes.length
      · have hiI : (i : Int) < nodes.length := Int.ofNat_lt.2 hil
        obtain ⟨id, hid⟩ : ∃ id, nodes[i]? = some id := ⟨_, List.getElem?_eq_getElem hil⟩
        have hidm : id ∈ nodes := List.mem_of_getElem? hid
        obtain ⟨q, hq⟩ : ∃ q, atI ids id = some q := by
          cases h : atI ids id with
          | none => exact absurd ((HMEM.out id).2 hidm) (atI_none.1 h)
          | some q => exact ⟨q, rfl⟩
        have hql : q < ids.length := (List.getElem?_eq_some_iff.1 (atI_some hq)).1
        have hqI : (q : Int) < ids.length := Int.ofNat_lt.2 hql
        obtain ⟨lb, lo_, rfl, cn⟩ := (HI1.out.G hgw).cellAt hid
        have hgr : G wr wr.drew := G.drew (G.refl _)
        have hgd : G w1 wr.drew := hgw.trans hgr
        have hrF : Rw w1.heap.size 3 1 wr.drew (.slice (some ⟨fg, 0, none⟩) ids.length ids.length) ids.length (F.map fun (i : Nat) => I (i : Int)) := Rw.G (HRF.out.chg hch (fun b hb e => by
          obtain ⟨_, _, ys, hy⟩ := Rw.own HRO.out (b := og) rfl
          exact Rw.offb HRF.out hy (by decide) (by rw [hb, e]))) hgr
        obtain ⟨cf, -⟩ := hrF.atN HFL.out hql
        have hfn := HFN.out q hql
        obtain ⟨f, hf⟩ : ∃ f, f = F[q]! := ⟨_, rfl⟩
        rw [← hf] at cf hfn
        have hfI : (f : Int) < ids.length := Int.ofNat_lt.2 hfn
        obtain ⟨z, hz⟩ : ∃ z, ids[f]? = some z := ⟨_, List.getElem?_eq_getElem hfn⟩
        obtain ⟨g6, cap6, he6, -, hc6, -⟩ := (Rw.G HPC.out.ids hgd).cell (Nat.zero_lt_of_lt hfn)
        obtain ⟨rfl, rfl⟩ : ia = some ⟨g6, 0, none⟩ ∧ ic = cap6 := by simp at he6; exact he6
        have c6 : wr.drew.cell? ⟨g6, f, none⟩ = some (I z) := by rw [hc6 f (by rw [Nat.mul_one]; exact hfn), List.getElem?_map, hz]; rfl
        have cp := (HPC.out.blk.G hgd).cell
        have hlk := (HPC.out.map.G hgd).look kyI Tryd.underlying58 (Tryd.zeroValue3 _) (kyI_ok.2 (HNOK.out id hidm))
        have hrd := Rw.G hrx hgr
        obtain ⟨_, _, ys, hy⟩ := Rw.own hrd (b := og) rfl
        have HZO := hide (hy.frozen i)
        obtain ⟨go_, capo, heo, -, hco, -⟩ := hrd.cell (Nat.zero_lt_of_lt hil)
        have ego : og = go_ := by simp at heo; exact heo.1
        subst ego
        obtain ⟨x0, hx0⟩ : ∃ x0, X[i]? = some x0 := ⟨_, List.getElem?_eq_getElem (by rw [hXl]; exact hil)⟩
        have HCO : Hid (wr.drew.cell? ⟨og, i, none⟩ = some (I x0)) := by
          show _ = _
          rw [hco i (by rw [Nat.mul_one]; exact hil), List.getElem?_map, hx0]; rfl
        have hwi : wrap64 ((i : Int) + 1) = (i : Int) + 1 := wone6 i (Nat.le_trans (Nat.le_of_lt hil) HNL.out)
        simp only [hq, Option.map_some, Option.getD_some] at hlk
        have HST : Hid ((fun V => (∀ o, V.cell? ⟨pb, o, none⟩ = ([.slice (some ⟨g6, 0, none⟩) ids.length ic, .map (some mb), ov] : List Value)[o]?) ∧ V.cell? ⟨fg, q, none⟩ = some (I (f : Int)) ∧ V.cell? ⟨g6, f, none⟩ = some (I z) ∧ (Instr.lookup 58 (.map (some mb)) (I id) false).run Tryd.prog V = .ok (I (q : Int)) V) wr.drew) := ⟨cp, cf, c6, hlk⟩
        have HREL : Hid (∃ (i' : Nat) (X : List Int), I ((i : Int) + 1) = I i' ∧ i' ≤ nodes.length ∧ X.length = nodes.length ∧ Rw w1.heap.size 2 1 (wr.drew.setCell ⟨og, i, none⟩ (I z)) (.slice (some ⟨og, 0, none⟩) nodes.length nodes.length) nodes.length (X.map I) ∧ (∀ m, m < i' → X[m]! = ids[F[(atI ids nodes[m]!).getD 0]!]!) ∧ Chg (fun b => b = og) w3 (wr.drew.setCell ⟨og, i, none⟩ (I z))) := by
          refine ⟨i + 1, X.set i z, by simp, hil, by rw [List.length_set]; exact hXl, by rw [List.map_set]; exact Rw.set hrd i (by rw [Nat.mul_one]; exact hil) (I z), fun m hm => ?_, (hch.trans hgr.chg).trans (chg_setCell _ _ (.inl rfl))⟩
          rw [Hp.get_set _ _ _ _ (by rw [hXl]; exact hil)]
          split
          · rename_i e
            subst e
            have e1 : nodes[m]! = id := by simp [hid]
            rw [e1, hq]
            show z = ids[F[q]!]!
            rw [← hf]
            simp [hz]
          · rename_i e
            exact hX m (Nat.lt_of_le_of_ne (Nat.le_of_lt_succ hm) e)
        have HIL := hide hil
        clear hi hXl hrx hX hch hgw hil hid hidm hq hql hrF hfn hf hz he6 hc6 hy heo hco hx0 hgr hgd hrd cp cf c6 hlk
        go_wp2_with fail
        refine wp_region_noPanic ?_
        refine wp_region_L (S := (fun V => (∀ o, V.cell? ⟨pb, o, none⟩ = ([.slice (some ⟨g6, 0, none⟩) ids.length ic, .map (some mb), ov] : List Value)[o]?) ∧ V.cell? ⟨fg, q, none⟩ = some (I (f : Int)) ∧ V.cell? ⟨g6, f, none⟩ = some (I z) ∧ (Instr.lookup 58 (.map (some mb)) (I id) false).run Tryd.prog V = .ok (I (q : Int)) V)) 18 (by kernel_rfl) (HST.out) (fun hHeld => ?_)
        refine wpAnyL_take (i := 0) (v := ?_) rfl (by kernel_rfl) (by kernel_rfl) (by kernel_rfl) (by kernel_rfl) (fun _ _ _ h => h) (Or.inl ⟨by rfl, ?_⟩) hHeld ?_
        rotate_left 1
        · (intro w hSw; obtain ⟨q1, q2, q3, q4⟩ := hSw; go_simp; try with_reducible rfl)
        try simp only [Act.put, List.getElem_toArray, List.getElem_cons_zero, List.setIfInBounds_toArray, List.set_cons_zero, List.set_cons_succ]
        refine wpAnyL_take (i := 1) (v := ?_) rfl (by kernel_rfl) (by kernel_rfl) (by kernel_rfl) (by kernel_rfl) (fun _ _ _ h => h) (Or.inl ⟨by rfl, ?_⟩) hHeld ?_
        rotate_left 1
        · (intro w hSw; obtain ⟨q1, q2, q3, q4⟩ := hSw; go_simp; try with_reducible rfl)
        try simp only [Act.put, List.getElem_toArray, List.getElem_cons_zero, List.getElem_cons_succ, List.setIfInBounds_toArray, List.set_cons_zero, List.set_cons_succ]
        refine wpAnyL_take (i := 2) (v := ?_) rfl (by kernel_rfl) (by kernel_rfl) (by kernel_rfl) (by kernel_rfl) (fun _ _ _ h => h) (Or.inl ⟨by rfl, ?_⟩) hHeld ?_
        rotate_left 1
        · (intro w hSw; obtain ⟨q1, q2, q3, q4⟩ := hSw; go_simp; try with_reducible rfl)
        try simp only [Act.put, List.getElem_toArray, List.getElem_cons_zero, List.getElem_cons_succ, List.setIfInBounds_toArray, List.set_cons_zero, List.set_cons_succ]
        refine wpAnyL_take (i := 3) (v := ?_) rfl (by kernel_rfl) (by kernel_rfl) (by kernel_rfl) (by kernel_rfl) (fun _ _ _ h => h) (Or.inl ⟨by rfl, ?_⟩) hHeld ?_
        rotate_left 1
        · (intro w hSw; obtain ⟨q1, q2, q3, q4⟩ := hSw; go_simp; try with_reducible rfl)
        try simp only [Act.put, List.getElem_toArray, List.getElem_cons_zero, List.getElem_cons_succ, List.setIfInBounds_toArray, List.set_cons_zero, List.set_cons_succ]
        refine wpAnyL_take (i := 4) (v := ?_) rfl (by kernel_rfl) (by kernel_rfl) (by kernel_rfl) (by kernel_rfl) (fun _ _ _ h => h) (Or.inl ⟨by rfl, ?_⟩) hHeld ?_
        rotate_left 1
        · (intro w hSw; obtain ⟨q1, q2, q3, q4⟩ := hSw; go_simp; try with_reducible rfl)
        try simp only [Act.put, List.getElem_toArray, List.getElem_cons_zero, List.getElem_cons_succ, List.setIfInBounds_toArray, List.set_cons_zero, List.set_cons_succ]
        refine wpAnyL_take (i := 5) (v := ?_) rfl (by kernel_rfl) (by kernel_rfl) (by kernel_rfl) (by kernel_rfl) (fun _ _ _ h => h) (Or.inl ⟨by rfl, ?_⟩) hHeld ?_
        rotate_left 1
        · (intro w hSw; obtain ⟨q1, q2, q3, q4⟩ := hSw; go_simp; try with_reducible rfl)
        try simp only [Act.put, List.getElem_toArray, List.getElem_cons_zero, List.getElem_cons_succ, List.setIfInBounds_toArray, List.set_cons_zero, List.set_cons_succ]
        refine wpAnyL_take (i := 6) (v := ?_) rfl (by kernel_rfl) (by kernel_rfl) (by kernel_rfl) (by kernel_rfl) (fun _ _ _ h => h) (Or.inl ⟨by rfl, ?_⟩) hHeld ?_
        rotate_left 1
        · (intro w hSw; obtain ⟨q1, q2, q3, q4⟩ := hSw; go_simp; try with_reducible rfl)
        try simp only [Act.put, List.getElem_toArray, List.getElem_cons_zero, List.getElem_cons_succ, List.setIfInBounds_toArray, List.set_cons_zero, List.set_cons_succ]
        refine wpAnyL_take (i := 7) (v := ?_) rfl (by kernel_rfl) (by kernel_rfl) (by kernel_rfl) (by kernel_rfl) (fun _ _ _ h => h) (Or.inl ⟨by rfl, ?_⟩) hHeld ?_
        rotate_left 1
        · (intro w hSw; obtain ⟨q1, q2, q3, q4⟩ := hSw; go_simp; try with_reducible rfl)
        try simp only [Act.put, List.getElem_toArray, List.getElem_cons_zero, List.getElem_cons_succ, List.setIfInBounds_toArray, List.set_cons_zero, List.set_cons_succ]
        refine wpAnyL_take (i := 8) (v := ?_) rfl (by kernel_rfl) (by kernel_rfl) (by kernel_rfl) (by kernel_rfl) (fun _ _ _ h => h) (Or.inl ⟨by rfl, ?_⟩) hHeld ?_
        rotate_left 1
        · (intro w hSw; obtain ⟨q1, q2, q3, q4⟩ := hSw; go_simp; try with_reducible rfl)
        try simp only [Act.put, List.getElem_toArray, List.getElem_cons_zero, List.getElem_cons_succ, List.setIfInBounds_toArray, List.set_cons_zero, List.set_cons_succ]
        refine wpAnyL_take (i := 9) (v := ?_) rfl (by kernel_rfl) (by kernel_rfl) (by kernel_rfl) (by kernel_rfl) (fun _ _ _ h => h) (Or.inl ⟨by rfl, ?_⟩) hHeld ?_
        rotate_left 1
        · (intro w hSw; obtain ⟨q1, q2, q3, q4⟩ := hSw; go_simp; try with_reducible rfl)
        try simp only [Act.put, List.getElem_toArray, List.getElem_cons_zero, List.getElem_cons_succ, List.setIfInBounds_toArray, List.set_cons_zero, List.set_cons_succ]
        refine wpAnyL_take (i := 10) (v := ?_) rfl (by kernel_rfl) (by kernel_rfl) (by kernel_rfl) (by kernel_rfl) (fun _ _ _ h => h) (Or.inl ⟨by rfl, ?_⟩) hHeld ?_
        rotate_left 1
        · (intro w hSw; obtain ⟨q1, q2, q3, q4⟩ := hSw; go_simp; try with_reducible rfl)
        try simp only [Act.put, List.getElem_toArray, List.getElem_cons_zero, List.getElem_cons_succ, List.setIfInBounds_toArray, List.set_cons_zero, List.set_cons_succ]
        refine wpAnyL_take (i := 11) (v := ?_) rfl (by kernel_rfl) (by kernel_rfl) (by kernel_rfl) (by kernel_rfl) (fun _ _ _ h => h) (Or.inl ⟨by rfl, ?_⟩) hHeld ?_
        rotate_left 1
        · (intro w hSw; obtain ⟨q1, q2, q3, q4⟩ := hSw; go_simp; try with_reducible rfl)
        try simp only [Act.put, List.getElem_toArray, List.getElem_cons_zero, List.getElem_cons_succ, List.setIfInBounds_toArray, List.set_cons_zero, List.set_cons_succ]
        refine wpAnyL_take (i := 12) (v := ?_) rfl (by kernel_rfl) (by kernel_rfl) (by kernel_rfl) (by kernel_rfl) (fun _ _ _ h => h) (Or.inl ⟨by rfl, ?_⟩) hHeld ?_
        rotate_left 1
        · (intro w hSw; obtain ⟨q1, q2, q3, q4⟩ := hSw; go_simp; try with_reducible rfl)
        try simp only [Act.put, List.getElem_toArray, List.getElem_cons_zero, List.getElem_cons_succ, List.setIfInBounds_toArray, List.set_cons_zero, List.set_cons_succ]
        refine wpAnyL_take (i := 13) (v := ?_) rfl (by kernel_rfl) (by kernel_rfl) (by kernel_rfl) (by kernel_rfl) (fun _ _ _ h => h) (Or.inl ⟨by rfl, ?_⟩) hHeld ?_
        rotate_left 1
        · (intro w hSw; obtain ⟨q1, q2, q3, q4⟩ := hSw; go_simp; try with_reducible rfl)
        try simp only [Act.put, List.getElem_toArray, List.getElem_cons_zero, List.getElem_cons_succ, List.setIfInBounds_toArray, List.set_cons_zero, List.set_cons_succ]
        refine wpAnyL_take (i := 14) (v := ?_) rfl (by kernel_rfl) (by kernel_rfl) (by kernel_rfl) (by kernel_rfl) (fun _ _ _ h => h) (Or.inl ⟨by rfl, ?_⟩) hHeld ?_
        rotate_left 1
        · (intro w hSw; obtain ⟨q1, q2, q3, q4⟩ := hSw; go_simp; try with_reducible rfl)
        try simp only [Act.put, List.getElem_toArray, List.getElem_cons_zero, List.getElem_cons_succ, List.setIfInBounds_toArray, List.set_cons_zero, List.set_cons_succ]
        refine wpAnyL_take (i := 15) (v := ?_) rfl (by kernel_rfl) (by kernel_rfl) (by kernel_rfl) (by kernel_rfl) (fun _ _ _ h => h) (Or.inl ⟨by rfl, ?_⟩) hHeld ?_
        rotate_left 1
        · (intro w hSw; obtain ⟨q1, q2, q3, q4⟩ := hSw; go_simp; try with_reducible rfl)
        try simp only [Act.put, List.getElem_toArray, List.getElem_cons_zero, List.getElem_cons_succ, List.setIfInBounds_toArray, List.set_cons_zero, List.set_cons_succ]
        refine wpAnyL_take (i := 16) (v := ?_) rfl (by kernel_rfl) (by kernel_rfl) (by kernel_rfl) (by kernel_rfl) (fun _ _ _ h => h) (Or.inl ⟨by rfl, ?_⟩) hHeld ?_
        rotate_left 1
        · (intro w hSw; obtain ⟨q1, q2, q3, q4⟩ := hSw; go_simp; try with_reducible rfl)
        try simp only [Act.put, List.getElem_toArray, List.getElem_cons_zero, List.getElem_cons_succ, List.setIfInBounds_toArray, List.set_cons_zero, List.set_cons_succ]
        refine wpAnyL_take (i := 17) (v := ?_) rfl (by kernel_rfl) (by kernel_rfl) (by kernel_rfl) (by kernel_rfl) (fun _ _ _ h => h) (Or.inl ⟨by rfl, ?_⟩) hHeld ?_
        rotate_left 1
        · (intro w hSw; obtain ⟨q1, q2, q3, q4⟩ := hSw; go_simp; try with_reducible rfl)
        try simp only [Act.put, List.getElem_toArray, List.getElem_cons_zero, List.getElem_cons_succ, List.setIfInBounds_toArray, List.set_cons_zero, List.set_cons_succ]
        refine wpAnyL_last (by kernel_rfl) rfl (by kernel_rfl) (fun K hK => ?_)
        clear hHeld
        have hc7 := HCO.out
        have hz7 := HZO.out
        go_simp
        refine hK.out _ _ ?_
        clear hK K
        refine NoPanic.normal ?_
        go_wp2_with fail
        go_roundw
        case rel => (try rw [hwi]); exact HREL.out
        case measure => (try rw [hwi]); simp only [RowKit.intOf]; exact ms5 HIL.out
      · have hiI : ¬ ((i : Int) < nodes.length) := fun h => hil (Int.ofNat_lt.1 h)
        obtain rfl : i = nodes.length := Nat.le_antisymm hi (Nat.le_of_not_lt hil)
        have hXe : X = nodes.map fun x => ids[F[(atI ids x).getD 0]!]! := by
          refine List.ext_getElem (by rw [hXl, List.length_map]) (fun m h1 h2 => ?_)
          have h3 : m < nodes.length := by rw [← hXl]; exact h1
          have := hX m h3
          rw [Hp.get_of h1, Hp.get_of h3] at this
          rw [this, List.getElem_map]
        have HFIN : Hid (PtP Wb W sh rv rs tail av bas ids nodes (.returned (.tuple #[.slice (some ⟨og, 0, none⟩) nodes.length nodes.length, I 0])) wr) := by
          refine ⟨X, 0, ids, av1, gv1, gl1, _, by rw [hXe]; exact HR2.out, rfl, by rw [hXl]; exact Rw.base hrx HMV.out.size, HSN.out.G hgw, HMV.out.trans (.of_G HSN.out.g hgw), fun b hb e => ?_, HAO.out.fresh (F := fun _ => False) hgw.chg (fun _ q => q.elim) HMV.out.size⟩
          have h3 := (Rw.own hrx hb).1
          have h4 := (Rw.own HSN.out.ask e).2.1
          exact absurd h4 (Nat.not_lt.2 h3)
        clear hi hXl hrx hX hch hgw hil hXe
        go_wp2_with fail
        exact bodyPost_ret (v := .tuple #[.slice (some ⟨og, 0, none⟩) nodes.length nodes.length, I 0]) (by simp [results, Tryd.results13, go_sem]) rfl HFIN.out
end Go.Proofs.YtemkilffagjmcaaDoor
