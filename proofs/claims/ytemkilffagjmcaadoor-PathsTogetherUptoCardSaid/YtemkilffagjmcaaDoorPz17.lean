/- Paths: Order, of the program and of the document. -/
import Derived.Test.YtemkilffagjmcaaDoorPz16
namespace Go.Proofs.YtemkilffagjmcaaDoor
open Go.RowKit

/-- What Order tells, and what it asks. -/
def OrdR (rs : List Nr) (tail : Bool) (ids out : List Int) (ok : Bool) (code : Int) (asked : List Int) : Prop :=
  (4096 < ids.length ∧ out = [] ∧ ok = false ∧ code = 92 ∧ asked = []) ∨
  (ids.length ≤ 4096 ∧ ∃ (k : Nat) (id : Int), ids[k]? = some id ∧ (netOf rs tail id).2 ≠ 0 ∧ (∀ (j : Nat) id', j < k → ids[j]? = some id' → (netOf rs tail id').2 = 0) ∧ out = [] ∧ ok = false ∧ code = (netOf rs tail id).2 ∧ asked = ids.take (k + 1)) ∨
  (ids.length ≤ 4096 ∧ (∀ id ∈ ids, (netOf rs tail id).2 = 0) ∧ code = 0 ∧ asked = ids ∧ ∃ O, ordF (ids.map fun id => insL (atI ids) (netOf rs tail id).1) ids.length (List.replicate ids.length false) [] = (O, ok) ∧ (ok = true → out = O.map fun k => ids[k]!) ∧ (ok = false → out = []))
theorem OrdR.uniq {rs : List Nr} {tail : Bool} {ids out out' : List Int} {ok ok' : Bool} {code code' : Int} {asked asked' : List Int} (h : OrdR rs tail ids out ok code asked) (h' : OrdR rs tail ids out' ok' code' asked') : out = out' ∧ ok = ok' ∧ code = code' ∧ asked = asked' := by
  rcases h with ⟨a1, rfl, rfl, rfl, rfl⟩ | ⟨a1, k, id, a2, a3, a4, rfl, rfl, rfl, rfl⟩ | ⟨a1, a2, rfl, rfl, O, a3, a4, a5⟩
  · rcases h' with ⟨b1, rfl, rfl, rfl, rfl⟩ | ⟨b1, -⟩ | ⟨b1, -⟩
    · exact ⟨rfl, rfl, rfl, rfl⟩
    · omega
    · omega
  · rcases h' with ⟨b1, -⟩ | ⟨b1, k', id', b2, b3, b4, rfl, rfl, rfl, rfl⟩ | ⟨b1, b2, -⟩
    · omega
    · have hk : k = k' := by
        rcases Nat.lt_trichotomy k k' with q | q | q
        · exact absurd (b4 k id q a2) a3
        · exact q
        · exact absurd (a4 k' id' q b2) b3
      subst hk
      rw [a2] at b2
      cases b2
      exact ⟨rfl, rfl, rfl, rfl⟩
    · exact absurd (b2 id (List.mem_of_getElem? a2)) a3
  · rcases h' with ⟨b1, -⟩ | ⟨b1, k', id', b2, b3, b4, -⟩ | ⟨b1, b2, rfl, rfl, O', b3, b4, b5⟩
    · omega
    · exact absurd (a2 id' (List.mem_of_getElem? b2)) b3
    · rw [a3] at b3
      cases b3
      refine ⟨?_, rfl, rfl, rfl⟩
      cases hk : ok with
      | true => rw [a4 hk, b4 hk]
      | false => rw [a5 hk, b5 hk]
theorem ordF_lenO {L : List (List Nat)} {n : Nat} {O : List Nat} {ok : Bool} (h : ordF L n (List.replicate n false) [] = (O, ok)) : (ok = true → O.length = n) ∧ (ok = false → O.length < n) := by
  have h1 := ordF_len L n (List.replicate n false) []
  rw [h] at h1
  simp only [List.length_nil, Nat.zero_add] at h1
  exact h1
theorem OrdR.len {rs : List Nr} {tail : Bool} {ids out : List Int} {ok : Bool} {code : Int} {asked : List Int} (h : OrdR rs tail ids out ok code asked) : out.length ≤ 4096 ∧ asked.length ≤ 4096 ∧ ∀ id ∈ asked, id ∈ ids := by
  rcases h with ⟨a1, rfl, rfl, rfl, rfl⟩ | ⟨a1, k, id, a2, a3, a4, rfl, rfl, rfl, rfl⟩ | ⟨a1, a2, rfl, rfl, O, a3, a4, a5⟩
  · simp
  · refine ⟨by simp, ?_, fun id h => List.mem_of_mem_take h⟩
    rw [List.length_take]
    omega
  · refine ⟨?_, a1, fun id h => h⟩
    cases hk : ok with
    | true =>
      rw [a4 hk, List.length_map, (ordF_lenO a3).1 hk]
      exact a1
    | false => rw [a5 hk]; simp
theorem insL_in {ids : List Int} {l : List Ar} : ∀ m ∈ insL (atI ids) l, m < ids.length := fun m hm => by
  obtain ⟨a, -, ha⟩ := List.mem_filterMap.1 hm
  exact (List.getElem?_eq_some_iff.1 (atI_some ha)).1
set_option maxRecDepth 100000 in
set_option maxHeartbeats 2000000 in
theorem ordp_any (Wb W : World) (sh : Nat) (rv : Value) (rs : List Nr) (tail : Bool) (av gv : Value) (bas : List Int) (gl : List Value) (hbas : bas.length ≤ 4294967296) (sn : Shn Wb W sh rv rs tail av gv bas gl) (hrl : rs.length ≤ 1048576) (hal : ∀ id, (netOf rs tail id).1.length ≤ 1048576) (v : Value) (nodes : List Int) (hI : Ids W v nodes) (hnl : nodes.length ≤ 1048576) (ids : List Int) (hids : ids.Pairwise (· < ·)) (hmem : ∀ a, a ∈ ids ↔ a ∈ nodes) :
    Calls Tryd.prog 7 #[v, (.func (.func 9) #[ptr sh] #[])] W fun e W' => ∃ (out : List Int) (ok : Bool) (code : Int) (asked : List Int) (av' gv' : Value) (gl' : List Value) (nv : Value), OrdR rs tail ids out ok code asked ∧ e = .returned (.tuple #[nv, .bool ok, I code]) ∧ Rw W.heap.size 2 1 W' nv out.length (out.map I) ∧ Shn Wb W' sh rv rs tail av' gv' (bas ++ asked) gl' ∧ Mv Wb shTs (fun _ => False) W W' ∧ (∀ b, nv.ownBlock = some b → av'.ownBlock ≠ some b) ∧ AskO W W' av av' := by
  have HNP := hide (newpiece_any Wb W sh rv rs tail av gv bas gl hbas sn hrl hal v nodes hI hnl ids hids hmem)
  have HIDS := hide hids
  have HAL := hide hal
  have HGB := hide sn.g
  clear sn hal hids hmem hI
  go_enter Tryd.func7, Tryd.ntmps7
  go_wp2_with fail
  refine HNP.out.mono ?_
  rintro e w1 ⟨av1, gv1, gl1, asked, hsn, hao, hmv, hc⟩
  have HSN := hide hsn
  have HAO := hide hao
  have HMV := hide hmv
  clear hsn hao hmv HNP
  rcases hc with ⟨h1, rfl, rfl⟩ | ⟨h1, k, id, h2, h3, h4, rfl, rfl⟩ | ⟨h1, h2, hask, pb, mb, iv, ov, rfl, hpc, hne⟩
  · have HR : Hid (OrdR rs tail ids [] false 92 []) := .inl ⟨h1, rfl, rfl, rfl, rfl⟩
    clear h1
    go_wp2_with fail
    exact bodyPost_ret (v := .tuple #[.slice none 0 0, .bool false, I 92]) (by simp [results, Tryd.results7, go_sem]) rfl (⟨_, _, _, _, av1, gv1, gl1, _, HR.out, rfl, Rw.nil _ _ _ _, HSN.out, HMV.out, fun b hb => by simp [Value.ownBlock] at hb, HAO.out⟩)
  · have HR : Hid (OrdR rs tail ids [] false (netOf rs tail id).2 (ids.take (k + 1))) := .inr (.inl ⟨h1, k, id, h2, h3, h4, rfl, rfl, rfl, rfl⟩)
    have HH3 := hide h3
    clear h1 h2 h3 h4
    obtain ⟨code, hcode⟩ : ∃ code, code = (netOf rs tail id).2 := ⟨_, rfl⟩
    rw [← hcode] at HR HH3 ⊢
    have hcb : (code != 0) = true := by simpa using HH3.out
    have hcb2 : (code == 0) = false := beq_eq_false_iff_ne.2 HH3.out
    clear hcode
    go_wp2_with fail
    exact bodyPost_ret (v := .tuple #[.slice none 0 0, .bool false, I code]) (by simp [results, Tryd.results7, go_sem]) rfl (⟨_, _, _, _, av1, gv1, gl1, _, HR.out, rfl, Rw.nil _ _ _ _, HSN.out, HMV.out, fun b hb => by simp [Value.ownBlock] at hb, HAO.out⟩)
  · rw [hask] at HSN
    clear hask
    obtain ⟨O, ok, hO⟩ : ∃ O ok, ordF (ids.map fun id => insL (atI ids) (netOf rs tail id).1) ids.length (List.replicate ids.length false) [] = (O, ok) := ⟨_, _, rfl⟩
    have HOA := hide (order_any w1 W.heap.size pb mb iv ov ids _ (ids.map fun id => insL (atI ids) (netOf rs tail id).1) hpc HIDS.out (List.length_map _) h1 (fun l hl => by
      obtain ⟨id, -, rfl⟩ := List.mem_map.1 hl
      exact Nat.le_trans (insL_len _ _) (HAL.out id)) (fun l hl => by
      obtain ⟨id, -, rfl⟩ := List.mem_map.1 hl
      exact insL_in) (O, ok) hO)
    have HPC := hide hpc
    have HR : Hid (∀ out, (ok = true → out = O.map fun k => ids[k]!) → (ok = false → out = []) → OrdR rs tail ids out ok 0 ids) := fun out q1 q2 => .inr (.inr ⟨h1, h2, rfl, rfl, O, hO, q1, q2⟩)
    have hlo := ordF_lenO hO
    obtain ⟨ia, ic, rfl⟩ := Rw.form hpc.ids
    have HLO := hide hlo
    clear h1 h2 hpc hne hO hlo
    go_wp2_with fail
    refine HOA.out.mono ?_
    rintro e w2 ⟨xv, rfl, hg2, hrx⟩
    have hrx2 : Rw W.heap.size 2 1 w2 xv O.length ((O.map fun k => ids[k]!).map I) := Rw.base hrx HMV.out.size
    have HNE : Hid (∀ b, xv.ownBlock = some b → av1.ownBlock ≠ some b) := fun b hb e => by
      have h3 := (Rw.own hrx hb).1
      have h4 := (Rw.own HSN.out.ask e).2.1
      omega
    have HRX := hide hrx2
    have HS2 := hide (HSN.out.G hg2)
    have HM2 : Hid (Mv Wb shTs (fun _ => False) W w2) := HMV.out.trans (.of_G HSN.out.g hg2)
    have HA2 : Hid (AskO W w2 av av1) := HAO.out.fresh (F := fun _ => False) hg2.chg (fun _ q => q.elim) HMV.out.size
    have cp := (HPC.out.blk.G hg2).cell
    obtain ⟨xa, xc, rfl⟩ := Rw.form hrx2
    clear hrx hrx2 hg2 HOA
    cases ok with
    | true =>
      have hl := HLO.out.1 rfl
      have HL := hide hl
      have hnl2 : ¬ ((O.length : Int) < ids.length) := by omega
      have HF : Hid (∃ (out : List Int) (ok : Bool) (code : Int) (asked : List Int) (av' gv' : Value) (gl' : List Value) (nv : Value), OrdR rs tail ids out ok code asked ∧ Ending.returned (.tuple #[.slice xa O.length xc, .bool true, I 0]) = .returned (.tuple #[nv, .bool ok, I code]) ∧ Rw W.heap.size 2 1 w2 nv out.length (out.map I) ∧ Shn Wb w2 sh rv rs tail av' gv' (bas ++ asked) gl' ∧ Mv Wb shTs (fun _ => False) W w2 ∧ (∀ b, nv.ownBlock = some b → av'.ownBlock ≠ some b) ∧ AskO W w2 av av') := ⟨O.map fun k => ids[k]!, true, 0, ids, av1, gv1, gl1, _, HR.out _ (fun _ => rfl) (fun q => by cases q), rfl, by rw [List.length_map]; exact HRX.out, HS2.out, HM2.out, HNE.out, HA2.out⟩
      clear hl
      go_wp2_with fail
      exact bodyPost_ret (v := .tuple #[.slice xa O.length xc, .bool true, I 0]) (by simp [results, Tryd.results7, go_sem]) rfl (HF.out)
    | false =>
      have hl := HLO.out.2 rfl
      have hl2 : ((O.length : Int) < ids.length) := Int.ofNat_lt.2 hl
      have HF : Hid (∃ (out : List Int) (ok : Bool) (code : Int) (asked : List Int) (av' gv' : Value) (gl' : List Value) (nv : Value), OrdR rs tail ids out ok code asked ∧ Ending.returned (.tuple #[.slice none 0 0, .bool false, I 0]) = .returned (.tuple #[nv, .bool ok, I code]) ∧ Rw W.heap.size 2 1 w2 nv out.length (out.map I) ∧ Shn Wb w2 sh rv rs tail av' gv' (bas ++ asked) gl' ∧ Mv Wb shTs (fun _ => False) W w2 ∧ (∀ b, nv.ownBlock = some b → av'.ownBlock ≠ some b) ∧ AskO W w2 av av') := ⟨[], false, 0, ids, av1, gv1, gl1, _, HR.out _ (fun q => by cases q) (fun _ => rfl), rfl, Rw.nil _ _ _ _, HS2.out, HM2.out, fun b hb => by simp [Value.ownBlock] at hb, HA2.out⟩
      clear hl
      go_wp2_with fail
      exact bodyPost_ret (v := .tuple #[.slice none 0 0, .bool false, I 0]) (by simp [results, Tryd.results7, go_sem]) rfl (HF.out)
end Go.Proofs.YtemkilffagjmcaaDoor
