/- Paths: the document's each, the walk. -/
import Derived.Test.YtemkilffagjmcaaDoorPz4
import Derived.BigRegion
namespace Go.Proofs.YtemkilffagjmcaaDoor
section
section
open Go.RowKit

theorem len_is {w : World} {mb : Nat} {l : List Int} (h : Mp (fun n : Int => I n) 2 w mb (gF l)) (ids : List Int) (hnd : ids.Nodup) (hmem : ∀ a, a ∈ ids ↔ a ∈ l) (hr : ∀ a ∈ l, R64 a) : ∀ ty, (Builtin.len_ #[58] ty #[.map (some mb)]).run Tryd.prog w = .ok (I (ids.length : Int)) w := by
  obtain ⟨s, h1, h2, h3⟩ := len_of h
  have e : s = ids.length := Nat.le_antisymm (h2 ids hnd (fun a _ ha => by
    rw [hmem]
    by_cases q : a ∈ l
    · exact q
    · exact absurd (by unfold gF; rw [if_neg q]) ha)) (h3 ids hnd (fun a ha => ⟨hr a ((hmem a).1 ha), by unfold gF; rw [if_pos ((hmem a).1 ha)]; simp⟩))
  rw [← e]
  exact h1
/-- What newPiece leaves. -/
def NPost (Wb W : World) (sh : Nat) (rv : Value) (rs : List Nr) (tail : Bool) (av : Value) (bas ids : List Int) (e : Ending) (W' : World) : Prop :=
  ∃ (av' gv' : Value) (gl' : List Value) (asked : List Int), Shn Wb W' sh rv rs tail av' gv' (bas ++ asked) gl' ∧ AskO W W' av av' ∧ Mv Wb shTs (fun _ => False) W W' ∧
    ((4096 < ids.length ∧ asked = [] ∧ e = .returned (.tuple #[.pointer none, I 92])) ∨
     (ids.length ≤ 4096 ∧ ∃ (k : Nat) (id : Int), ids[k]? = some id ∧ (netOf rs tail id).2 ≠ 0 ∧ (∀ (j : Nat) id', j < k → ids[j]? = some id' → (netOf rs tail id').2 = 0) ∧ asked = ids.take (k + 1) ∧ e = .returned (.tuple #[.pointer none, I (netOf rs tail id).2])) ∨
     (ids.length ≤ 4096 ∧ (∀ id ∈ ids, (netOf rs tail id).2 = 0) ∧ asked = ids ∧ ∃ (pb mb : Nat) (iv ov : Value), e = .returned (.tuple #[ptr pb, I 0]) ∧ Pc W.heap.size W' pb mb iv ov ids (fun a => (atI ids a).map fun (j : Nat) => I (j : Int)) (ids.map fun id => insL (atI ids) (netOf rs tail id).1) ∧ (∀ b, iv.ownBlock = some b → av'.ownBlock ≠ some b)))
theorem AskO.fresh {W w w' : World} {av av' : Value} {F : Nat → Prop} (h : AskO W w av av') (c : Chg F w w') (hF : ∀ b, F b → W.heap.size ≤ b) (hz : W.heap.size ≤ w.heap.size) : AskO W w' av av' :=
  ⟨fun b ys hb hn => (c.block b (Nat.lt_of_lt_of_le hb.lt hz) (fun q => by have := hF b q; have := hb.lt; omega)).trans (h.1 b ys hb hn), h.2⟩
theorem Pc.ask {lo : Nat} {Wb w w' : World} {pb mb : Nat} {iv ov av av' : Value} {ids : List Int} {g : Int → Option Value} {L : List (List Nat)} (h : Pc lo w pb mb iv ov ids g L) (m : Mv Wb shTs (fun _ => False) w w') (a : AskO w w' av av') (hne : ∀ b, iv.ownBlock = some b → av.ownBlock ≠ some b) : Pc lo w' pb mb iv ov ids g L := by
  obtain ⟨vs, h1, h2⟩ := h.arc
  refine ⟨h.blk.mv m (by decide), h.ids.keep (fun b hb => ?_), h.map.mv m (fun q => q), ⟨vs, Rw.mv h1 m (by decide), fun j v l p q => Rw.mv (h2 j v l p q) m (by decide)⟩, h.lo⟩
  obtain ⟨_, _, ys, hy⟩ := Rw.own h.ids hb
  exact a.1 b ys hy (hne b hb)
theorem Pc.app {lo : Nat} {w w9 : World} {pb mb : Nat} {iv ov v9 tv : Value} {ids : List Int} {g : Int → Option Value} {L : List (List Nat)} {l : List Nat} {vs : List Value} (h : Pc lo w pb mb iv ov ids g L) (hv : Rw lo 62 1 w ov L.length vs) (ha : ∀ (j : Nat) v l, vs[j]? = some v → L[j]? = some l → Rw lo 3 1 w v l.length (l.map fun (i : Nat) => I (i : Int))) (ht : Rw lo 3 1 w tv l.length (l.map fun (i : Nat) => I (i : Int))) (c : Chg (fun q => ov.ownBlock = some q) w w9) (h9 : Rw lo 62 1 w9 v9 (L.length + 1) (vs ++ [tv])) : Pc lo (w9.setCell ⟨pb, 2, none⟩ v9) pb mb iv v9 ids g (L ++ [l]) := by
  have hb9 : Blk w9 pb 61 [iv, .map (some mb), ov] := h.blk.chg c (Rw.offb hv h.blk (by decide))
  have hk : ∀ e v n xs, e ≠ 62 → e ≠ 61 → Rw lo e 1 w v n xs → Rw lo e 1 (w9.setCell ⟨pb, 2, none⟩ v9) v n xs := fun e v n xs h1 h2 hr => by
    have hr9 : Rw lo e 1 w9 v n xs := hr.chg c (fun b hb q => by
      obtain ⟨_, _, ys, hy⟩ := Rw.own hr hb
      exact Rw.offb hv hy (fun e2 => h1 e2.symm) q)
    exact hr9.keep (fun b hb' => Below.heap_setCell _ _ _ _ (fun e3 => Rw.offb hr9 hb9 h2 (by rw [hb']; exact congrArg some e3)))
  have h9s : Rw lo 62 1 (w9.setCell ⟨pb, 2, none⟩ v9) v9 (L.length + 1) (vs ++ [tv]) := h9.keep (fun b hb' => Below.heap_setCell _ _ _ _ (fun e3 => Rw.offb h9 hb9 (by decide) (by rw [hb']; exact congrArg some e3)))
  obtain ⟨es, cl, hmap⟩ := h.map.isMap
  have hvl : vs.length = L.length := by have := hv.1; omega
  refine ⟨hb9.set 2 _, hk _ _ _ _ (by decide) (by decide) h.ids, ?_, ⟨vs ++ [tv], by rw [List.length_append]; exact h9s, fun j v l' hj hl => ?_⟩, h.lo⟩
  · refine (h.map.chg c (fun q => ?_)).keep (Below.heap_setCell _ _ _ _ (fun e => ?_))
    · obtain ⟨_, _, ys, hy⟩ := Rw.own hv q
      exact hy.nomap hmap
    · have e2 : mb = pb := e
      have h3 := h.blk
      rw [← e2] at h3
      exact h3.nomap hmap
  · by_cases hjl : j < vs.length
    · rw [List.getElem?_append_left hjl] at hj
      rw [List.getElem?_append_left (by omega)] at hl
      exact hk _ _ _ _ (by decide) (by decide) (ha j v l' hj hl)
    · have hj0 : j = vs.length := by
        have := (List.getElem?_eq_some_iff.1 hj).1
        simp at this
        omega
      subst hj0
      simp at hj
      rw [hvl] at hl
      simp at hl
      subst hj hl
      exact hk _ _ _ _ (by decide) (by decide) ht
theorem wone4 (i : Nat) (h : i ≤ 17592186044416) : wrap64 ((i : Int) + 1) = (i : Int) + 1 := by unfold wrap64; omega
set_option maxRecDepth 100000 in
set_option maxHeartbeats 4000000 in
theorem newpiece_any (Wb W : World) (sh : Nat) (rv : Value) (rs : List Nr) (tail : Bool) (av gv : Value) (bas : List Int) (gl : List Value) (hbas : bas.length ≤ 4294967296) (sn : Shn Wb W sh rv rs tail av gv bas gl) (hrl : rs.length ≤ 1048576) (hal : ∀ id, (netOf rs tail id).1.length ≤ 1048576) (v : Value) (nodes : List Int) (hI : Ids W v nodes) (hnl : nodes.length ≤ 1048576) (ids : List Int) (hids : ids.Pairwise (· < ·)) (hmem : ∀ a, a ∈ ids ↔ a ∈ nodes) :
    Calls Tryd.prog 20 #[v, (.func (.func 9) #[ptr sh] #[])] W (NPost Wb W sh rv rs tail av bas ids) := by
  obtain ⟨la, lc, rfl⟩ : ∃ la lc, v = .slice la nodes.length lc := by obtain ⟨a, c, e, -⟩ := hI.at_; exact ⟨a, c, e⟩
  have q0 : ∀ w : World, (binOp .eql 35 (.func (.func 9) #[ptr sh] #[]) .nilFunc).run Tryd.prog w = .ok (.bool false) w := fun w => by rfl
  have hmm := @run_makeMap Tryd.prog
  have hG0 : G W ((W.alloc (.map #[] 0)).alloc (.cells #[.slice none 0 0, .map (some W.heap.size), .slice none 0 0] 61)) := ((G.refl W).alloc _).alloc _
  have hB0 : Blk ((W.alloc (.map #[] 0)).alloc (.cells #[.slice none 0 0, .map (some W.heap.size), .slice none 0 0] 61)) (W.heap.size + 1) 61 [.slice none 0 0, .map (some W.heap.size), .slice none 0 0] := by
    have := Blk.new (W.alloc (.map #[] 0)) [.slice none 0 0, .map (some W.heap.size), .slice none 0 0] 61
    rw [World.size_alloc] at this
    exact this
  have hM0 : Mp (fun n : Int => I n) 2 ((W.alloc (.map #[] 0)).alloc (.cells #[.slice none 0 0, .map (some W.heap.size), .slice none 0 0] 61)) W.heap.size (gF (nodes.take 0)) := ((Mp.made W (fun n : Int => I n) 2).G ((G.refl _).alloc _)).congr (fun a => by simp [gF])
  have hnd : ids.Nodup := hids.imp (fun h => Int.ne_of_lt h)
  have HG0 := hide hG0
  have HB0 := hide hB0
  have HM0 := hide hM0
  have HI := hide hI
  have HSN := hide sn
  have HAL := hide hal
  have HIDS := hide hids
  have HMEM := hide hmem
  have HND := hide hnd
  have HNL := hide hnl
  have HBAS := hide hbas
  have HLL : Hid (nodes.length < maxLen) := Nat.lt_of_le_of_lt hnl (of_decide_eq_true (by kernel_rfl))
  clear hG0 hB0 hM0 hI sn hal hids hmem hnd hnl hbas
  go_enter Tryd.func20, Tryd.ntmps20
  go_wp2_with fail
  generalize hw0 : ((W.alloc (.map #[] 0)).alloc (.cells #[.slice none 0 0, .map (some W.heap.size), .slice none 0 0] 61)) = w0 at *
  obtain ⟨pb, hpb⟩ : ∃ pb, pb = W.heap.size + 1 := ⟨_, rfl⟩
  obtain ⟨mb, hmb⟩ : ∃ mb, mb = W.heap.size := ⟨_, rfl⟩
  have HLO : Hid (W.heap.size ≤ pb ∧ W.heap.size ≤ mb) := by show _ ∧ _; omega
  have HNE : Hid (pb ≠ mb) := by show _ ≠ _; omega
  rw [← hpb, ← hmb] at HB0
  rw [← hmb] at HM0
  rw [← hpb, ← hmb]
  clear hw0 hpb hmb
  go_loopw [22] (fun iv wr => ∃ i : Nat, iv = I i ∧ i ≤ nodes.length ∧ Mp (fun n : Int => I n) 2 wr mb (gF (nodes.take i)) ∧ Blk wr pb 61 [.slice none 0 0, .map (some mb), .slice none 0 0] ∧ G W wr ∧ (ids.filter (fun a => decide (a ∈ nodes.take i))).length ≤ 4096) (fun iv _ => nodes.length - (RowKit.intOf iv).toNat)
  case atStart => exact ⟨0, rfl, Nat.zero_le _, HM0.out, HB0.out, HG0.out, by rw [List.filter_eq_nil_iff.2 (by simp)]; exact Nat.zero_le _⟩
  case round =>
    obtain ⟨i, rfl, hi, hm, hb, hg, hf⟩ := hrel
    by_cases hil : i < nodes.length
    · have hiI : (i : Int) < nodes.length := Int.ofNat_lt.2 hil
      obtain ⟨n, hn⟩ : ∃ n, nodes[i]? = some n := ⟨_, List.getElem?_eq_getElem hil⟩
      obtain ⟨b, off, rfl, hcell⟩ : ∃ b off, la = some ⟨b, off, none⟩ ∧ wr.cell? ⟨b, off + i, none⟩ = some (I n) := by
        obtain ⟨a', c', e', -, h1⟩ := (HI.out.G hg).at_
        simp only [Value.slice.injEq] at e'
        obtain ⟨rfl, -, -⟩ := e'
        rcases h1 with rfl | ⟨b, off, rfl, h2⟩
        · simp at hil
        · exact ⟨b, off, rfl, by rw [h2 i hil, List.getElem?_map, hn]; rfl⟩
      have hR : R64 n := HI.out.ok n (List.mem_of_getElem? hn)
      have hcb := hb.cell
      have hwi : wrap64 ((i : Int) + 1) = (i : Int) + 1 := wone4 i (Nat.le_trans (Nat.le_of_lt hil) (Nat.le_trans HNL.out (by decide)))
      obtain ⟨dd, hdd⟩ : ∃ dd, dd = ids.filter (fun a => decide (a ∈ nodes.take (i + 1))) := ⟨_, rfl⟩
      have HDN : Hid (dd.Nodup) := by rw [hdd]; exact HND.out.filter _
      have HDM : Hid (∀ a, a ∈ dd ↔ a ∈ nodes.take (i + 1)) := fun a => by
        rw [hdd, List.mem_filter]
        simp only [decide_eq_true_eq]
        exact ⟨fun h => h.2, fun h => ⟨(HMEM.out a).2 (List.mem_of_mem_take h), h⟩⟩
      have HDR : Hid (∀ a ∈ nodes.take (i + 1), R64 a) := fun a ha => HI.out.ok a (List.mem_of_mem_take ha)
      have HDL : Hid (dd.length ≤ ids.length) := by rw [hdd]; exact List.length_filter_le _ _
      have HDD := hide hdd
      have HM := hide hm
      have HB := hide hb
      have HG := hide hg
      have HIL := hide hil
      have HN := hide hn
      have HR := hide hR
      clear hi hm hb hg hf hil hn hR hdd
      by_cases h4 : 4096 < dd.length
      · have h4I : (4096 : Int) < dd.length := Int.ofNat_lt.2 h4
        have h4d : decide ((4096 : Int) < dd.length) = true := decide_eq_true h4I
        have HI4 : Hid (4096 < ids.length) := Nat.lt_of_lt_of_le h4 HDL.out
        clear h4
        go_wp2_with (first | (at_mapUpdate; refine wpList_put _ rfl _ _ _ 58 rfl HM.out rfl kyI nodes (fun y _ hy => by unfold gF at hy; split at hy; exact List.mem_of_mem_take (by assumption); exact absurd rfl hy) HLL.out Tryd.underlying58 n rfl (kyI_ok.2 HR.out) _ rfl ?_; intro w2 hm2 hch2 hsz2; have HM2 := hide (hm2.congr (gF_step HN.out)); have HC2 := hide hch2; have cb2 := (HB.out.chg hch2 HNE.out).cell; have hlr := len_is HM2.out dd HDN.out HDM.out HDR.out; clear hm2 hch2 hsz2 hcb hcell) | fail)
        go_ret2
        have hg2 : G W w2 := ((HG.out.chg (F := fun _ => False)).more HC2.out (fun b hb e => by have := HLO.out.2; omega)).G (fun _ q => q.elim)
        exact ⟨av, gv, gl, [], by rw [List.append_nil]; exact HSN.out.G hg2, (AskO.refl W av).right (Mv.of_G (ts := []) (mp := fun _ => False) HSN.out.g hg2) (by simp), Mv.of_G HSN.out.g hg2, .inl ⟨HI4.out, rfl, rfl⟩⟩
      · have h4I : ¬ ((4096 : Int) < dd.length) := fun h => h4 (Int.ofNat_lt.1 h)
        have h4d : decide ((4096 : Int) < dd.length) = false := decide_eq_false h4I
        have HI4 : Hid (dd.length ≤ 4096) := Nat.le_of_not_lt h4
        clear h4
        go_wp2_with (first | (at_mapUpdate; refine wpList_put _ rfl _ _ _ 58 rfl HM.out rfl kyI nodes (fun y _ hy => by unfold gF at hy; split at hy; exact List.mem_of_mem_take (by assumption); exact absurd rfl hy) HLL.out Tryd.underlying58 n rfl (kyI_ok.2 HR.out) _ rfl ?_; intro w2 hm2 hch2 hsz2; have HM2 := hide (hm2.congr (gF_step HN.out)); have HC2 := hide hch2; have cb2 := (HB.out.chg hch2 HNE.out).cell; have hlr := len_is HM2.out dd HDN.out HDM.out HDR.out; clear hm2 hch2 hsz2 hcb hcell) | fail)
        have hg2 : G W w2 := ((HG.out.chg (F := fun _ => False)).more HC2.out (fun b hb e => by have := HLO.out.2; omega)).G (fun _ q => q.elim)
        have HREL : Hid (∃ i' : Nat, I ((i : Int) + 1) = I i' ∧ i' ≤ nodes.length ∧ Mp (fun n : Int => I n) 2 w2 mb (gF (nodes.take i')) ∧ Blk w2 pb 61 [.slice none 0 0, .map (some mb), .slice none 0 0] ∧ G W w2 ∧ (ids.filter (fun a => decide (a ∈ nodes.take i'))).length ≤ 4096) := ⟨i + 1, by simp, HIL.out, HM2.out, HB.out.chg HC2.out HNE.out, hg2, by rw [← HDD.out]; exact HI4.out⟩
        clear hg2
        go_roundw
        case rel => (try rw [hwi]); exact HREL.out
        case measure => (try rw [hwi]); simp only [RowKit.intOf]; exact ms5 HIL.out
    · have hiI : ¬ ((i : Int) < nodes.length) := fun h => hil (Int.ofNat_lt.1 h)
      obtain rfl : i = nodes.length := Nat.le_antisymm hi (Nat.le_of_not_lt hil)
      rw [List.take_length] at hm hf
      have HI4 : Hid (ids.length ≤ 4096) := by
        have e : ids.filter (fun a => decide (a ∈ nodes)) = ids := List.filter_eq_self.2 (fun a ha => decide_eq_true ((HMEM.out a).1 ha))
        rw [e] at hf
        exact hf
      have HM := hide hm
      have HB := hide hb
      have HG := hide hg
      have hcb := hb.cell
      have HKY := hide (keys_call wr mb)
      have HSO := hide (sorted_call wr mb (gF nodes) ids hm HIDS.out (fun a => by
        rw [HMEM.out a]
        unfold gF
        by_cases q : a ∈ nodes
        · rw [if_pos q]; exact ⟨fun _ => ⟨HI.out.ok a q, by simp⟩, fun _ => q⟩
        · rw [if_neg q]; exact ⟨fun h => absurd h q, fun h => absurd rfl h.2⟩) HI4.out)
      clear hi hm hb hg hf hil
      obtain ⟨wA, rfl⟩ : ∃ wA, wA = wr := ⟨_, rfl⟩
      go_wp2_with fail
      refine HKY.out.mono ?_
      rintro e w1 ⟨rfl, rfl⟩
      go_wp2_with fail
      refine HSO.out.mono ?_
      rintro e w3 ⟨iv, rfl, hiv, hg3⟩
      obtain ⟨ia, ic, rfl⟩ := Rw.form hiv
      have gk : G wA (wA.alloc (.cells #[.map (some mb)] 58)) := (G.refl _).alloc _
      have gA3 : G wA w3 := gk.trans hg3
      have hb3 := HB.out.G gA3
      have hm3 := HM.out.G gA3
      have HPC : Hid (Pc W.heap.size (w3.setCell ⟨pb, 0, none⟩ (.slice ia ids.length ic)) pb mb (.slice ia ids.length ic) (.slice none 0 0) ids (atB ids 0) []) := by
        refine ⟨hb3.set 0 _, ?_, ?_, ⟨[], Rw.nil _ _ _ _, fun j v l h => by simp at h⟩, HLO.out⟩
        · have hr3 : Rw W.heap.size 2 1 w3 (.slice ia ids.length ic) ids.length (ids.map I) := Rw.base hiv (Nat.le_trans HG.out.size gk.size)
          exact hr3.keep (fun b hb' => Below.heap_setCell _ _ _ _ (fun e => Rw.offb hr3 hb3 (by decide) (by rw [hb']; exact congrArg some e)))
        · refine (hm3.keep (Below.heap_setCell _ _ _ _ (fun e => HNE.out e.symm))).congr (fun a => ?_)
          unfold gF atB
          by_cases q : a ∈ nodes
          · rw [if_pos q]
            cases hk : atI ids a with
            | none => exact absurd ((HMEM.out a).2 q) (atI_none.1 hk)
            | some j => simp
          · rw [if_neg q, atI_none.2 (fun h => q ((HMEM.out a).1 h))]
            rfl
      have HG4 : Hid (G W (w3.setCell ⟨pb, 0, none⟩ (.slice ia ids.length ic))) := (HG.out.trans gA3).setCell HLO.out.1 _
      have c3 := hb3.cell
      have z3 := hb3.frozen
      have c4 := HPC.out.blk.cell
      clear hiv hg3 gk gA3 hb3 hm3 HKY HSO HM HB HG hcb
      go_wp2_with fail
      generalize w3.setCell ⟨pb, 0, none⟩ (.slice ia ids.length ic) = w4 at HPC HG4 c4 ⊢
      clear c3 z3
      go_wp2_with fail
      have HLI : Hid (ids.length < maxLen) := Nat.lt_of_le_of_lt HI4.out (of_decide_eq_true (by kernel_rfl))
      have HLL := HLI
      go_loopw [52] (fun iv wr => ∃ i : Nat, iv = I i ∧ i ≤ ids.length ∧ Pc W.heap.size wr pb mb (.slice ia ids.length ic) (.slice none 0 0) ids (atB ids i) [] ∧ G W wr) (fun iv _ => ids.length - (RowKit.intOf iv).toNat)
      case atStart => exact ⟨0, rfl, Nat.zero_le _, HPC.out, HG4.out⟩
      case round =>
        obtain ⟨i, rfl, hi, hpc, hg⟩ := hrel
        by_cases hil : i < ids.length
        · have hiI : (i : Int) < ids.length := Int.ofNat_lt.2 hil
          obtain ⟨n, hn⟩ : ∃ n, ids[i]? = some n := ⟨_, List.getElem?_eq_getElem hil⟩
          obtain ⟨g, cap, hee, -, hce, -⟩ := hpc.ids.cell (by omega)
          obtain ⟨rfl, rfl⟩ : ia = some ⟨g, 0, none⟩ ∧ ic = cap := by simp at hee; exact hee
          have ci : wr.cell? ⟨g, i, none⟩ = some (I n) := by rw [hce i (by omega), List.getElem?_map, hn]; rfl
          have hcb := hpc.blk.cell
          have hwi : wrap64 ((i : Int) + 1) = (i : Int) + 1 := wone4 i (Nat.le_trans (Nat.le_of_lt hil) (Nat.le_trans HI4.out (by decide)))
          have HR : Hid (R64 n) := HI.out.ok n ((HMEM.out n).1 (List.mem_of_getElem? hn))
          have HPC := hide hpc
          have HG := hide hg
          have HIL := hide hil
          have HN := hide hn
          clear hi hpc hg hil hn hee hce
          go_wp2_with (first | (at_mapUpdate; refine wpList_put _ rfl _ _ _ 58 rfl HPC.out.map rfl kyI ids (fun y _ hy => by unfold atB at hy; cases hk : atI ids y with | none => (rw [hk] at hy; exact absurd rfl hy) | some j => exact List.mem_of_getElem? (atI_some hk)) HLL.out Tryd.underlying58 n rfl (kyI_ok.2 HR.out) _ rfl ?_; intro w2 hm2 hch2 hsz2; have HP2 := hide (HPC.out.map_ hch2 (hm2.congr (atB_step HIDS.out HN.out))); have HC2 := hide hch2; clear hm2 hch2 hsz2 hcb ci) | fail)
          have hg2 : G W w2 := ((HG.out.chg (F := fun _ => False)).more HC2.out (fun b hb e => by have := HLO.out.2; omega)).G (fun _ q => q.elim)
          have HG2 := hide hg2
          clear hg2
          go_roundw
          case rel => (try rw [hwi]); exact ⟨i + 1, by simp, HIL.out, HP2.out, HG2.out⟩
          case measure => (try rw [hwi]); simp only [RowKit.intOf]; exact ms5 HIL.out
        · have hiI : ¬ ((i : Int) < ids.length) := fun h => hil (Int.ofNat_lt.1 h)
          obtain rfl : i = ids.length := Nat.le_antisymm hi (Nat.le_of_not_lt hil)
          have HPC := hide hpc
          have HG := hide hg
          have hcb := hpc.blk.cell
          clear hi hpc hg hil HLL HLI
          obtain ⟨wB, rfl⟩ : ∃ wB, wB = wr := ⟨_, rfl⟩
          go_wp2_with fail
          go_loopw [69] (fun iv wr => ∃ (k : Nat) (av' gv' : Value) (gl' : List Value) (ov : Value), iv = I k ∧ k ≤ ids.length ∧ Shn Wb wr sh rv rs tail av' gv' (bas ++ ids.take k) gl' ∧ AskO W wr av av' ∧ Mv Wb shTs (fun _ => False) W wr ∧ Pc W.heap.size wr pb mb (.slice ia ids.length ic) ov ids (fun a => (atI ids a).map fun (j : Nat) => I (j : Int)) ((ids.take k).map fun id => insL (atI ids) (netOf rs tail id).1) ∧ (∀ b, (Value.slice ia ids.length ic).ownBlock = some b → av'.ownBlock ≠ some b) ∧ ∀ (j : Nat) id', j < k → ids[j]? = some id' → (netOf rs tail id').2 = 0) (fun iv _ => ids.length - (RowKit.intOf iv).toNat)
          case atStart =>
            refine ⟨0, av, gv, gl, .slice none 0 0, rfl, Nat.zero_le _, ?_, ?_, ?_, ?_, ?_, fun j id' h => absurd h (by omega)⟩
            · rw [List.take_zero, List.append_nil]; exact HSN.out.G HG.out
            · exact (AskO.refl W av).right (Mv.of_G (ts := []) (mp := fun _ => False) HSN.out.g HG.out) (by simp)
            · exact Mv.of_G HSN.out.g HG.out
            · exact ⟨HPC.out.blk, HPC.out.ids, HPC.out.map.congr (atB_end ids), HPC.out.arc, HPC.out.lo⟩
            · intro b hb e
              have h1 := (Rw.own HPC.out.ids hb).1
              have h2 := (Rw.own HSN.out.ask e).2.1
              omega
          case round =>
            obtain ⟨k, av1, gv1, gl1, ov, rfl, hk, hsn, hao, hmv, hpc, hne, hcd⟩ := hrel
            by_cases hkl : k < ids.length
            · have hkI : (k : Int) < ids.length := Int.ofNat_lt.2 hkl
              obtain ⟨id, hid⟩ : ∃ id, ids[k]? = some id := ⟨_, List.getElem?_eq_getElem hkl⟩
              obtain ⟨g, cap, hee, -, hce, -⟩ := hpc.ids.cell (by omega)
              obtain ⟨rfl, rfl⟩ : ia = some ⟨g, 0, none⟩ ∧ ic = cap := by simp at hee; exact hee
              have ci : wr.cell? ⟨g, k, none⟩ = some (I id) := by rw [hce k (by omega), List.getElem?_map, hid]; rfl
              have hR : R64 id := HI.out.ok id ((HMEM.out id).1 (List.mem_of_getElem? hid))
              have hwk : wrap64 ((k : Int) + 1) = (k : Int) + 1 := wone4 k (Nat.le_trans (Nat.le_of_lt hkl) (Nat.le_trans HI4.out (by decide)))
              have htk : ids.take (k + 1) = ids.take k ++ [id] := by rw [List.take_add_one, hid]; rfl
              have HARC := hide (arcs_any Wb wr sh rv rs tail av1 gv1 (bas ++ ids.take k) gl1 id hsn hR hrl (HAL.out id) (by rw [List.length_append, List.length_take]; have := HBAS.out; have := HI4.out; omega))
              have HSN1 := hide hsn
              have HAO1 := hide hao
              have HMV1 := hide hmv
              have HPC1 := hide hpc
              have HNE1 := hide hne
              have HCD := hide hcd
              have HTK := hide htk
              have HKL := hide hkl
              have HID := hide hid
              clear hk hsn hao hmv hpc hne hcd hkl hid hee hce hR htk
              go_wp2_with fail
              refine HARC.out.mono ?_
              rintro e w5 ⟨lv, av5, gv5, gl5, rfl, hlo5, hsn5, hmv5, hao5⟩
              have hz1 : W.heap.size ≤ wr.heap.size := HMV1.out.size
              have hne5 : ∀ b, (Value.slice (some ⟨g, 0, none⟩) ids.length ic).ownBlock = some b → av5.ownBlock ≠ some b := fun b hb e => by
                rcases hao5.2 b e with q | q
                · exact HNE1.out b hb q
                · have := (Rw.own HPC1.out.ids hb).2.1
                  omega
              have HPC5 := hide (HPC1.out.ask hmv5 hao5 HNE1.out)
              have HAO5 := hide (HAO1.out.trans hao5 hz1)
              have HMV5 := hide (HMV1.out.trans hmv5)
              have HNE5 := hide hne5
              have HSN5 : Hid (Shn Wb w5 sh rv rs tail av5 gv5 (bas ++ ids.take (k + 1)) gl5) := by
                show Shn _ _ _ _ _ _ _ _ _ _
                rw [HTK.out, ← List.append_assoc]
                exact hsn5
              have HZ5 : Hid (W.heap.size ≤ w5.heap.size) := Nat.le_trans hz1 hmv5.size
              have HAR5 := hide hlo5
              obtain ⟨l, hl⟩ : ∃ l, l = (netOf rs tail id).1 := ⟨_, rfl⟩
              obtain ⟨code, hc⟩ : ∃ code, code = (netOf rs tail id).2 := ⟨_, rfl⟩
              have HL := hide hl
              have HC := hide hc
              rw [← hl] at HAR5
              rw [← hc]
              obtain ⟨la5, lc5, rfl, -⟩ := HAR5.out.at_
              clear hlo5 hsn5 hmv5 hao5 hne5 hz1 hl hc ci HARC
              by_cases hc0 : code = 0
              · subst hc0
                obtain ⟨L, hL⟩ : ∃ L, L = (ids.take k).map fun id => insL (atI ids) (netOf rs tail id).1 := ⟨_, rfl⟩
                rw [← hL] at HPC5
                obtain ⟨vs, hvs, hvr⟩ := HPC5.out.arc
                obtain ⟨oa, oc, rfl⟩ := Rw.form hvs
                have HVS := hide hvs
                have HVR := hide hvr
                have HLB : Hid (L.length + 1 ≤ 17179869184) := by
                  show _ ≤ _
                  rw [hL, List.length_map, List.length_take]
                  have := HI4.out
                  omega
                have HLE := hide hL
                have HIN := hide (inside_any w5.drew pb mb _ _ (atI ids) HPC5.out.blk.drew (HPC5.out.map.G (G.drew (G.refl _))) _ l (HAR5.out.G (G.drew (G.refl _))) (by rw [HL.out]; exact HAL.out id))
                clear hL hvs hvr
                go_wp2_with fail
                refine wp_region_noPanic ?_
                refine wp_region_L (S := (fun V => (∀ o, V.cell? ⟨pb, o, none⟩ = ([.slice (some ⟨g, 0, none⟩) ids.length ic, .map (some mb), .slice oa L.length oc] : List Value)[o]?))) 12 (by kernel_rfl) ((HPC5.out.blk.drew).cell) (fun hHeld => ?_)
                refine wpAnyL_take (i := 0) (v := ?_) rfl (by kernel_rfl) (by kernel_rfl) (by kernel_rfl) (by kernel_rfl) (fun _ _ _ h => h) (Or.inl ⟨by rfl, ?_⟩) hHeld ?_
                rotate_left 1
                · (intro w hSw; have q1 := hSw; go_simp; try with_reducible rfl)
                try simp only [Act.put, List.getElem_toArray, List.getElem_cons_zero, List.setIfInBounds_toArray, List.set_cons_zero, List.set_cons_succ]
                refine wpAnyL_take (i := 1) (v := ?_) rfl (by kernel_rfl) (by kernel_rfl) (by kernel_rfl) (by kernel_rfl) (fun _ _ _ h => h) (Or.inl ⟨by rfl, ?_⟩) hHeld ?_
                rotate_left 1
                · (intro w hSw; have q1 := hSw; go_simp; try with_reducible rfl)
                try simp only [Act.put, List.getElem_toArray, List.getElem_cons_zero, List.getElem_cons_succ, List.setIfInBounds_toArray, List.set_cons_zero, List.set_cons_succ]
                refine wpAnyL_take (i := 2) (v := ?_) rfl (by kernel_rfl) (by kernel_rfl) (by kernel_rfl) (by kernel_rfl) (fun _ _ _ h => h) (Or.inl ⟨by rfl, ?_⟩) hHeld ?_
                rotate_left 1
                · (intro w hSw; have q1 := hSw; go_simp; try with_reducible rfl)
                try simp only [Act.put, List.getElem_toArray, List.getElem_cons_zero, List.getElem_cons_succ, List.setIfInBounds_toArray, List.set_cons_zero, List.set_cons_succ]
                refine wpAnyL_take (i := 3) (v := ?_) rfl (by kernel_rfl) (by kernel_rfl) (by kernel_rfl) (by kernel_rfl) (fun _ _ _ h => h) (Or.inl ⟨by rfl, ?_⟩) hHeld ?_
                rotate_left 1
                · (intro w hSw; have q1 := hSw; go_simp; try with_reducible rfl)
                try simp only [Act.put, List.getElem_toArray, List.getElem_cons_zero, List.getElem_cons_succ, List.setIfInBounds_toArray, List.set_cons_zero, List.set_cons_succ]
                refine wpAnyL_take (i := 4) (v := ?_) rfl (by kernel_rfl) (by kernel_rfl) (by kernel_rfl) (by kernel_rfl) (fun _ _ _ h => h) (Or.inl ⟨by rfl, ?_⟩) hHeld ?_
                rotate_left 1
                · (intro w hSw; have q1 := hSw; go_simp; try with_reducible rfl)
                try simp only [Act.put, List.getElem_toArray, List.getElem_cons_zero, List.getElem_cons_succ, List.setIfInBounds_toArray, List.set_cons_zero, List.set_cons_succ]
                refine wpAnyL_take (i := 5) (v := ?_) rfl (by kernel_rfl) (by kernel_rfl) (by kernel_rfl) (by kernel_rfl) (fun _ _ _ h => h) (Or.inl ⟨by rfl, ?_⟩) hHeld ?_
                rotate_left 1
                · (intro w hSw; have q1 := hSw; go_simp; try with_reducible rfl)
                try simp only [Act.put, List.getElem_toArray, List.getElem_cons_zero, List.getElem_cons_succ, List.setIfInBounds_toArray, List.set_cons_zero, List.set_cons_succ]
                refine wpAnyL_take (i := 6) (v := ?_) rfl (by kernel_rfl) (by kernel_rfl) (by kernel_rfl) (by kernel_rfl) (fun _ _ _ h => h) (Or.inl ⟨by rfl, ?_⟩) hHeld ?_
                rotate_left 1
                · (intro w hSw; have q1 := hSw; go_simp; try with_reducible rfl)
                try simp only [Act.put, List.getElem_toArray, List.getElem_cons_zero, List.getElem_cons_succ, List.setIfInBounds_toArray, List.set_cons_zero, List.set_cons_succ]
                refine wpAnyL_one (i := 7) (by kernel_rfl) rfl (by kernel_rfl) (fun K hK => ?_)
                clear hHeld
                go_simp
                refine HIN.out.mono ?_
                rintro e w6 ⟨tv, rfl, htv, hg6⟩
                obtain ⟨va6, vc6, rfl⟩ := Rw.form htv
                have HG6 := hide (G.trans (G.drew (G.refl w5)) hg6)
                have HTV := hide htv
                clear hg6 htv
                go_wp2_with fail
                refine hK.out _ _ ((HPC5.out.blk.G HG6.out).cell) (fun hHeld => ?_)
                clear hK K
                try simp only [Act.put, List.getElem_toArray, List.getElem_cons_zero, List.getElem_cons_succ, List.setIfInBounds_toArray, List.set_cons_zero, List.set_cons_succ]
                refine wpAnyL_one (i := 8) (by kernel_rfl) rfl (by kernel_rfl) (fun K hK => ?_)
                clear hHeld
                go_simp
                have HG7 : Hid (G w6 (w6.alloc (.cells #[(.slice va6 (insL (atI ids) l).length vc6)] 62))) := (G.refl w6).alloc _
                have HB7 : Hid (Blk (w6.alloc (.cells #[(.slice va6 (insL (atI ids) l).length vc6)] 62)) w6.heap.size 62 [(.slice va6 (insL (atI ids) l).length vc6)]) := Blk.new w6 [(.slice va6 (insL (atI ids) l).length vc6)] 62
                generalize w6.alloc (.cells #[(.slice va6 (insL (atI ids) l).length vc6)] 62) = w7 at HG7 HB7 ⊢
                refine hK.out _ _ (((HPC5.out.blk.G HG6.out).G HG7.out).cell) (fun hHeld => ?_)
                clear hK K
                try simp only [Act.put, List.getElem_toArray, List.getElem_cons_zero, List.getElem_cons_succ, List.setIfInBounds_toArray, List.set_cons_zero, List.set_cons_succ]
                refine wpAnyL_one (i := 9) (by kernel_rfl) rfl (by kernel_rfl) (fun K hK => ?_)
                clear hHeld
                obtain ⟨v9, w9, hrun9, hrow9, hch9, hob9⟩ := app_L w7 W.heap.size (.slice oa L.length oc) L.length vs (Rw.G (Rw.G HVS.out HG6.out) HG7.out) ⟨w6.heap.size, 0, none⟩ 1 1 [(.slice va6 (insL (atI ids) l).length vc6)] rfl (fun j u hj => by rw [Addr.add_mid, Nat.zero_add, HB7.out.cell]; exact hj) (fun u hu => by simp at hu; subst hu; rfl) (by have := HLB.out; omega) (Nat.le_trans HZ5.out (HG6.out.trans HG7.out).size)
                refine (if_pos rfl).mpr ?_
                refine wp_of_exec (exec_append _ _ 59 rfl (.slice oa L.length oc) (.slice (some ⟨w6.heap.size, 0, none⟩) 1 1) rfl rfl 59 rfl hrun9) ?_
                clear hrun9
                obtain ⟨a9, c9, rfl⟩ := Rw.form hrow9
                have HR9 := hide hrow9
                have HC9 := hide hch9
                have HBK9 := hide (((HPC5.out.blk.G HG6.out).G HG7.out).chg hch9 (Rw.offb (Rw.G (Rw.G HVS.out HG6.out) HG7.out) ((HPC5.out.blk.G HG6.out).G HG7.out) (by decide)))
                clear hrow9 hch9 hob9
                refine hK.out _ _ (HBK9.out.cell) (fun hHeld => ?_)
                clear hK K
                try simp only [Act.put, List.getElem_toArray, List.getElem_cons_zero, List.getElem_cons_succ, List.setIfInBounds_toArray, List.set_cons_zero, List.set_cons_succ]
                refine wpAnyL_take2 11 (i := 10) (v := ?_) rfl (by kernel_rfl) (by kernel_rfl) (by kernel_rfl) (by kernel_rfl) (fun _ _ _ h => h) (Or.inl ⟨by rfl, ?_⟩) hHeld ?_
                rotate_left 1
                · (intro w hSw; (try dsimp only at hSw); go_simp; try with_reducible rfl)
                try simp only [Act.put, List.getElem_toArray, List.getElem_cons_zero, List.getElem_cons_succ, List.setIfInBounds_toArray, List.set_cons_zero, List.set_cons_succ]
                refine wpAnyL_take (i := 11) (v := ?_) rfl (by kernel_rfl) (by kernel_rfl) (by kernel_rfl) (by kernel_rfl) (fun _ _ _ h => h) (Or.inl ⟨by rfl, ?_⟩) hHeld ?_
                rotate_left 1
                · (intro w hSw; (try dsimp only at hSw); go_simp; try with_reducible rfl)
                try simp only [Act.put, List.getElem_toArray, List.getElem_cons_zero, List.getElem_cons_succ, List.setIfInBounds_toArray, List.set_cons_zero, List.set_cons_succ]
                refine wpAnyL_last (by kernel_rfl) rfl (by kernel_rfl) (fun K hK => ?_)
                clear hHeld
                have hc9 := HBK9.out.cell
                have hz9 := HBK9.out.frozen
                go_simp
                clear hc9 hz9
                refine hK.out _ _ ?_
                clear hK K
                refine NoPanic.normal ?_
                have hpc10 := (HPC5.out.G (HG6.out.trans HG7.out)).app (Rw.G (Rw.G HVS.out HG6.out) HG7.out) (fun j v l a b => Rw.G (HVR.out j v l a b) (HG6.out.trans HG7.out)) (Rw.base (Rw.G HTV.out HG7.out) HZ5.out) HC9.out HR9.out
                have hc57 : Chg (fun b => W.heap.size ≤ b) w5 (w9.setCell ⟨pb, 2, none⟩ (.slice a9 (L.length + 1) c9)) := (((HG6.out.trans HG7.out).chg).trans (HC9.out.mono (fun b hb => (Rw.own HVS.out hb).1))).trans (chg_setCell _ _ (.inl HLO.out.1))
                have hmvF : Mv Wb [62, 61] (fun _ => False) w5 (w9.setCell ⟨pb, 2, none⟩ (.slice a9 (L.length + 1) c9)) := by
                  have m1 : Mv Wb [62, 61] (fun _ => False) w5 w7 := .of_G HSN5.out.g (HG6.out.trans HG7.out)
                  have m2 : Mv Wb [62, 61] (fun _ => False) w7 w9 := Rw.of_chg (Rw.G (Rw.G HVS.out HG6.out) HG7.out) (m1.G HSN5.out.g) HSN.out.g.size HC9.out (by simp)
                  have m3 : Mv Wb [62, 61] (fun _ => False) w9 (w9.setCell ⟨pb, 2, none⟩ (.slice a9 (L.length + 1) c9)) := .of_chg (F := fun b => b = pb) (m2.G (m1.G HSN5.out.g)) (chg_setCell _ _ (.inl rfl)) (fun b hb => by rw [hb]; exact Nat.le_trans HSN.out.g.size HLO.out.1) (fun b e xs hb he => by subst he; rw [(hb.type HBK9.out).1]; simp) (fun b es c hb he => by subst he; exact (HBK9.out.nomap hb).elim)
                  exact (m1.trans m2).trans m3
                have HREL : Hid (∃ (k' : Nat) (av' gv' : Value) (gl' : List Value) (ov : Value), I ((k : Int) + 1) = I k' ∧ k' ≤ ids.length ∧ Shn Wb (w9.setCell ⟨pb, 2, none⟩ (.slice a9 (L.length + 1) c9)) sh rv rs tail av' gv' (bas ++ ids.take k') gl' ∧ AskO W (w9.setCell ⟨pb, 2, none⟩ (.slice a9 (L.length + 1) c9)) av av' ∧ Mv Wb shTs (fun _ => False) W (w9.setCell ⟨pb, 2, none⟩ (.slice a9 (L.length + 1) c9)) ∧ Pc W.heap.size (w9.setCell ⟨pb, 2, none⟩ (.slice a9 (L.length + 1) c9)) pb mb (.slice (some ⟨g, 0, none⟩) ids.length ic) ov ids (fun a => (atI ids a).map fun (j : Nat) => I (j : Int)) ((ids.take k').map fun id => insL (atI ids) (netOf rs tail id).1) ∧ (∀ b, (Value.slice (some ⟨g, 0, none⟩) ids.length ic).ownBlock = some b → av'.ownBlock ≠ some b) ∧ ∀ (j : Nat) id', j < k' → ids[j]? = some id' → (netOf rs tail id').2 = 0) := by
                  refine ⟨k + 1, av5, gv5, gl5, .slice a9 (L.length + 1) c9, by simp, HKL.out, HSN5.out.mv hmvF (fun e he => by simp at he; rcases he with rfl | rfl | rfl | rfl <;> decide), HAO5.out.fresh hc57 (fun b hb => hb) HZ5.out, HMV5.out.newer HSN.out.g hc57 (fun b hb => hb), ?_, HNE5.out, fun j id' hj hid' => ?_⟩
                  · rw [HTK.out, List.map_append, ← HLE.out]
                    have e1 : ([id].map fun id => insL (atI ids) (netOf rs tail id).1) = [insL (atI ids) l] := by rw [HL.out]; rfl
                    rw [e1]
                    exact hpc10
                  · by_cases hjk : j < k
                    · exact HCD.out j id' hjk hid'
                    · have : j = k := by omega
                      subst this
                      rw [HID.out] at hid'
                      cases hid'
                      exact HC.out.symm
                clear hpc10 hc57 hmvF
                go_wp2_with fail
                go_roundw
                case rel => (try rw [hwk]); exact HREL.out
                case measure => (try rw [hwk]); simp only [RowKit.intOf]; exact ms5 HKL.out
              · have hcb : (code != 0) = true := by simpa using hc0
                have hcb2 : (code == 0) = false := beq_eq_false_iff_ne.2 hc0
                have HC0 := hide hc0
                clear hc0
                go_wp2_with fail
                go_ret2
                exact ⟨av5, gv5, gl5, _, HSN5.out, HAO5.out, HMV5.out, .inr (.inl ⟨HI4.out, k, id, HID.out, by rw [← HC.out]; exact HC0.out, HCD.out, rfl, (by rw [← HC.out]; rfl)⟩)⟩
            · have hkI : ¬ ((k : Int) < ids.length) := fun h => hkl (Int.ofNat_lt.1 h)
              obtain rfl : k = ids.length := Nat.le_antisymm hk (Nat.le_of_not_lt hkl)
              rw [List.take_length] at hsn hpc
              have HF : Hid (NPost Wb W sh rv rs tail av bas ids (.returned (.tuple #[ptr pb, I 0])) wr) := ⟨av1, gv1, gl1, ids, hsn, hao, hmv, .inr (.inr ⟨HI4.out, fun id hid => by
                obtain ⟨j, hj, rfl⟩ := List.getElem_of_mem hid
                exact hcd j _ hj (List.getElem?_eq_getElem hj), rfl, pb, mb, _, ov, rfl, hpc, hne⟩)⟩
              clear hk hsn hao hmv hpc hne hcd hkl
              go_wp2_with fail
              go_ret2
              exact HF.out
end
open Go.RowKit

/-- The place of an id, or -1. -/
def plI (ids : List Int) (n : Int) : Int := match atI ids n with | some j => (j : Int) | none => -1
theorem wone5 (i : Nat) (h : i ≤ 17179869184) : wrap64 ((i : Int) + 1) = (i : Int) + 1 := by unfold wrap64; omega
set_option maxRecDepth 100000 in
set_option maxHeartbeats 4000000 in
theorem place_any (lo : Nat) (W : World) (v : Value) (ids : List Int) (h : Rw lo 2 1 W v ids.length (ids.map I)) (hp : ids.Pairwise (· < ·)) (hl : ids.length ≤ 1048576) (id : Int) :
    Calls Tryd.prog 24 #[v, I id] W fun e W' => e = .returned (I (plI ids id)) ∧ G W W' := by
  obtain ⟨va, vc, rfl⟩ := Rw.form h
  have H := hide h
  have HP := hide hp
  have HL := hide hl
  clear h hp hl
  go_enter Tryd.func24, Tryd.ntmps24
  go_wp2_with fail
  go_loopw [5] (fun iv wr => ∃ i : Nat, iv = I i ∧ i ≤ ids.length ∧ G W wr ∧ ∀ j : Nat, j < i → ids[j]? ≠ some id) (fun iv _ => ids.length - (RowKit.intOf iv).toNat)
  case atStart => exact ⟨0, rfl, Nat.zero_le _, G.refl _, fun j h => absurd h (by omega)⟩
  case round =>
    obtain ⟨i, rfl, hi, hg, hno⟩ := hrel
    by_cases hil : i < ids.length
    · have hiI : (i : Int) < ids.length := Int.ofNat_lt.2 hil
      obtain ⟨n, hn⟩ : ∃ n, ids[i]? = some n := ⟨_, List.getElem?_eq_getElem hil⟩
      obtain ⟨g, cap, hee, -, hce, -⟩ := (Rw.G H.out hg).cell (by omega)
      obtain ⟨rfl, rfl⟩ : va = some ⟨g, 0, none⟩ ∧ vc = cap := by simp at hee; exact hee
      have ci : wr.cell? ⟨g, i, none⟩ = some (I n) := by rw [hce i (by omega), List.getElem?_map, hn]; rfl
      have hwi : wrap64 ((i : Int) + 1) = (i : Int) + 1 := wone5 i (Nat.le_trans (Nat.le_of_lt hil) (Nat.le_trans HL.out (by decide)))
      have HG := hide hg
      have HIL := hide hil
      have HN := hide hn
      have HNO := hide hno
      clear hi hg hno hil hn hee hce
      by_cases he : n = id
      · have heb : (n == id) = true := by simpa using he
        have HE : Hid (plI ids id = (i : Int)) := by
          show _ = _
          unfold plI
          rw [atI_get HP.out (by rw [← he]; exact HN.out)]
        clear he
        go_wp2_with fail
        go_ret
        rw [HE.out]
        exact ⟨rfl, HG.out⟩
      · have heb : (n == id) = false := beq_eq_false_iff_ne.2 he
        have HREL : Hid (∀ j : Nat, j < i + 1 → ids[j]? ≠ some id) := fun j hj => by
          by_cases e : j = i
          · rw [e, HN.out]
            exact fun q => he (Option.some.inj q)
          · exact HNO.out j (by omega)
        clear he
        go_wp2_with fail
        go_roundw
        case rel => (try rw [hwi]); exact ⟨i + 1, by simp, HIL.out, HG.out, HREL.out⟩
        case measure => (try rw [hwi]); simp only [RowKit.intOf]; exact ms5 HIL.out
    · have hiI : ¬ ((i : Int) < ids.length) := fun h => hil (Int.ofNat_lt.1 h)
      have HE : Hid (plI ids id = -1) := by
        show _ = _
        unfold plI
        rw [atI_none.2 (fun hm => by
          obtain ⟨j, hj, e⟩ := List.getElem_of_mem hm
          exact hno j (by omega) (by rw [List.getElem?_eq_getElem hj, e]))]
      have HG := hide hg
      clear hi hg hno hil
      go_wp2_with fail
      go_ret
      rw [HE.out]
      exact ⟨rfl, HG.out⟩
/-- An id comes into a rising list, if it is not there. -/
def insU (x : Int) : List Int → List Int
  | [] => [x]
  | y :: r => if x < y then x :: y :: r else if x = y then y :: r else y :: insU x r
theorem insU_mem {x : Int} : ∀ {l : List Int} {a : Int}, a ∈ insU x l ↔ a = x ∨ a ∈ l
  | [], a => by simp [insU]
  | y :: r, a => by
    unfold insU
    split
    · simp
    · split
      · rename_i h; subst h; simp
      · rw [List.mem_cons, insU_mem, List.mem_cons]
        constructor
        · rintro (h | h | h) <;> simp [h]
        · rintro (h | h | h) <;> simp [h]
theorem insU_up {x : Int} : ∀ {l : List Int}, l.Pairwise (· < ·) → (insU x l).Pairwise (· < ·)
  | [], _ => by simp [insU]
  | y :: r, h => by
    obtain ⟨h1, h2⟩ := List.pairwise_cons.1 h
    unfold insU
    split
    · rename_i hxy
      exact List.pairwise_cons.2 ⟨fun a ha => by
        rcases List.mem_cons.1 ha with rfl | q
        · exact hxy
        · have := h1 a q; omega, h⟩
    · split
      · exact h
      · exact List.pairwise_cons.2 ⟨fun a ha => by
          rcases insU_mem.1 ha with rfl | q
          · omega
          · exact h1 a q, insU_up h2⟩
/-- Where it comes in. -/
theorem insU_new {x : Int} : ∀ {l : List Int} {k : Nat}, k ≤ l.length → (∀ j y, j < k → l[j]? = some y → y < x) → (∀ y, l[k]? = some y → x < y) → insU x l = l.take k ++ x :: l.drop k
  | [], k, hk, _, _ => by simp at hk; subst hk; rfl
  | y :: r, 0, _, _, h2 => by
    unfold insU
    rw [if_pos (h2 y rfl)]
    rfl
  | y :: r, k + 1, hk, h1, h2 => by
    have hy := h1 0 y (by omega) rfl
    unfold insU
    rw [if_neg (by omega), if_neg (by omega), insU_new (k := k) (by simpa using hk) (fun j z hj hz => h1 (j + 1) z (by omega) (by simpa using hz)) (fun z hz => h2 z (by simpa using hz))]
    rfl
theorem insU_old {x : Int} : ∀ {l : List Int} {k : Nat}, (∀ j y, j < k → l[j]? = some y → y < x) → l[k]? = some x → insU x l = l
  | [], k, _, h => by simp at h
  | y :: r, 0, _, h => by
    simp at h
    unfold insU
    rw [if_neg (by omega), if_pos h.symm]
  | y :: r, k + 1, h1, h => by
    have hy := h1 0 y (by omega) rfl
    unfold insU
    rw [if_neg (by omega), if_neg (by omega), insU_old (k := k) (fun j z hj hz => h1 (j + 1) z (by omega) (by simpa using hz)) (by simpa using h)]
theorem insU_len {x : Int} : ∀ {l : List Int}, (insU x l).length ≤ l.length + 1
  | [] => by simp [insU]
  | y :: r => by
    unfold insU
    split
    · simp
    · split
      · simp
      · have := insU_len (x := x) (l := r)
        simp
        omega
/-- The unlike ids, rising. -/
def eachL : List Int → List Int
  | [] => []
  | l => l.foldl (fun o x => insU x o) []
theorem eachL_eq (l : List Int) : eachL l = l.foldl (fun o x => insU x o) [] := by cases l <;> rfl
theorem eachL_snoc (l : List Int) (x : Int) : eachL (l ++ [x]) = insU x (eachL l) := by rw [eachL_eq, eachL_eq, List.foldl_append]; rfl
theorem eachL_take {l : List Int} {i : Nat} {x : Int} (h : l[i]? = some x) : eachL (l.take (i + 1)) = insU x (eachL (l.take i)) := by
  rw [List.take_add_one, h]
  exact eachL_snoc _ _
theorem fold_up : ∀ (l o : List Int), o.Pairwise (· < ·) → (l.foldl (fun o x => insU x o) o).Pairwise (· < ·)
  | [], _, h => h
  | x :: l, o, h => fold_up l (insU x o) (insU_up h)
theorem fold_mem {a : Int} : ∀ (l o : List Int), a ∈ l.foldl (fun o x => insU x o) o ↔ a ∈ o ∨ a ∈ l
  | [], o => by simp
  | x :: l, o => by
    rw [List.foldl_cons, fold_mem l, insU_mem, List.mem_cons]
    constructor
    · rintro ((h | h) | h) <;> simp [h]
    · rintro (h | h | h) <;> simp [h]
theorem fold_len : ∀ (l o : List Int), (l.foldl (fun o x => insU x o) o).length ≤ o.length + l.length
  | [], o => by simp
  | x :: l, o => by
    have := fold_len l (insU x o)
    have := insU_len (x := x) (l := o)
    simp
    omega
theorem eachL_up (l : List Int) : (eachL l).Pairwise (· < ·) := by rw [eachL_eq]; exact fold_up l [] .nil
theorem eachL_mem {l : List Int} {a : Int} : a ∈ eachL l ↔ a ∈ l := by rw [eachL_eq, fold_mem]; simp
theorem eachL_len (l : List Int) : (eachL l).length ≤ l.length := by rw [eachL_eq]; have := fold_len l []; simpa using this
end
open Go.RowKit

/-- The list while the new one goes to its place. -/
def mid (o : List Int) (x : Int) (j : Nat) : List Int := o.take j ++ x :: o.drop j
theorem mid_len {o : List Int} {x : Int} {j : Nat} (h : j ≤ o.length) : (mid o x j).length = o.length + 1 := by
  unfold mid
  simp
  omega
theorem mid_at {o : List Int} {x : Int} {j : Nat} (h : j ≤ o.length) : (mid o x j)[j]? = some x := by
  unfold mid
  rw [List.getElem?_append_right (by simp; omega)]
  simp [Nat.min_eq_left h]
theorem mid_ahead {o : List Int} {x y : Int} {j i : Nat} (hi : i < j) (hy : o[i]? = some y) : (mid o x j)[i]? = some y := by
  have hil := (List.getElem?_eq_some_iff.1 hy).1
  unfold mid
  rw [List.getElem?_append_left (by simp; omega), List.getElem?_take_of_lt hi]
  exact hy
theorem mid_step {o : List Int} {x y : Int} {j : Nat} (hj : j + 1 ≤ o.length) (hy : o[j]? = some y) : ((mid o x (j + 1)).set (j + 1) y).set j x = mid o x j := by
  refine List.ext_getElem? fun q => ?_
  have hl1 := mid_len (x := x) hj
  have hl2 := mid_len (o := o) (x := x) (j := j) (by omega)
  by_cases e1 : q = j
  · subst e1
    rw [List.getElem?_set_self (by rw [List.length_set]; omega), mid_at (by omega)]
  · rw [List.getElem?_set_ne (fun e => e1 e.symm)]
    by_cases e2 : q = j + 1
    · subst e2
      rw [List.getElem?_set_self (by omega)]
      unfold mid
      rw [List.getElem?_append_right (by simp; omega)]
      simp only [List.length_take]
      rw [show j + 1 - min j o.length = 0 + 1 by omega, List.getElem?_cons_succ, List.getElem?_drop, Nat.add_zero]
      exact hy.symm
    · rw [List.getElem?_set_ne (fun e => e2 e.symm)]
      unfold mid
      by_cases hq : q < j
      · rw [List.getElem?_append_left (by simp; omega), List.getElem?_append_left (by simp; omega), List.getElem?_take_of_lt (by omega), List.getElem?_take_of_lt (by omega)]
      · rw [List.getElem?_append_right (by simp; omega), List.getElem?_append_right (by simp; omega)]
        simp only [List.length_take]
        rw [show q - min (j + 1) o.length = (q - j - 2) + 1 by omega, show q - min j o.length = (q - j - 1) + 1 by omega, List.getElem?_cons_succ, List.getElem?_cons_succ, List.getElem?_drop, List.getElem?_drop]
        congr 1
        omega
theorem mid_last (o : List Int) (x : Int) : mid o x o.length = o ++ [x] := by simp [mid]
theorem wsb (j : Nat) (h : j ≤ 17179869184) : wrap64 ((j : Int) + 1 - 1) = (j : Int) ∧ wrap64 (((j + 1 : Nat) : Int) - 1) = (j : Int) ∧ wrap64 (j : Int) = (j : Int) := by unfold wrap64; omega
theorem nsl (a b : Nat) (h : ¬ a < b) : ¬ ((a : Int) < b) := by omega
set_option maxRecDepth 100000 in
set_option maxHeartbeats 4000000 in
theorem each_any (W : World) (v : Value) (nodes : List Int) (hI : Ids W v nodes) (hnl : nodes.length ≤ 1048576) :
    Calls Tryd.prog 36 #[v] W fun e W' => ∃ ov, e = .returned ov ∧ Rw W.heap.size 2 1 W' ov (eachL nodes).length ((eachL nodes).map I) ∧ G W W' := by
  obtain ⟨la, lc, rfl⟩ : ∃ la lc, v = .slice la nodes.length lc := by obtain ⟨a, c, e, -⟩ := hI.at_; exact ⟨a, c, e⟩
  have HI := hide hI
  have HNL := hide hnl
  clear hI hnl
  go_enter Tryd.func36, Tryd.ntmps36
  go_wp2_with fail
  go_loopw [3, 4] (fun ov iv wr => ∃ (i : Nat), iv = I i ∧ i ≤ nodes.length ∧ Rw W.heap.size 2 1 wr ov (eachL (nodes.take i)).length ((eachL (nodes.take i)).map I) ∧ G W wr) (fun _ iv _ => nodes.length - (RowKit.intOf iv).toNat)
  case atStart => exact ⟨0, rfl, Nat.zero_le _, Rw.nil _ _ _ _, G.refl _⟩
  case round =>
    obtain ⟨i, rfl, hi, hrow, hg⟩ := hrel
    by_cases hil : i < nodes.length
    · have hiI : (i : Int) < nodes.length := Int.ofNat_lt.2 hil
      obtain ⟨x, hx⟩ : ∃ x, nodes[i]? = some x := ⟨_, List.getElem?_eq_getElem hil⟩
      obtain ⟨b, off, rfl, -⟩ : ∃ b off, la = some ⟨b, off, none⟩ ∧ True := by
        obtain ⟨a', c', e', -, h1⟩ := HI.out.at_
        simp only [Value.slice.injEq] at e'
        obtain ⟨rfl, -, -⟩ := e'
        rcases h1 with rfl | ⟨b, off, rfl, h2⟩
        · simp at hil
        · exact ⟨b, off, rfl, trivial⟩
      have HCX : Hid (∀ V, G W V → V.cell? ⟨b, off + i, none⟩ = some (I x)) := fun V gV => by
        obtain ⟨a', c', e', -, h1⟩ := (HI.out.G gV).at_
        simp only [Value.slice.injEq] at e'
        obtain ⟨e2, -, -⟩ := e'
        rcases h1 with rfl | ⟨b', off', e3, h2⟩
        · simp at hil
        · rw [← e2] at e3
          cases e3
          rw [h2 i hil, List.getElem?_map, hx]
          rfl
      obtain ⟨o, ho⟩ : ∃ o, o = eachL (nodes.take i) := ⟨_, rfl⟩
      have hol : o.length ≤ 1048576 := by rw [ho]; exact Nat.le_trans (eachL_len _) (Nat.le_trans (by rw [List.length_take]; exact Nat.min_le_right _ _) HNL.out)
      have HNX := hide (eachL_take hx)
      rw [← ho] at hrow HNX
      obtain ⟨oa, oc, rfl⟩ := Rw.form hrow
      have hwi : wrap64 ((i : Int) + 1) = (i : Int) + 1 := wone5 i (Nat.le_trans (Nat.le_of_lt hil) (Nat.le_trans HNL.out (by decide)))
      have HROW := hide hrow
      have HG := hide hg
      have HIL := hide hil
      have HOL := hide hol
      obtain ⟨wo, rfl⟩ : ∃ wo, wo = wr := ⟨_, rfl⟩
      clear hi hrow hg hil hx ho hol
      go_wp2_with fail
      go_loopw [5] (fun kv w1 => ∃ k : Nat, kv = I k ∧ k ≤ o.length ∧ G wo w1 ∧ ∀ (j : Nat) y, j < k → o[j]? = some y → y < x) (fun kv _ => o.length - (RowKit.intOf kv).toNat)
      case atStart => exact ⟨0, rfl, Nat.zero_le _, G.refl _, fun j y h => absurd h (by omega)⟩
      case round =>
        obtain ⟨k, rfl, hk, hg1, hlt⟩ := hrel
        have cx := HCX.out _ (HG.out.trans hg1)
        by_cases hkl : k < o.length
        · have hkI : (k : Int) < o.length := Int.ofNat_lt.2 hkl
          have hkd : decide ((k : Int) < o.length) = true := decide_eq_true hkI
          obtain ⟨y, hy⟩ : ∃ y, o[k]? = some y := ⟨_, List.getElem?_eq_getElem hkl⟩
          obtain ⟨g, cap, hee, -, hce, -⟩ := (Rw.G HROW.out hg1).cell (by omega)
          obtain ⟨rfl, rfl⟩ : oa = some ⟨g, 0, none⟩ ∧ oc = cap := by simp at hee; exact hee
          have ck : wr.cell? ⟨g, k, none⟩ = some (I y) := by rw [hce k (by omega), List.getElem?_map, hy]; rfl
          have hwk : wrap64 ((k : Int) + 1) = (k : Int) + 1 := wone5 k (Nat.le_trans (Nat.le_of_lt hkl) (Nat.le_trans HOL.out (by decide)))
          by_cases hyx : y < x
          · have hyd : decide (y < x) = true := decide_eq_true hyx
            have HKL := hide hkl
            have HG1 := hide hg1
            have HLT : Hid (∀ (j : Nat) z, j < k + 1 → o[j]? = some z → z < x) := fun j z hj hz => by
              by_cases e : j = k
              · rw [e, hy] at hz
                cases hz
                exact hyx
              · exact hlt j z (by omega) hz
            clear hk hg1 hlt hkl hy hee hce
            go_wp2_with fail
            go_quiet (fail)
            go_wp2_with fail
            go_roundw
            case rel => (try rw [hwk]); exact ⟨k + 1, by simp, HKL.out, HG1.out.trans (g_drewN _ _), HLT.out⟩
            case measure => (try rw [hwk]); simp only [RowKit.intOf]; exact ms5 HKL.out
          · have hyd : decide (y < x) = false := decide_eq_false hyx
            by_cases heq : y = x
            · have heb : (y == x) = true := by simpa using heq
              have HOLD : Hid (insU x o = o) := insU_old hlt (by rw [← heq]; exact hy)
              have HG1 := hide (HG.out.trans hg1)
              have HR1 := hide (Rw.G HROW.out hg1)
              clear hk hg1 hlt hkl hy hee hce
              go_wp2_with fail
              go_quiet (fail)
              go_wp2_with fail
              go_quiet (fail)
              go_wp2_with fail
              go_roundw
              case rel =>
                (try rw [hwi])
                refine ⟨i + 1, by simp, HIL.out, ?_, HG1.out.trans (g_drewN _ _)⟩
                rw [HNX.out, HOLD.out]
                exact Rw.G HR1.out (g_drewN _ _)
              case measure => (try rw [hwi]); simp only [RowKit.intOf]; exact ms5 HIL.out
            · have heb : (y == x) = false := beq_eq_false_iff_ne.2 heq
              have HNEW : Hid (insU x o = mid o x k) := insU_new hk hlt (fun z hz => by rw [hy] at hz; cases hz; omega)
              clear hkl hy hee hce
              have HK := hide hk
              have HG1 := hide hg1
              clear hk hg1 hlt
              go_wp2_with fail
              go_quiet (fail)
              go_wp2_with fail
              go_quiet (fail)
              generalize hw2 : World.drewN (World.drewN wr _) _ = w2
              have HG2 : Hid (G wo w2) := by rw [← hw2]; exact HG1.out.trans ((g_drewN _ _).trans (g_drewN _ _))
              clear hw2 cx
              have cx := HCX.out _ (HG.out.trans HG2.out)
              have gA : G w2 (w2.alloc (.cells #[I x] 2)) := (G.refl w2).alloc _
              obtain ⟨v', w', q1, q2, q3, q4⟩ := app_I (w2.alloc (.cells #[I x] 2)) W.heap.size (.slice (some ⟨g, 0, none⟩) o.length oc) o.length (o.map I) (Rw.G HROW.out (HG2.out.trans gA)) ⟨w2.heap.size, 0, none⟩ 1 1 [I x] rfl (fun j u hj => by rw [Addr.add_mid, Nat.zero_add, (Blk.new w2 [I x] 2).cell]; exact hj) (fun u hu => by simp at hu; subst hu; rfl) (by have := HOL.out; omega) (((HG.out.trans HG2.out).trans gA).size)
              have HRUN := hide q1
              have HROW2 : Hid (Rw W.heap.size 2 1 w' v' (o.length + 1) ((mid o x o.length).map I)) := by
                show Rw _ _ _ _ _ _ _
                rw [mid_last, List.map_append]
                exact q2
              have HG3 : Hid (G W w') := (((HG.out.trans HG2.out).trans gA).chg (F := fun _ => False)).more q3 (fun i hi e => by have := (Rw.own HROW.out e).1; omega) |>.G (fun _ q => q.elim)
              obtain ⟨va', vc', rfl⟩ := Rw.form q2
              obtain ⟨z1, z2, z3⟩ := wsb o.length (Nat.le_trans HOL.out (by decide))
              clear q1 q2 q3 q4 gA
              go_wp2_with (first | (at_builtin; refine wpList_append_run rfl _ _ 23 rfl (.slice (some ⟨g, 0, none⟩) o.length oc) (.slice (some ⟨w2.heap.size, 0, none⟩) 1 1) rfl rfl HRUN.out ?_) | fail)
              (try rw [z3])
              clear z1 z2 z3 cx
              go_loopw [6] (fun jv w4 => ∃ j : Nat, jv = I j ∧ k ≤ j ∧ j ≤ o.length ∧ Rw W.heap.size 2 1 w4 (.slice va' (o.length + 1) vc') (o.length + 1) ((mid o x j).map I) ∧ G W w4) (fun jv _ => (RowKit.intOf jv).toNat)
              case atStart => exact ⟨o.length, rfl, HK.out, Nat.le_refl _, HROW2.out, HG3.out⟩
              case round =>
                obtain ⟨j, rfl, hkj, hjo, hrow4, hg4⟩ := hrel
                by_cases hj : k < j
                · have hjI : (k : Int) < j := Int.ofNat_lt.2 hj
                  have hjd : decide ((k : Int) < j) = true := decide_eq_true hjI
                  obtain ⟨j', hj'⟩ : ∃ j', j = j' + 1 := ⟨j - 1, by omega⟩
                  obtain ⟨y', hy'⟩ : ∃ y', o[j']? = some y' := ⟨_, List.getElem?_eq_getElem (by omega)⟩
                  have hml := mid_len (o := o) (x := x) hjo
                  obtain ⟨g4, cap4, rest4, heq4, hlg4, hblk4, hlen4⟩ := hrow4.blk (by omega)
                  obtain ⟨rfl, rfl⟩ : va' = some ⟨g4, 0, none⟩ ∧ vc' = cap4 := by simp at heq4; exact heq4
                  have hz := hblk4.frozen
                  have cj : wr.cell? ⟨g4, j, none⟩ = some (I x) := by rw [hblk4.cell, List.getElem?_append_left (by rw [List.length_map]; omega), List.getElem?_map, mid_at hjo]; rfl
                  have ci : wr.cell? ⟨g4, j', none⟩ = some (I y') := by rw [hblk4.cell, List.getElem?_append_left (by rw [List.length_map]; omega), List.getElem?_map, mid_ahead (by omega) hy']; rfl
                  have hz2 := (hblk4.set j (I y')).frozen
                  have ci2 : (wr.setCell ⟨g4, j, none⟩ (I y')).cell? ⟨g4, j', none⟩ = some (I y') := by
                    have hne : j ≠ j' := by omega
                    rw [(hblk4.set j (I y')).cell, List.getElem?_set_ne hne, ← hblk4.cell]; exact ci
                  have wj : wrap64 ((j : Int) - 1) = (j' : Int) := by rw [hj']; exact (wsb j' (by have := HOL.out; omega)).2.1
                  have b1 : (j : Int) < (o.length : Int) + 1 := by omega
                  have b2 : (j' : Int) < (o.length : Int) + 1 := by omega
                  have HREL : Hid (∃ j2 : Nat, I (j' : Int) = I j2 ∧ k ≤ j2 ∧ j2 ≤ o.length ∧ Rw W.heap.size 2 1 ((wr.setCell ⟨g4, j, none⟩ (I y')).setCell ⟨g4, j', none⟩ (I x)).drew (.slice (some ⟨g4, 0, none⟩) (o.length + 1) vc') (o.length + 1) ((mid o x j2).map I) ∧ G W ((wr.setCell ⟨g4, j, none⟩ (I y')).setCell ⟨g4, j', none⟩ (I x)).drew) := by
                    refine ⟨j', rfl, by omega, by omega, ?_, ((hg4.setCell (p := ⟨g4, j, none⟩) hlg4 _).setCell (p := ⟨g4, j', none⟩) hlg4 _).drew⟩
                    have e3 : mid o x j' = ((mid o x j).set j y').set j' x := by rw [hj']; exact (mid_step (by omega) hy').symm
                    rw [e3, List.map_set, List.map_set]
                    exact Rw.G (Rw.set (Rw.set hrow4 j (by omega) (I y')) j' (by omega) (I x)) (G.drew (G.refl _))
                  have HMS : Hid (j' < j) := by show _ < _; omega
                  clear hkj hjo hrow4 hg4 hj hj' hy' hml heq4 hlg4 hblk4 hlen4
                  go_wp2_with fail
                  go_region
                  go_wp2_with fail
                  go_roundw
                  case rel => (try rw [wj]); exact HREL.out
                  case measure => (try rw [wj]); simp only [RowKit.intOf, Int.toNat_natCast]; exact HMS.out
                · have hjI : ¬ ((k : Int) < j) := nsl k j hj
                  have hjd : decide ((k : Int) < j) = false := decide_eq_false hjI
                  obtain rfl : j = k := by omega
                  have HRW : Hid (Rw W.heap.size 2 1 wr (.slice va' (o.length + 1) vc') (eachL (nodes.take (i + 1))).length ((eachL (nodes.take (i + 1))).map I)) := by
                    show Rw _ _ _ _ _ _ _
                    rw [HNX.out, HNEW.out, mid_len hjo]
                    exact hrow4
                  have HG4 := hide hg4
                  clear hkj hjo hrow4 hg4 hj
                  go_wp2_with fail
                  go_roundw
                  case rel => (try rw [hwi]); exact ⟨i + 1, by simp, HIL.out, HRW.out, HG4.out⟩
                  case measure => (try rw [hwi]); simp only [RowKit.intOf]; exact ms5 HIL.out
        · obtain rfl : k = o.length := Nat.le_antisymm hk (Nat.le_of_not_lt hkl)
          have HNEW : Hid (insU x o = mid o x o.length) := insU_new hk hlt (fun z hz => absurd (List.getElem?_eq_some_iff.1 hz).1 hkl)
          clear hkl
          have HK := hide hk
          have HG1 := hide hg1
          clear hk hg1 hlt
          go_wp2_with fail
          go_quiet (fail)
          go_wp2_with fail
          go_quiet (fail)
          generalize hw2 : World.drewN (World.drewN wr _) _ = w2
          have HG2 : Hid (G wo w2) := by rw [← hw2]; exact HG1.out.trans ((g_drewN _ _).trans (g_drewN _ _))
          clear hw2 cx
          have cx := HCX.out _ (HG.out.trans HG2.out)
          have gA : G w2 (w2.alloc (.cells #[I x] 2)) := (G.refl w2).alloc _
          obtain ⟨v', w', q1, q2, q3, q4⟩ := app_I (w2.alloc (.cells #[I x] 2)) W.heap.size (.slice oa o.length oc) o.length (o.map I) (Rw.G HROW.out (HG2.out.trans gA)) ⟨w2.heap.size, 0, none⟩ 1 1 [I x] rfl (fun j u hj => by rw [Addr.add_mid, Nat.zero_add, (Blk.new w2 [I x] 2).cell]; exact hj) (fun u hu => by simp at hu; subst hu; rfl) (by have := HOL.out; omega) (((HG.out.trans HG2.out).trans gA).size)
          have HRUN := hide q1
          have HROW2 : Hid (Rw W.heap.size 2 1 w' v' (o.length + 1) ((mid o x o.length).map I)) := by
            show Rw _ _ _ _ _ _ _
            rw [mid_last, List.map_append]
            exact q2
          have HG3 : Hid (G W w') := (((HG.out.trans HG2.out).trans gA).chg (F := fun _ => False)).more q3 (fun i hi e => by have := (Rw.own HROW.out e).1; omega) |>.G (fun _ q => q.elim)
          obtain ⟨va', vc', rfl⟩ := Rw.form q2
          obtain ⟨z1, z2, z3⟩ := wsb o.length (Nat.le_trans HOL.out (by decide))
          clear q1 q2 q3 q4 gA
          go_wp2_with (first | (at_builtin; refine wpList_append_run rfl _ _ 23 rfl (.slice oa o.length oc) (.slice (some ⟨w2.heap.size, 0, none⟩) 1 1) rfl rfl HRUN.out ?_) | fail)
          (try rw [z3])
          clear z1 z2 z3 cx
          go_loopw [6] (fun jv w4 => ∃ j : Nat, jv = I j ∧ o.length ≤ j ∧ j ≤ o.length ∧ Rw W.heap.size 2 1 w4 (.slice va' (o.length + 1) vc') (o.length + 1) ((mid o x j).map I) ∧ G W w4) (fun jv _ => (RowKit.intOf jv).toNat)
          case atStart => exact ⟨o.length, rfl, HK.out, Nat.le_refl _, HROW2.out, HG3.out⟩
          case round =>
            obtain ⟨j, rfl, hkj, hjo, hrow4, hg4⟩ := hrel
            obtain rfl : j = o.length := Nat.le_antisymm hjo hkj
            have HRW : Hid (Rw W.heap.size 2 1 wr (.slice va' (o.length + 1) vc') (eachL (nodes.take (i + 1))).length ((eachL (nodes.take (i + 1))).map I)) := by
              show Rw _ _ _ _ _ _ _
              rw [HNX.out, HNEW.out, mid_len hjo]
              exact hrow4
            have HG4 := hide hg4
            clear hkj hjo hrow4 hg4
            go_wp2_with fail
            go_roundw
            case rel => (try rw [hwi]); exact ⟨i + 1, by simp, HIL.out, HRW.out, HG4.out⟩
            case measure => (try rw [hwi]); simp only [RowKit.intOf]; exact ms5 HIL.out
    · have hiI : ¬ ((i : Int) < nodes.length) := nsl i _ hil
      obtain rfl : i = nodes.length := Nat.le_antisymm hi (Nat.le_of_not_lt hil)
      rw [List.take_length] at hrow
      obtain ⟨oa, oc, rfl⟩ := Rw.form hrow
      have HROW := hide hrow
      have HG := hide hg
      clear hi hrow hg hil
      go_wp2_with fail
      go_ret
      exact ⟨_, rfl, HROW.out, HG.out⟩
end Go.Proofs.YtemkilffagjmcaaDoor
