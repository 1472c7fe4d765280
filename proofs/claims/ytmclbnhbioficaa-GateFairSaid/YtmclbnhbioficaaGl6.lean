/- GateFair: the thought: how many turns one has seen go by, and how many stand ahead of it, are together at most most. -/
import Derived.Test.YtmclbnhbioficaaGl2
namespace Go.Proofs.Ytmclbnhbioficaa

structure Fa (m : GM) (al : List (Int × Int)) : Prop where
  ids : al.map (·.1) = m.all.map (·.1.1)
  ok : ∀ x ∈ m.all, ∀ z ∈ al, z.1 = x.1.1 → 0 ≤ z.2 ∧ z.2 + ((m.all.countP fun y => gr y x : Nat) : Int) ≤ m.mo ∧ (x.2 = m.ck → z.2 = 0)
theorem gr_ir (x : It) : gr x x = false := by unfold gr; simp
theorem ahead_lt {L : List It} {x : It} (h : x ∈ L) : (L.countP fun y => gr y x) < L.length := by
  obtain ⟨a, c, rfl⟩ := List.append_of_mem h
  rw [List.countP_append, List.countP_cons, gr_ir]
  have h1 := List.countP_le_length (p := fun y => gr y x) (l := a)
  have h2 := List.countP_le_length (p := fun y => gr y x) (l := c)
  simp
  omega
theorem ahead_le {m : GM} (hv : Iv m) {x : It} (h : x ∈ m.all) : ((m.all.countP fun y => gr y x : Nat) : Int) ≤ m.mo := by
  have h1 := ahead_lt h
  have h2 := hv.most
  have h3 : m.all.length = m.ins.length + 1 := rfl
  omega
theorem fa_start {m : GM} (hv : Iv m) : Fa m (m.all.map fun x => (x.1.1, 0)) := by
  refine ⟨by simp, fun x hx z hz _ => ?_⟩
  obtain ⟨y, _, rfl⟩ := List.mem_map.1 hz
  exact ⟨Int.le_refl _, by have := ahead_le hv hx; simp only; omega, fun _ => rfl⟩
theorem fa_same {m m' : GM} {al : List (Int × Int)} (h : Fa m al) (h1 : m'.all = m.all) (h2 : m'.mo = m.mo) (h3 : m'.ck = m.ck) : Fa m' al := by
  refine ⟨by rw [h1]; exact h.ids, fun x hx z hz e => ?_⟩
  rw [h1] at hx ⊢
  rw [h2, h3]
  exact h.ok x hx z hz e
theorem fa_enter {m : GM} {al : List (Int × Int)} {x : Int × Int} {t : List (Int × Int)} (h : Fa m al) (hv : Iv m) (hv2 : Iv (m.ent x t)) : Fa (m.ent x t) (al ++ [(x.1, 0)]) := by
  have eall : (m.ent x t).all = m.all ++ [(x, m.ck)] := by simp [GM.ent, GM.all, swp]
  have hnd : ((m.ent x t).all.map (·.1.1)).Nodup := by
    have h1 : ((m.ent x t).ids).Nodup := (List.nodup_append.1 hv2.nd).1
    show (((swp (m.ent x t)).1.1) :: (m.ent x t).ids).Nodup
    refine List.nodup_cons.2 ⟨fun q => ?_, h1⟩
    have := hv2.ids _ (List.mem_append_left _ q)
    simp [swp] at this
  refine ⟨by rw [eall]; simp [h.ids], fun w hw z hz e => ?_⟩
  have hmo : (m.ent x t).mo = m.mo := rfl
  have hck : (m.ent x t).ck = m.ck := rfl
  rw [hmo, hck]
  by_cases hwc : w.2 = m.ck
  · have hz0 : z.2 = 0 := by
      rcases List.mem_append.1 hz with q | q
      · rw [eall] at hw hnd
        rcases List.mem_append.1 hw with r | r
        · exact (h.ok w r z q e).2.2 hwc
        · simp at r
          subst r
          exfalso
          rw [List.map_append] at hnd
          have := (List.nodup_append.1 hnd).2.2 z.1 (by rw [← h.ids]; exact List.mem_map.2 ⟨z, q, rfl⟩) x.1 (by simp)
          exact this e
      · simp at q; subst q; rfl
    refine ⟨by omega, ?_, fun _ => hz0⟩
    have := ahead_le hv2 hw
    rw [hmo] at this
    omega
  · rw [eall] at hw ⊢
    rcases List.mem_append.1 hw with r | r
    · have hz2 : z ∈ al := by
        rcases List.mem_append.1 hz with q | q
        · exact q
        · simp at q; subst q
          exfalso
          rw [eall, List.map_append] at hnd
          exact (List.nodup_append.1 hnd).2.2 w.1.1 (List.mem_map.2 ⟨w, r, rfl⟩) x.1 (by simp) e.symm
      have hold := h.ok w r z hz2 e
      have hle : w.2 ≤ m.ck := by
        rcases List.mem_cons.1 r with rfl | r
        · exact hv.sw1
        · exact (hv.last w r).2
      have hng : gr (x, m.ck) w = false := by
        unfold gr
        rw [if_neg (fun q => hwc q.symm)]
        exact decide_eq_false (by simp only; omega)
      rw [List.countP_append]
      simp only [List.countP_cons, List.countP_nil, hng]
      exact ⟨hold.1, by simpa using hold.2.1, fun q => absurd q hwc⟩
    · simp at r; subst r; exact absurd rfl hwc
theorem fa_adm : ∀ (n : Nat) {m : GM} {al : List (Int × Int)} (_ : Fa m al) (_ : Iv m), Fa (m.adm n).2 (al ++ (m.adm n).1.map fun i => (i, 0))
  | 0, m, al, h, _ => by simpa [GM.adm] using h
  | n + 1, m, al, h, hv => by
    unfold GM.adm
    cases hq : m.q with
    | nil => simpa using h
    | cons x t =>
      by_cases hr : m.room = true
      · simp only [hr, if_true, List.map_cons]
        have hv2 := iv_ent hv hq hr
        have := fa_adm n (fa_enter h hv hv2) hv2
        simpa using this
      · simp only [hr]
        simpa using h
theorem filt_cut {l : List Int} (h : l.Nodup) {k : Nat} {id : Int} (hk : l[k]? = some id) : l.filter (fun i => decide (i ≠ id)) = cutL l k := by
  have hkl := (List.getElem?_eq_some_iff.1 hk).1
  have e : l = l.take k ++ id :: l.drop (k + 1) := by
    have h2 : l[k] = id := (List.getElem?_eq_some_iff.1 hk).2
    rw [← h2, List.getElem_cons_drop]; exact (List.take_append_drop k l).symm
  have hn := h
  rw [e] at hn
  obtain ⟨_, n2, n3⟩ := List.nodup_append.1 hn
  have n4 := (List.nodup_cons.1 n2).1
  have f1 : (l.take k).filter (fun i => decide (i ≠ id)) = l.take k := List.filter_eq_self.2 (fun a ha => decide_eq_true (n3 a ha id (by simp)))
  have f2 : (l.drop (k + 1)).filter (fun i => decide (i ≠ id)) = l.drop (k + 1) := List.filter_eq_self.2 (fun a ha => decide_eq_true (fun q => n4 (by rw [← q]; exact ha)))
  unfold cutL
  conv => lhs; rw [e]
  rw [List.filter_append, List.filter_cons, f1, f2]
  simp
theorem fa_end {m : GM} {al : List (Int × Int)} (h : Fa m al) (hv : Iv m) {k : Nat} {id : Int} {lg : Int} (hk : m.ids[k]? = some id) : Fa (m.gone k lg) (al.filter fun z => decide (z.1 ≠ id)) := by
  have hid : 1 ≤ id := (hv.ids id (List.mem_append_left _ (List.mem_of_getElem? hk))).1
  have hnd : m.ids.Nodup := (List.nodup_append.1 hv.nd).1
  have eall : (m.gone k lg).all = swp m :: cutL m.ins k := rfl
  have hsub : (m.gone k lg).all.Sublist m.all := by rw [eall]; exact List.Sublist.cons_cons _ (cutL_sub m.ins k)
  refine ⟨?_, fun x hx z hz e => ?_⟩
  · have e1 : (al.filter fun z => decide (z.1 ≠ id)).map (·.1) = (al.map (·.1)).filter (fun i => decide (i ≠ id)) := by
      rw [List.filter_map]; rfl
    rw [e1, h.ids, eall]
    show ((swp m).1.1 :: m.ids).filter _ = (swp m).1.1 :: (cutL m.ins k).map (·.1.1)
    rw [List.filter_cons, if_pos (decide_eq_true (show (swp m).1.1 ≠ id by show (0 : Int) ≠ id; omega)), filt_cut hnd hk, cutL_map]
  · obtain ⟨a1, a2, a3⟩ := h.ok x (hsub.subset hx) z (List.mem_filter.1 hz).1 e
    refine ⟨a1, ?_, a3⟩
    have := hsub.countP_le (p := fun y => gr y x)
    show _ ≤ m.mo
    omega
theorem all_inj {m : GM} (hv : Iv m) (hs : m.sp < 9223372036854775807) {x y : It} (hx : x ∈ m.all) (hy : y ∈ m.all) (h : x.1.2 = y.1.2) : x = y := by
  have hin : ∀ z ∈ m.ins, z.1.2 ≤ m.sp := fun z hz => (hv.sps _ (List.mem_append_left _ (List.mem_map.2 ⟨z, hz, rfl⟩))).2
  rcases List.mem_cons.1 hx with rfl | hx <;> rcases List.mem_cons.1 hy with rfl | hy
  · rfl
  · have := hin y hy; simp only [swp] at h; omega
  · have := hin x hx; simp only [swp] at h; omega
  · have hnd : (m.ins.map (·.1.2)).Nodup := (List.nodup_append.1 hv.snd).1
    obtain ⟨i, hi, rfl⟩ := List.getElem_of_mem hx
    obtain ⟨j, hj, rfl⟩ := List.getElem_of_mem hy
    have hij : i = j := by
      refine (List.getElem_inj (h₀ := by simpa using hi) (h₁ := by simpa using hj) hnd).1 ?_
      simpa using h
    subst hij
    rfl
theorem all_ids {m : GM} (hv : Iv m) : (m.all.map (·.1.1)).Nodup := by
  have h1 : (m.ids).Nodup := (List.nodup_append.1 hv.nd).1
  show (((swp m).1.1) :: m.ids).Nodup
  refine List.nodup_cons.2 ⟨fun q => ?_, h1⟩
  have := hv.ids _ (List.mem_append_left _ q)
  simp [swp] at this
theorem all_id_inj {m : GM} (hv : Iv m) {x y : It} (hx : x ∈ m.all) (hy : y ∈ m.all) (h : x.1.1 = y.1.1) : x = y := by
  obtain ⟨i, hi, rfl⟩ := List.getElem_of_mem hx
  obtain ⟨j, hj, rfl⟩ := List.getElem_of_mem hy
  have hij : i = j := by
    refine (List.getElem_inj (h₀ := by simpa using hi) (h₁ := by simpa using hj) (all_ids hv)).1 ?_
    simpa using h
  subst hij
  rfl
/-- What the turns that went by become where this one has its turn. -/
def pickL (al : List (Int × Int)) (id : Int) : List (Int × Int) := al.map fun z => if z.1 = id then (z.1, 0) else (z.1, z.2 + 1)
theorem fa_pick {m : GM} {al : List (Int × Int)} (h : Fa m al) (hv : Iv m) (hs : m.sp < 9223372036854775807) {id : Int} (hn : NextR m id) : Fa (m.pickM id) (pickL al id) ∧ id ∈ al.map (·.1) ∧ (id = 0 ∨ id ∈ m.ids) := by
  obtain ⟨y, hy, hmin, rfl⟩ := hn
  have hmem : y.1.1 = 0 ∨ y.1.1 ∈ m.ids := by
    rcases List.mem_cons.1 hy with rfl | q
    · exact .inl rfl
    · exact .inr (List.mem_map.2 ⟨y, q, rfl⟩)
  obtain ⟨j, hj, hyj⟩ := List.getElem_of_mem hy
  have eall : (m.pickM y.1.1).all = m.all.set j (y.1, m.ck + 1) ∧ (m.pickM y.1.1).mo = m.mo ∧ (m.pickM y.1.1).ck = m.ck + 1 := by
    unfold GM.pickM
    by_cases h0 : y.1.1 = 0
    · rw [if_pos h0]
      have hj0 : j = 0 := by
        rcases List.mem_cons.1 hy with q | q
        · refine (List.getElem_inj (i := j) (j := 0) (h₀ := by simpa using hj) (h₁ := by simp [GM.all]) (all_ids hv)).1 ?_
          simp only [List.getElem_map]
          rw [hyj, q]; rfl
        · have := hv.ids y.1.1 (List.mem_append_left _ (List.mem_map.2 ⟨y, q, rfl⟩))
          omega
      subst hj0
      refine ⟨?_, rfl, rfl⟩
      have hys : y = swp m := by rw [← hyj]; rfl
      rw [hys]
      simp [GM.all, GM.pick0, swp]
    · rw [if_neg h0]
      have hin : y.1.1 ∈ m.ids := hmem.resolve_left h0
      rw [if_pos hin]
      have hg := idx_get hin
      have hlt := idx_ins hin
      generalize m.ids.idxOf y.1.1 = ix at hg hlt ⊢
      have hmi : m.ins[ix].1.1 = y.1.1 := by
        obtain ⟨a1, a2⟩ := List.getElem?_eq_some_iff.1 hg
        rw [← a2]
        exact (List.getElem_map (fun x : It => x.1.1)).symm
      have hal : m.all[ix + 1]? = some m.ins[ix] := by
        show (swp m :: m.ins)[ix + 1]? = _
        rw [List.getElem?_cons_succ, List.getElem?_eq_getElem hlt]
      have hym : m.ins[ix] = y := all_id_inj hv (List.mem_cons_of_mem _ (List.getElem_mem hlt)) hy hmi
      have hjk : j = ix + 1 := by
        obtain ⟨a1, a2⟩ := List.getElem?_eq_some_iff.1 hal
        refine (List.getElem_inj (i := j) (j := ix + 1) (h₀ := by simpa using hj) (h₁ := by simpa using a1) (all_ids hv)).1 ?_
        simp only [List.getElem_map]
        rw [hyj, a2, hym]
      refine ⟨?_, rfl, rfl⟩
      rw [hjk]
      show swp (m.pick ix) :: m.ins.set ix (m.ins[ix]!.1, m.ck + 1) = (swp m :: m.ins).set (ix + 1) (y.1, m.ck + 1)
      rw [Hp.get_of hlt, hym]
      rfl
  have hle : ∀ w ∈ m.all, w.2 ≤ m.ck := fun w hw => by
    rcases List.mem_cons.1 hw with rfl | r
    · exact hv.sw1
    · exact (hv.last w r).2
  have hidl : y.1.1 ∈ al.map (·.1) := by rw [h.ids]; exact List.mem_map.2 ⟨y, hy, rfl⟩
  refine ⟨⟨?_, fun x hx z hz e => ?_⟩, hidl, hmem⟩
  · have e1 : (pickL al y.1.1).map (·.1) = al.map (·.1) := by
      unfold pickL
      rw [List.map_map]
      apply List.map_congr_left
      intro z _
      simp only [Function.comp]
      split <;> rfl
    rw [e1, h.ids, eall.1]
    apply List.ext_getElem?
    intro i
    rw [List.getElem?_map, List.getElem?_map]
    by_cases hi : i = j
    · subst hi
      rw [List.getElem?_set_self hj, List.getElem?_eq_getElem hj, hyj]; rfl
    · rw [List.getElem?_set_ne (Ne.symm hi)]
  · rw [eall.1] at hx ⊢
    rw [eall.2.1, eall.2.2]
    obtain ⟨z0, hz0, hzz⟩ := List.mem_map.1 hz
    by_cases hzi : z0.1 = y.1.1
    · rw [if_pos hzi] at hzz
      subst hzz
      refine ⟨Int.le_refl _, ?_, fun _ => rfl⟩
      have h1 := ahead_lt hx
      rw [List.length_set] at h1
      have h2 := hv.most
      have h3 : m.all.length = m.ins.length + 1 := rfl
      simp only
      omega
    · rw [if_neg hzi] at hzz
      subst hzz
      simp only at e
      have hxm : x ∈ m.all ∧ x ≠ y := by
        rcases List.mem_or_eq_of_mem_set hx with q | q
        · exact ⟨q, fun r => hzi (by rw [e, r])⟩
        · subst q; exact absurd e hzi
      have hold := h.ok x hxm.1 z0 hz0 e
      have hyx : gr y x = true := by
        cases hb : gr y x
        · exfalso
          have h2 := hmin x hxm.1
          have hst : x.1.2 = y.1.2 := by
            unfold gr at hb h2
            split at hb
            · rename_i q
              rw [if_pos q.symm] at h2
              simp at hb h2
              omega
            · rename_i q
              rw [if_neg (fun r => q r.symm)] at h2
              simp at hb h2
              omega
          exact hxm.2 (all_inj hv hs hxm.1 hy hst)
        · rfl
      have hng : gr (y.1, m.ck + 1) x = false := by
        have := hle x hxm.1
        unfold gr
        rw [if_neg (by simp only; omega)]
        exact decide_eq_false (by simp only; omega)
      have hcnt : ((m.all.set j (y.1, m.ck + 1)).countP fun w => gr w x) + 1 = m.all.countP fun w => gr w x := by
        have es : m.all = m.all.take j ++ y :: m.all.drop (j + 1) := by
          rw [← hyj, List.getElem_cons_drop]; exact (List.take_append_drop j m.all).symm
        rw [List.set_eq_take_append_cons_drop, if_pos hj]
        conv => rhs; rw [es]
        rw [List.countP_append, List.countP_append, List.countP_cons, List.countP_cons, hng, hyx]
        simp
        omega
      refine ⟨by simp only; omega, ?_, fun q => ?_⟩
      · have := hold.2.1
        simp only
        omega
      · have := hle x hxm.1
        omega
theorem fa_le {m : GM} {al : List (Int × Int)} (h : Fa m al) : ∀ z ∈ al, 0 ≤ z.2 ∧ z.2 ≤ m.mo := fun z hz => by
  have : z.1 ∈ m.all.map (·.1.1) := by rw [← h.ids]; exact List.mem_map.2 ⟨z, hz, rfl⟩
  obtain ⟨x, hx, hxe⟩ := List.mem_map.1 this
  have := h.ok x hx z hz hxe.symm
  exact ⟨this.1, by omega⟩
theorem fa_len {m : GM} {al : List (Int × Int)} (h : Fa m al) (hv : Iv m) : al.length ≤ 17 := by
  have h1 := congrArg List.length h.ids
  simp only [List.length_map] at h1
  have h2 : m.all.length = m.ins.length + 1 := rfl
  have h3 := hv.most
  have h4 := hv.mo2
  omega
end Go.Proofs.Ytmclbnhbioficaa
