/- Gate: End. -/
import Derived.Test.YtmclbnhbioficacGg2
namespace Go.Proofs.Ytmclbnhbioficac
open Go.RowKit Go.MuLone
set_option maxRecDepth 100000 in
set_option maxHeartbeats 1000000 in
theorem end_no (b : Nat) (m : GM) (K : Nat → Prop) (W : World) (h : PG W b 0 m K) (hv : Iv m) (id : Int) (lgd : Bool) (hk : id ∉ m.ids) :
    Calls Try.prog 21 #[ptr b, I id, .bool lgd] W fun e W' => e = .returned (I 152) ∧ ∃ K', PG W' b 0 m K' ∧ Ste K W K' W' := by
  have c0 := h.c0
  have f0 := h.f0
  go_enter_defers Try.func21, Try.ntmps21
  go_wp2_with (first | (go_at_call 14; refine Hid.out ?_) | fail)
  unfold Hid
  refine (lock_free muLib ⟨b, 0, none⟩ _ c0 f0).mono ?_
  rintro e w0 ⟨rfl, rfl⟩
  have H1 := hide (h.lock 1)
  clear c0 f0
  generalize W.setCell ⟨b, 0, none⟩ (.int .i32 1) = w1 at H1 ⊢
  obtain ⟨⟨vq, vi, v, l, h1⟩, hs1⟩ := H1.out
  have hcr := hv.crowd
  have hil : m.ids.length = m.ins.length := List.length_map _
  have hc : ∀ o, w1.cell? ⟨b, o, none⟩ = ([.int .i32 1, .int .u32 0, I m.mo, I m.un, I m.sp, vq, vi, I m.lg, I m.ck, v] : List Value)[o]? := h1.hp.cells
  have KC := hide (index_no m.ids vi id w1 h1.i hk (by omega))
  have HS1 := hide hs1
  clear h1 hs1 h hv hcr hil hk
  go_wp2_with (first | (go_at_call 38; refine KC.out.mono ?_; rintro e w9 ⟨rfl, rfl⟩) | fail)
  refine leaves_cons (f := 15) (args := #[.pointer (some ⟨b, 0, none⟩)]) (by simp) (by simp [go_sem]) ?_
  refine (unlock_deferred muLib ⟨b, 0, none⟩ .returning _ H1.out.1.c0 H1.out.1.f0).mono ?_
  rintro e u' w'' ⟨rfl, rfl, rfl⟩
  exact ⟨_, results_tmp rfl _ _ _, rfl, K, (H1.out.1.lock 0).1, HS1.out.trans (H1.out.1.lock 0).2⟩
set_option maxRecDepth 100000 in
set_option maxHeartbeats 1000000 in
theorem end_yes (b : Nat) (m : GM) (K : Nat → Prop) (W : World) (h : PG W b 0 m K) (hv : Iv m) (id : Int) (lgd : Bool) (k : Nat) (hk : m.ids[k]? = some id) :
    Calls Try.prog 21 #[ptr b, I id, .bool lgd] W fun e W' => e = .returned (I 0) ∧ ∃ K', PG W' b 0 (m.gone k (if lgd = true then m.lg + 1 else m.lg)) K' ∧ Ste K W K' W' := by
  have c0 := h.c0
  have f0 := h.f0
  have hki : k < m.ins.length := by simpa using (List.getElem?_eq_some_iff.1 hk).1
  have hfi : ∀ j, j < k → m.ids[j]? ≠ some id := fun j hj e => by
    have hnd : m.ids.Nodup := (List.nodup_append.1 hv.nd).1
    have h1 := (List.getElem?_eq_some_iff.1 hk)
    have h2 := (List.getElem?_eq_some_iff.1 e)
    obtain ⟨a1, a2⟩ := h1
    obtain ⟨b1, b2⟩ := h2
    have := (List.getElem_inj (h₀ := b1) (h₁ := a1) hnd).1 (b2.trans a2.symm)
    omega
  go_enter_defers Try.func21, Try.ntmps21
  go_wp2_with (first | (go_at_call 14; refine Hid.out ?_) | fail)
  unfold Hid
  refine (lock_free muLib ⟨b, 0, none⟩ _ c0 f0).mono ?_
  rintro e w0 ⟨rfl, rfl⟩
  have H1 := hide (h.lock 1)
  clear c0 f0
  generalize W.setCell ⟨b, 0, none⟩ (.int .i32 1) = w1 at H1 ⊢
  obtain ⟨⟨vq, vi, v, l, h1⟩, hs1⟩ := H1.out
  have hcr := hv.crowd
  have hll : l.length = m.ins.length + 1 := by rw [h1.pm.length_eq]; rfl
  have hil : m.ids.length = m.ins.length := List.length_map _
  have hal : m.all.length = m.ins.length + 1 := rfl
  obtain ⟨kk, hkl, hke, hkf⟩ := hv.find h1.pm (j := k + 1) (by omega)
  have e0 : m.all[k + 1]!.1.1 = id := by
    have e1 : m.ins[k]? = some m.ins[k]! := Hp.get_o hki
    rw [List.getElem?_map, e1] at hk
    have e2 : m.all[k + 1]! = m.ins[k]! := by simp [GM.all]
    rw [e2]
    exact Option.some.inj hk
  have hc : ∀ o, w1.cell? ⟨b, o, none⟩ = ([.int .i32 1, .int .u32 0, I m.mo, I m.un, I m.sp, vq, vi, I m.lg, I m.ck, v] : List Value)[o]? := h1.hp.cells
  have KC := hide (index_yes m.ids vi id k w1 h1.i hk hfi (by omega))
  have hkn : ¬ ((k : Int) < 0) := by omega
  have hw : wrap64 ((k : Int) + 1) = (k : Int) + 1 := by unfold wrap64; omega
  have KD := hide (delI m.ids vi k w1 h1.i (by omega) (by omega))
  have HPM : Hid (∀ l', l.Perm (l[kk]! :: l') → l'.Perm (m.gone k (if lgd = true then m.lg + 1 else m.lg)).all) := fun l' q => by
    have q2 := q.symm.trans (h1.pm.trans (erase_perm m.all (k + 1) (by omega)))
    rw [hke] at q2
    have q3 := q2.cons_inv
    have e3 : m.all.eraseIdx (k + 1) = (m.gone k (if lgd = true then m.lg + 1 else m.lg)).all := by
      simp [GM.all, GM.gone, swp, cutL, List.eraseIdx_eq_take_drop_succ]
    rw [e3] at q3
    exact q3
  have HLE : Hid (∀ (w : World) (x : Gx), HP w b x v l → Calls Try.prog 40 #[tpt b, I id] w fun e W' => e = .returned (.tuple #[]) ∧ ∃ v' l', HP W' b x v' l' ∧ l.Perm (l[kk]! :: l') ∧ (Hp.HI gr l → Hp.HI gr l') ∧ Chg (hpB b v) w W' ∧ v'.ownBlock = v.ownBlock) := fun w x hp => leave_any b x v l id kk m.ins.length w hp hll (by omega) (by rw [hke, e0]) (fun j hj => by rw [← e0]; exact hkf j hj) (by omega)
  have HIDS : Hid ((m.gone k (if lgd = true then m.lg + 1 else m.lg)).ids = cutL m.ids k) := cutL_map _ _ _
  have HLG : Hid (wrap64 (m.lg + 1) = m.lg + 1) := by
    show _ = _
    have a1 := hv.lg0
    have a2 := hv.room
    have a3 := hv.un2
    unfold wrap64
    omega
  have HH := hide h1
  have HS1 := hide hs1
  clear h1 hs1 h hv hcr hll hil hal hkl hke hkf e0 hk hki hfi
  go_wp2_with (first | (go_at_call 38; refine KC.out.mono ?_; rintro e w9 ⟨rfl, rfl⟩) | (go_at_call 39; refine Hid.out ?_) | fail)
  unfold Hid
  refine KD.out.mono ?_
  rintro e w2 ⟨v2, rfl, hs2, hch2, hob2⟩
  obtain ⟨va, vc, e2⟩ := hs2.form
  generalize (cutL m.ids k).length = n2 at e2
  subst e2
  have hp2 : HP w2 b ⟨1, m.mo, m.un, m.sp, vq, vi, m.lg, m.ck⟩ v l := HH.out.hp.chg hch2 (fun j hj e => HH.out.hp.offS HH.out.i (by decide) (by decide) e hj)
  have hq2 : SwQ w2 vq m.q := HH.out.q.chg hch2 (fun j hj e => by
    obtain ⟨xs, hx⟩ := own_blk HH.out.i e
    exact HH.out.q.ne hx (by decide) hj)
  have hc2 : ∀ o, w2.cell? ⟨b, o, none⟩ = ([.int .i32 1, .int .u32 0, I m.mo, I m.un, I m.sp, vq, vi, I m.lg, I m.ck, v] : List Value)[o]? := hp2.cells
  have hz2 := hp2.blk.frozen
  have HP3 := hide (hp2.field (x' := ⟨1, m.mo, m.un, m.sp, vq, (.slice va n2 vc), m.lg, m.ck⟩) 6 (.slice va n2 vc) rfl)
  have HQ3 := hide (hq2.off (b := b) (o := 6) (u := (.slice va n2 vc)) (hq2.ne hp2.blk (by decide)))
  have HI3 := hide (hs2.off (b := b) (o := 6) (u := (.slice va n2 vc)) (hs2.ne hp2.blk (by decide)))
  have HC3 : Hid (Chg K W (w2.setCell ⟨b, 6, none⟩ (.slice va n2 vc))) := (HS1.out.chg.trans (hch2.mono (fun j e => HH.out.ki j e))).trans (chg_setCell _ _ (.inl HH.out.kb))
  have HOB := hide hob2
  have HW13 : Hid (w9.heap.size ≤ (w2.setCell ⟨b, 6, none⟩ (.slice va n2 vc)).heap.size) := by show _ ≤ _; have := hch2.size; simpa using this
  clear hs2 hch2 hob2 hp2 hq2 hc KD KC hw hkn
  go_wp2_with (first | (go_at_call 40; refine Hid.out ?_) | fail)
  unfold Hid
  clear hc2 hz2
  generalize w2.setCell ⟨b, 6, none⟩ (.slice va n2 vc) = w3 at HP3 HQ3 HI3 HC3 HW13 ⊢
  refine (HLE.out w3 _ HP3.out).mono ?_
  rintro e w4 ⟨rfl, v4, l4, hp4, hpm4, hhi4, hch4, hob4⟩
  have hq4 : SwQ w4 vq m.q := HQ3.out.chg hch4 (fun j hj e => HP3.out.offS HQ3.out (by decide) (by decide) hj e)
  have hi4 : SwI w4 (.slice va n2 vc) (cutL m.ids k) := HI3.out.chg hch4 (fun j hj e => HP3.out.offS HI3.out (by decide) (by decide) hj e)
  have hc4 : ∀ o, w4.cell? ⟨b, o, none⟩ = ([.int .i32 1, .int .u32 0, I m.mo, I m.un, I m.sp, vq, (.slice va n2 vc), I m.lg, I m.ck, v4] : List Value)[o]? := hp4.cells
  have hz4 := hp4.blk.frozen
  have HC4 : Hid (Chg K W w4) := HC3.out.trans (hch4.mono (fun j e => e.elim (fun q => by rw [q]; exact HH.out.kb) (HH.out.kv j)))
  have hlt4 : ∀ j, K j → j < w4.heap.size := fun j e => Nat.lt_of_lt_of_le (HH.out.lt j e) (Nat.le_trans HW13.out hch4.size)
  cases lgd with
  | true =>
    have H5 : Hid (PG (w4.setCell ⟨b, 7, none⟩ (I (m.lg + 1))) b 1 (m.gone k (m.lg + 1)) K ∧ Ste K W K (w4.setCell ⟨b, 7, none⟩ (I (m.lg + 1)))) := ⟨⟨vq, (.slice va n2 vc), v4, l4, hp4.field 7 _ rfl, hq4.off (hq4.ne hp4.blk (by decide)), (by have := hi4.off (b := b) (o := 7) (u := I (m.lg + 1)) (hi4.ne hp4.blk (by decide)); rw [← HIDS.out] at this; exact this), HPM.out l4 hpm4, hhi4 HH.out.hi, HH.out.kb, fun j e => HH.out.kv j (by rw [← hob4]; exact e), HH.out.kq, fun j e => HH.out.ki j (by rw [← HOB.out]; exact e), fun j e => by simpa using hlt4 j e⟩, ⟨HC4.out.trans (chg_setCell _ _ (.inl HH.out.kb)), fun _ q => .inl q⟩⟩
    clear hp4 hpm4 hhi4 hch4 hob4 hq4 hi4 hlt4 HPM HLE HIDS HH HS1 HP3 HQ3 HI3 HC3 HC4 HOB
    have hlg := HLG.out
    go_wp2_with fail
    generalize w4.setCell ⟨b, 7, none⟩ (I (m.lg + 1)) = w5 at H5 ⊢
    refine leaves_cons (f := 15) (args := #[.pointer (some ⟨b, 0, none⟩)]) (by simp) (by simp [go_sem]) ?_
    refine (unlock_deferred muLib ⟨b, 0, none⟩ .returning _ H5.out.1.c0 H5.out.1.f0).mono ?_
    rintro e u' w'' ⟨rfl, rfl, rfl⟩
    exact ⟨_, results_tmp rfl _ _ _, rfl, K, (H5.out.1.lock 0).1, H5.out.2.trans (H5.out.1.lock 0).2⟩
  | false =>
    have H5 : Hid (PG w4 b 1 (m.gone k m.lg) K ∧ Ste K W K w4) := ⟨⟨vq, (.slice va n2 vc), v4, l4, hp4, hq4, (by have := hi4; rw [← HIDS.out] at this; exact this), HPM.out l4 hpm4, hhi4 HH.out.hi, HH.out.kb, fun j e => HH.out.kv j (by rw [← hob4]; exact e), HH.out.kq, fun j e => HH.out.ki j (by rw [← HOB.out]; exact e), hlt4⟩, ⟨HC4.out, fun _ q => .inl q⟩⟩
    clear hp4 hpm4 hhi4 hch4 hob4 hq4 hi4 hlt4 HPM HLE HIDS HH HS1 HP3 HQ3 HI3 HC3 HC4 HOB
    go_wp2_with fail
    refine leaves_cons (f := 15) (args := #[.pointer (some ⟨b, 0, none⟩)]) (by simp) (by simp [go_sem]) ?_
    refine (unlock_deferred muLib ⟨b, 0, none⟩ .returning _ H5.out.1.c0 H5.out.1.f0).mono ?_
    rintro e u' w'' ⟨rfl, rfl, rfl⟩
    exact ⟨_, results_tmp rfl _ _ _, rfl, K, (H5.out.1.lock 0).1, H5.out.2.trans (H5.out.1.lock 0).2⟩
end Go.Proofs.Ytmclbnhbioficac
