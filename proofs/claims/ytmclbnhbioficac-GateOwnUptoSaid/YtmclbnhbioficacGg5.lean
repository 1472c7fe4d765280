/- Gate: Admit. -/
import Derived.Test.YtmclbnhbioficacGg4
namespace Go.Proofs.Ytmclbnhbioficac
open Go.RowKit Go.MuLone

def GM.admit (m : GM) : List Int × GM := m.adm m.q.length
theorem admit_in {m : GM} {x : Int × Int} {t : List (Int × Int)} (hq : m.q = x :: t) (hr : m.room = true) : m.admit = (x.1 :: (m.ent x t).admit.1, (m.ent x t).admit.2) := by
  unfold GM.admit
  have e : m.q.length = t.length + 1 := by rw [hq]; rfl
  rw [e]
  simp only [GM.adm, hq, hr, if_true]
  rfl
theorem admit_no {m : GM} (h : m.room = false) : m.admit = ([], m) := by
  unfold GM.admit
  cases hq : m.q with
  | nil => rfl
  | cons x t => simp [GM.adm, hq, h]
theorem admit_nil {m : GM} (h : m.q = []) : m.admit = ([], m) := by
  unfold GM.admit
  rw [h]
  rfl
theorem iv_adm : ∀ (n : Nat) {m : GM} (_ : Iv m), Iv (m.adm n).2
  | 0, _, h => h
  | n + 1, m, h => by
    unfold GM.adm
    cases hq : m.q with
    | nil => exact h
    | cons x t =>
      by_cases hr : m.room = true
      · simp only [hr, if_true]
        exact iv_adm n (iv_ent h hq hr)
      · simp only [hr]
        exact h
theorem iv_admit {m : GM} (h : Iv m) : Iv m.admit.2 := iv_adm _ h
/-- A slice's length, read off a gate's queue. -/
def qLen (b : Nat) (w : World) : Nat := match w.cell? ⟨b, 5, none⟩ with
  | some (.slice _ n _) => n
  | _ => 0
theorem qLen_eq {w : World} {b : Nat} {st : Int} {m : GM} {K : Nat → Prop} (h : PG w b st m K) : qLen b w = m.q.length := by
  obtain ⟨vq, vi, v, l, h⟩ := h
  obtain ⟨a, c, e⟩ := h.q.form
  have := h.hp.cells 5
  simp only [List.getElem?_cons_succ, List.getElem?_cons_zero] at this
  unfold qLen
  rw [this, e]
set_option maxRecDepth 100000 in
set_option maxHeartbeats 1000000 in
theorem admit_any (b : Nat) (m : GM) (K : Nat → Prop) (W : World) (h : PG W b 0 m K) (hv : Iv m) :
    Calls Try.prog 6 #[ptr b] W fun e W' => ∃ v', e = .returned v' ∧ SwI W' v' m.admit.1 ∧ Fresh W v' ∧ ∃ K', PG W' b 0 m.admit.2 K' ∧ Ste K W K' W' ∧ (∀ k, v'.ownBlock = some k → ¬ K' k) := by
  have c0 := h.c0
  have f0 := h.f0
  have HIV := hide hv
  go_enter_defers Try.func6, Try.ntmps6
  go_wp2_with (first | (go_at_call 14; refine Hid.out ?_) | fail)
  unfold Hid
  refine (lock_free muLib ⟨b, 0, none⟩ _ c0 f0).mono ?_
  rintro e w0 ⟨rfl, rfl⟩
  have H1 := hide (h.lock 1)
  clear c0 f0
  generalize W.setCell ⟨b, 0, none⟩ (.int .i32 1) = w1 at H1 ⊢
  clear h hv
  go_wp2_with fail
  go_loopw [3] (fun ov wr => ∃ (m1 : GM) (K1 : Nat → Prop) (out : List Int), PG wr b 1 m1 K1 ∧ Ste K W K1 wr ∧ Iv m1 ∧ m.admit = (out ++ m1.admit.1, m1.admit.2) ∧ out.length + m1.q.length = m.q.length ∧ SwI wr ov out ∧ Fresh W ov ∧ (∀ k, ov.ownBlock = some k → ¬ K1 k)) (fun _ wr => qLen b wr)
  case atStart => exact ⟨m, K, [], H1.out.1, H1.out.2, HIV.out, by simp, by simp, Sw.nil _ _ _, fun k e => by simp [Value.ownBlock] at e, fun k e => by simp [Value.ownBlock] at e⟩
  case round =>
    obtain ⟨m1, K1, out, hpg, hst, hiv, hm, hln, hsw, hfr, hno⟩ := hrel
    obtain ⟨vq, vi, v, l, h1⟩ := hpg
    obtain ⟨qa, qc, eq⟩ := h1.q.form
    have hc : ∀ o, wr.cell? ⟨b, o, none⟩ = ([.int .i32 1, .int .u32 0, I m1.mo, I m1.un, I m1.sp, .slice qa m1.q.length qc, vi, I m1.lg, I m1.ck, v] : List Value)[o]? := by have := h1.hp.cells; rw [eq] at this; exact this
    have hpg : PG wr b 1 m1 K1 := ⟨vq, vi, v, l, h1⟩
    have hcr := hiv.crowd
    have hil : m1.ids.length = m1.ins.length := List.length_map _
    have hcr0 := HIV.out.crowd
    cases hq : m1.q with
    | nil =>
      have hl0 : m1.q.length = 0 := by rw [hq]; rfl
      have hme : m1.admit = ([], m1) := admit_nil hq
      have H9 := hide hpg
      have HS9 := hide hst
      have HO9 : Hid (∀ k, u3.ownBlock = some k → ¬ K1 k) := hno
      have HW9 := hide hsw
      have HF9 := hide hfr
      have HM9 : Hid (m.admit = (out, m1)) := by
        show _ = _
        rw [hm, hme]
        simp
      rw [hl0] at hc
      clear h1 hpg hst hiv hm hln hsw hfr hno eq hcr hil hcr0 hq hl0 hme
      go_wp2_with fail
      refine leaves_cons (f := 15) (args := #[.pointer (some ⟨b, 0, none⟩)]) (by simp) (by simp [go_sem]) ?_
      refine (unlock_deferred muLib ⟨b, 0, none⟩ .returning _ H9.out.c0 H9.out.f0).mono ?_
      rintro e u' w'' ⟨rfl, rfl, rfl⟩
      refine ⟨_, results_tmp rfl _ _ _, u3, rfl, ?_, HF9.out, K1, ?_, HS9.out.trans (H9.out.lock 0).2, HO9.out⟩
      · rw [HM9.out]
        exact HW9.out.off (fun e => HO9.out _ e (by obtain ⟨_, _, _, _, q⟩ := H9.out; exact q.kb))
      · rw [HM9.out]
        exact (H9.out.lock 0).1
    | cons x t =>
      have hql : m1.q.length = t.length + 1 := by rw [hq]; rfl
      have KR := hide (room_any b _ v l m1.ids wr h1.hp h1.i (by omega) hiv.lg0 (show m1.lg ≤ 1000 by have a1 := hiv.room; have a2 := hiv.un2; omega))
      have hrm : (decide (((m1.ids.length : Nat) : Int) < m1.mo) && decide (m1.lg + ((m1.ids.length : Nat) : Int) < m1.un)) = m1.room := by rw [hil]; rfl
      rw [hrm] at KR
      have hpos : (0 : Int) < (m1.q.length : Int) := by omega
      cases hroom : m1.room with
      | false =>
        rw [hroom] at KR
        have hme : m1.admit = ([], m1) := admit_no hroom
        have H9 := hide hpg
        have HS9 := hide hst
        have HO9 : Hid (∀ k, u3.ownBlock = some k → ¬ K1 k) := hno
        have HW9 := hide hsw
        have HF9 := hide hfr
        have HM9 : Hid (m.admit = (out, m1)) := by
          show _ = _
          rw [hm, hme]
          simp
        clear h1 hpg hst hiv hm hln hsw hfr hno eq hcr hil hcr0 hq hql hme hrm hroom
        go_wp2_with (first | (go_at_call 16; refine KR.out.mono ?_; rintro e w2 ⟨rfl, hg2⟩) | fail)
        have H9' := hide (H9.out.G hg2)
        refine leaves_cons (f := 15) (args := #[.pointer (some ⟨b, 0, none⟩)]) (by simp) (by simp [go_sem]) ?_
        refine (unlock_deferred muLib ⟨b, 0, none⟩ .returning _ H9'.out.c0 H9'.out.f0).mono ?_
        rintro e u' w'' ⟨rfl, rfl, rfl⟩
        refine ⟨_, results_tmp rfl _ _ _, u3, rfl, ?_, HF9.out, K1, ?_, (HS9.out.trans (Ste.G hg2)).trans (H9'.out.lock 0).2, HO9.out⟩
        · rw [HM9.out]
          exact (HW9.out.G hg2).off (fun e => HO9.out _ e (by obtain ⟨_, _, _, _, q⟩ := H9.out; exact q.kb))
        · rw [HM9.out]
          exact (H9'.out.lock 0).1
      | true =>
        rw [hroom] at KR
        obtain ⟨xa, xb⟩ := x
        have HPG := hide hpg
        have HST := hide hst
        have HNO := hide hno
        have HSW := hide hsw
        have HFR := hide hfr
        have HQ := hide hq
        have HM1 := hide hiv
        have HADM := hide (hm.trans (by rw [admit_in hq hroom]; simp : _ = ((out ++ [xa]) ++ (m1.ent (xa, xb) t).admit.1, (m1.ent (xa, xb) t).admit.2)))
        have HI2 := hide (iv_ent hiv hq hroom)
        have HLN : Hid ((out ++ [xa]).length + (m1.ent (xa, xb) t).q.length = m.q.length) := by show _ = _; simp [GM.ent]; omega
        have HOL : Hid (out.length ≤ 64) := by show _ ≤ _; omega
        have HQL := hide hql
        clear h1 hpg hst hiv hm hln hsw hfr hno eq hcr hil hcr0 hq hrm hroom hql
        go_wp2_with (first | (go_at_call 16; refine KR.out.mono ?_; rintro e w2 ⟨rfl, hg2⟩) | (go_at_call 17; refine Hid.out ?_) | fail)
        unfold Hid
        refine (enter_any b 1 m1 K1 xa xb t w2 (HPG.out.G hg2) HM1.out HQ.out).mono ?_
        rintro e w3 ⟨rfl, K3, hpg3, hst3⟩
        have hsw2 := HSW.out.G hg2
        have hsw3 : SwI w3 u3 out := hsw2.chg hst3.chg (fun k e => HNO.out k e)
        have hno3 : ∀ k, u3.ownBlock = some k → ¬ K3 k := fun k e q => by
          rcases hst3.nw k q with r | r
          · exact HNO.out k e r
          · exact Nat.not_le.2 (hsw2.lt e) r
        have hA := (G.refl w3).alloc (.cells #[I xa] 3)
        obtain ⟨i0, hi0, hz0, hz1, hz2⟩ := info_I
        obtain ⟨v', w', hrun, hs', hap⟩ := app_one (P := Try.prog) (ts := 33) i0 _ 8 Try.underlying33 hi0 hz0 hz1 hz2 rfl (by decide) (hsw3.G hA) ⟨w3.heap.size, 0, none⟩ 1 xa (fun j u hj => by
          have h1 := (Blk.new w3 [I xa] 3).cell j
          rw [Addr.add_mid, Nat.zero_add]
          rw [hj] at h1
          exact h1) (Nat.le_trans (show out.length + 1 ≤ 1000 by have := HOL.out; omega) (of_decide_eq_true (by kernel_rfl))) (by have := HOL.out; omega)
        obtain ⟨hch, hob⟩ := Chg.app hap
        have HRUN := hide hrun
        have hpg4 : PG w' b 1 (m1.ent (xa, xb) t) K3 := (hpg3.G hA).off hch (fun k hk e => hno3 k e hk)
        have hA2 := (HST.out.trans (Ste.G hg2)).trans (hst3.trans (Ste.G hA))
        have HR : Hid (∃ u, v' = u ∧ ∃ (m1 : GM) (K1 : Nat → Prop) (out : List Int), PG w' b 1 m1 K1 ∧ Ste K W K1 w' ∧ Iv m1 ∧ m.admit = (out ++ m1.admit.1, m1.admit.2) ∧ out.length + m1.q.length = m.q.length ∧ SwI w' u out ∧ Fresh W u ∧ (∀ k, u.ownBlock = some k → ¬ K1 k)) := ⟨v', rfl, m1.ent (xa, xb) t, K3, out ++ [xa], hpg4, ⟨hA2.chg.more hch (fun i hi e => absurd (HFR.out i e) (Nat.not_le.2 hi)), hA2.nw⟩, HI2.out, HADM.out, HLN.out, hs', fun k e => (hob k e).elim (HFR.out k) (fun q => Nat.le_trans hA2.chg.size q), fun k e q => (hob k e).elim (fun r => hno3 k r q) (fun r => Nat.not_le.2 (hpg3.lt k q) (Nat.le_trans hA.size r))⟩
        have HQ2 : Hid (qLen b w' < qLen b wr) := by
          show _ < _
          rw [qLen_eq hpg4, qLen_eq HPG.out, HQL.out]
          exact Nat.lt_succ_self _
        clear hi0 hz0 hz1 hz2 hrun hs' hap hch hob hA hA2 hsw2 hsw3 hno3 hpg3 hpg4 hst3 hg2 hc
        go_wp2_with (first | (at_builtin; refine wpList_append_run rfl _ _ 33 rfl u3 (.slice (some ⟨w3.heap.size, 0, none⟩) 1 1) rfl rfl HRUN.out ?_) | fail)
        obtain ⟨u, rfl, hrr⟩ := HR.out
        go_roundw
        case rel => exact hrr
        case measure => exact HQ2.out
end Go.Proofs.Ytmclbnhbioficac
