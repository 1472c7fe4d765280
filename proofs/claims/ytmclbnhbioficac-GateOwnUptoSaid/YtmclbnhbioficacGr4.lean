/- The document's gate: Admit. -/
import Derived.Test.YtmclbnhbioficacGr3
namespace Go.Proofs.Ytmclbnhbioficac
open Go.RowKit

def rqLen (b : Nat) (w : World) : Nat := match w.cell? ⟨b, 6, none⟩ with
  | some (.slice _ n _) => n
  | _ => 0
theorem rqLen_eq {w : World} {b : Nat} {m : GM} {K : Nat → Prop} (h : RG w b m K) : rqLen b w = m.q.length := by
  obtain ⟨vq, vi, h⟩ := h
  obtain ⟨a, c, e⟩ := h.q.form
  have := h.cells 6
  simp only [List.getElem?_cons_succ, List.getElem?_cons_zero] at this
  unfold rqLen
  rw [this, e, qO_len]
set_option maxRecDepth 100000 in
set_option maxHeartbeats 1000000 in
theorem radmit_any (b : Nat) (m : GM) (K : Nat → Prop) (W : World) (h : RG W b m K) (hv : Iv m) :
    Calls Try.prog 8 #[ptr b] W fun e W' => ∃ v', e = .returned v' ∧ SwI W' v' m.admit.1 ∧ Fresh W v' ∧ ∃ K', RG W' b m.admit.2 K' ∧ Ste K W K' W' ∧ (∀ k, v'.ownBlock = some k → ¬ K' k) := by
  have HIV := hide hv
  have H1 := hide h
  clear h hv
  go_enter Try.func8, Try.ntmps8
  go_wp2_with fail
  go_loopw [3] (fun ov wr => ∃ (m1 : GM) (K1 : Nat → Prop) (out : List Int), RG wr b m1 K1 ∧ Ste K W K1 wr ∧ Iv m1 ∧ m.admit = (out ++ m1.admit.1, m1.admit.2) ∧ out.length + m1.q.length = m.q.length ∧ SwI wr ov out ∧ Fresh W ov ∧ (∀ k, ov.ownBlock = some k → ¬ K1 k)) (fun _ wr => rqLen b wr)
  case atStart => exact ⟨m, K, [], H1.out, Ste.refl _ _, HIV.out, by simp, by simp, Sw.nil _ _ _, fun k e => by simp [Value.ownBlock] at e, fun k e => by simp [Value.ownBlock] at e⟩
  case round =>
    obtain ⟨m1, K1, out, hpg, hst, hiv, hm, hln, hsw, hfr, hno⟩ := hrel
    obtain ⟨vq, vi, h1⟩ := hpg
    obtain ⟨qa, qc, eq⟩ := h1.q.form
    obtain ⟨ia, ic, ei⟩ := h1.i.form
    rw [qO_len] at eq
    have hc : ∀ o, wr.cell? ⟨b, o, none⟩ = ([I m1.mo, I m1.un, I m1.lg, I m1.ck, I m1.sw, I m1.sp, .slice qa m1.q.length qc, .slice ia m1.ins.length ic] : List Value)[o]? := by have := h1.cells; rw [eq, ei] at this; exact this
    have hpg : RG wr b m1 K1 := ⟨vq, vi, h1⟩
    have hcr := hiv.crowd
    have hcr0 := HIV.out.crowd
    have hlg0 := hiv.lg0
    have hlg1 := hiv.room
    have hun := hiv.un2
    have hw : wrap64 (m1.lg + (m1.ins.length : Int)) = m1.lg + (m1.ins.length : Int) := by unfold wrap64; omega
    cases hq : m1.q with
    | nil =>
      have hl0 : m1.q.length = 0 := by rw [hq]; rfl
      have hme : m1.admit = ([], m1) := admit_nil hq
      rw [hl0] at hc
      have HM9 : Hid (m.admit = (out, m1)) := by
        show _ = _
        rw [hm, hme]
        simp
      have H9 : Hid (∀ n, RG (wr.drewN n) b m1 K1 ∧ Ste K W K1 (wr.drewN n) ∧ SwI (wr.drewN n) u3 out) := fun n => ⟨hpg.G ((G.refl _).drewN n), hst.trans (Ste.G ((G.refl _).drewN n)), hsw.G ((G.refl _).drewN n)⟩
      have HF9 := hide hfr
      have HO9 := hide hno
      clear h1 hpg hst hiv hm hln hsw hfr hno eq ei hcr hcr0 hq hme hl0 hlg0 hlg1 hun hw
      go_wp2_with fail
      go_quiet (fail)
      go_wp2_with fail
      go_ret
      obtain ⟨r1, r2, r3⟩ := H9.out _
      exact ⟨u3, rfl, by rw [HM9.out]; exact r3, HF9.out, K1, by rw [HM9.out]; exact r1, r2, HO9.out⟩
    | cons x t =>
      have hql : m1.q.length = t.length + 1 := by rw [hq]; rfl
      have d0 : decide ((0 : Int) < (m1.q.length : Int)) = true := decide_eq_true (by omega)
      have d0' : decide (0 < m1.q.length) = true := decide_eq_true (by omega)
      by_cases c1 : (m1.ins.length : Int) < m1.mo
      · have d1 := decide_eq_true c1
        by_cases c2 : m1.lg + (m1.ins.length : Int) < m1.un
        · have d2 := decide_eq_true c2
          have hroom : m1.room = true := by unfold GM.room; rw [d1, d2]; rfl
          obtain ⟨xa, xb⟩ := x
          have HH : Hid (∀ n, RGx (wr.drewN n) b m1 K1 vq vi ∧ Ste K W K1 (wr.drewN n) ∧ SwI (wr.drewN n) u3 out) := fun n => ⟨h1.G ((G.refl _).drewN n), hst.trans (Ste.G ((G.refl _).drewN n)), hsw.G ((G.refl _).drewN n)⟩
          have HPG := hide hpg
          have HNO := hide hno
          have HFR := hide hfr
          have HQ := hide hq
          have HADM := hide (hm.trans (by rw [admit_in hq hroom]; simp : _ = ((out ++ [xa]) ++ (m1.ent (xa, xb) t).admit.1, (m1.ent (xa, xb) t).admit.2)))
          have HI2 := hide (iv_ent hiv hq hroom)
          have HLN : Hid ((out ++ [xa]).length + (m1.ent (xa, xb) t).q.length = m.q.length) := by show _ = _; simp [GM.ent]; omega
          have HOL : Hid (out.length ≤ 64) := by show _ ≤ _; omega
          have HQL := hide hql
          have HCR := hide hcr
          have HEQ := hide eq
          have HEI := hide ei
          clear h1 hpg hst hiv hm hln hsw hfr hno eq ei hcr hcr0 hq hroom hql hlg0 hlg1 hun
          go_wp2_with fail
          go_quiet (fail)
          generalize hw1 : World.drewN wr _ = w1
          have H1' : Hid (RGx w1 b m1 K1 vq vi ∧ Ste K W K1 w1 ∧ SwI w1 u3 out) := by show _ ∧ _; rw [← hw1]; exact HH.out _
          clear hw1 HH hc d0 d0' c1 d1 c2 d2 hw
          have h1 := H1'.out.1
          obtain ⟨g, cap, eg⟩ := h1.q.slice (by rw [qO_len]; have := HQL.out; omega)
          have hc1 : ∀ o, w1.cell? ⟨b, o, none⟩ = ([I m1.mo, I m1.un, I m1.lg, I m1.ck, I m1.sw, I m1.sp, .slice (some ⟨g, 0, none⟩) m1.q.length cap, vi] : List Value)[o]? := by have := h1.cells; rw [eg, qO_len] at this; exact this
          have hqg := h1.q
          rw [eg] at hqg
          have hx0 : m1.qO[0]? = some ((xa, xb), 0) := by unfold GM.qO; rw [HQ.out]; rfl
          have x1 : w1.cell? ⟨g, 0, none⟩ = some (I xa) := by have := hqg.at hx0 0 (by decide); simpa using this
          have x2 : w1.cell? ⟨g, 1, none⟩ = some (I xb) := by have := hqg.at hx0 1 (by decide); simpa using this
          have x3 : w1.cell? ⟨g, 2, none⟩ = some (I 0) := by have := hqg.at hx0 2 (by decide); simpa using this
          have i1 : (0 : Int) < m1.q.length := by have := HQL.out; omega
          have hbl := h1.blk.lt
          have hbl1 : b ≠ w1.heap.size := by omega
          have HX1 := hide (Blk.new w1 [I xa, I xb, I m1.ck] 65)
          have HG1 := hide ((G.refl w1).alloc (.cells #[I xa, I xb, I m1.ck] 65))
          have KW := hide (without_any m1.qO vq 0 (w1.alloc (.cells #[I xa, I xb, I m1.ck] 65)) (h1.q.G HG1.out) (by rw [qO_len]; have := HQL.out; omega) (by rw [qO_len]; have := HCR.out; omega))
          have HEG := hide eg
          rw [eg, qO_len] at KW
          clear h1 eg hqg hx0
          go_wp2_with (first | (go_at_call 18; refine Hid.out ?_) | fail)
          unfold Hid
          generalize w1.alloc (.cells #[I xa, I xb, I m1.ck] 65) = wa at HX1 HG1 KW ⊢
          refine KW.out.mono ?_
          rintro e w2 ⟨v2, rfl, hs2, hg2, hf2⟩
          obtain ⟨a2, c2, e2⟩ := hs2.form
          generalize (cutL m1.qO 0).length = n2 at e2
          subst e2
          have ecut : cutL m1.qO 0 = GM.qO { m1 with q := t } := by simp [cutL, GM.qO, HQ.out]
          rw [ecut] at hs2
          have h2 := (H1'.out.1.G HG1.out).G hg2
          have hc2 := h2.cells
          have hz2 := h2.blk.frozen
          have hu2 := (H1'.out.2.2.G HG1.out).G hg2
          have hx2 := HX1.out.G hg2
          have HB3 : Hid (Blk (w2.setCell ⟨b, 6, none⟩ (Value.slice a2 n2 c2)) b 61 (rcs { m1 with q := t } (Value.slice a2 n2 c2) vi)) := h2.blk.set 6 _
          have HI3 := hide (h2.i.off (b := b) (o := 6) (u := (Value.slice a2 n2 c2)) (h2.i.ne h2.blk (by decide)))
          have HQ3 := hide (hs2.off (b := b) (o := 6) (u := (Value.slice a2 n2 c2)) (hs2.ne h2.blk (by decide)))
          have HX3 := hide (hx2.off (b := b) (o := 6) (v := (Value.slice a2 n2 c2)) (hx2.ne h2.blk (by decide)))
          have HU3 := hide (hu2.off (b := b) (o := 6) (u := (Value.slice a2 n2 c2)) (hu2.ne h2.blk (by decide)))
          have HS3 := hide ((H1'.out.2.1.trans (Ste.G (HG1.out.trans hg2))).trans (h2.ste 6 (Value.slice a2 n2 c2)))
          have HL3 : Hid (w1.heap.size ≤ (w2.setCell ⟨b, 6, none⟩ (Value.slice a2 n2 c2)).heap.size) := by show _ ≤ _; have := (HG1.out.trans hg2).size; simpa using this
          have HV2 : Hid (∀ k, (Value.slice a2 n2 c2).ownBlock = some k → w1.heap.size ≤ k) := fun k e => Nat.le_trans HG1.out.size (hf2 k e)
          have HIL : Hid (∀ k, vi.ownBlock = some k → k < w1.heap.size) := fun k e => H1'.out.1.i.lt e
          clear h2 hs2 hg2 hf2 hu2 hx2 ecut KW HX1 HG1 hc1 x1 x2 x3 i1 hbl hbl1
          go_wp2_with fail
          clear hc2 hz2
          generalize w2.setCell ⟨b, 6, none⟩ (Value.slice a2 n2 c2) = w3 at HB3 HI3 HQ3 HX3 HU3 HS3 HL3 ⊢
          have HN1 : Hid (m1.ins.length + 1 ≤ maxLen) := Nat.le_trans (show m1.ins.length + 1 ≤ 1000 by have h2 := HCR.out; omega) (of_decide_eq_true (by kernel_rfl))
          have HN2 : Hid ((m1.ins.length + 1) * 24 ≤ 140737488355328) := by show _ ≤ _; have h2 := HCR.out; omega
          refine wp_region_noPanic ?_
          refine wp_region_L (S := (fun V => (∀ o, V.cell? ⟨b, o, none⟩ = ([I m1.mo, I m1.un, I m1.lg, I m1.ck, I m1.sw, I m1.sp, (.slice a2 n2 c2), vi] : List Value)[o]?) ∧ (∀ o, V.cell? ⟨w1.heap.size, o, none⟩ = ([I xa, I xb, I m1.ck] : List Value)[o]?))) 10 (by kernel_rfl) (⟨(HB3.out.G (G.drew (G.refl _))).cell, (HX3.out.G (G.drew (G.refl _))).cell⟩) (fun hHeld => ?_)
          refine wpAnyL_take (i := 0) (v := ?_) rfl (by kernel_rfl) (by kernel_rfl) (by kernel_rfl) (by kernel_rfl) (fun _ _ _ h => h) (Or.inl ⟨by rfl, ?_⟩) hHeld ?_
          rotate_left 1
          · (intro w hSw; (try dsimp only at hSw); go_simp; try with_reducible rfl)
          try simp only [Act.put, List.getElem_toArray, List.getElem_cons_zero, List.setIfInBounds_toArray, List.set_cons_zero, List.set_cons_succ]
          refine wpAnyL_take (i := 1) (v := ?_) rfl (by kernel_rfl) (by kernel_rfl) (by kernel_rfl) (by kernel_rfl) (fun _ _ _ h => h) (Or.inl ⟨by rfl, ?_⟩) hHeld ?_
          rotate_left 1
          · (intro w hSw; (try dsimp only at hSw); go_simp; try with_reducible rfl)
          try simp only [Act.put, List.getElem_toArray, List.getElem_cons_zero, List.getElem_cons_succ, List.setIfInBounds_toArray, List.set_cons_zero, List.set_cons_succ]
          refine wpAnyL_take (i := 2) (v := ?_) rfl (by kernel_rfl) (by kernel_rfl) (by kernel_rfl) (by kernel_rfl) (fun _ _ _ h => h) (Or.inl ⟨by rfl, ?_⟩) hHeld ?_
          rotate_left 1
          · (intro w hSw; (try dsimp only at hSw); go_simp; try with_reducible rfl)
          try simp only [Act.put, List.getElem_toArray, List.getElem_cons_zero, List.getElem_cons_succ, List.setIfInBounds_toArray, List.set_cons_zero, List.set_cons_succ]
          refine wpAnyL_take (i := 3) (v := ?_) rfl (by kernel_rfl) (by kernel_rfl) (by kernel_rfl) (by kernel_rfl) (fun _ _ _ h => h) (Or.inl ⟨by rfl, ?_⟩) hHeld ?_
          rotate_left 1
          · (intro w hSw; (try dsimp only at hSw); go_simp; try with_reducible rfl)
          try simp only [Act.put, List.getElem_toArray, List.getElem_cons_zero, List.getElem_cons_succ, List.setIfInBounds_toArray, List.set_cons_zero, List.set_cons_succ]
          refine wpAnyL_take (i := 4) (v := ?_) rfl (by kernel_rfl) (by kernel_rfl) (by kernel_rfl) (by kernel_rfl) (fun _ _ _ h => h) (Or.inl ⟨by rfl, ?_⟩) hHeld ?_
          rotate_left 1
          · (intro w hSw; obtain ⟨s1, s2⟩ := hSw; go_simp; try with_reducible rfl)
          try simp only [Act.put, List.getElem_toArray, List.getElem_cons_zero, List.getElem_cons_succ, List.setIfInBounds_toArray, List.set_cons_zero, List.set_cons_succ]
          refine wpAnyL_take (i := 5) (v := ?_) rfl (by kernel_rfl) (by kernel_rfl) (by kernel_rfl) (by kernel_rfl) (fun _ _ _ h => h) (Or.inl ⟨by rfl, ?_⟩) hHeld ?_
          rotate_left 1
          · (intro w hSw; obtain ⟨s1, s2⟩ := hSw; go_simp; try with_reducible rfl)
          try simp only [Act.put, List.getElem_toArray, List.getElem_cons_zero, List.getElem_cons_succ, List.setIfInBounds_toArray, List.set_cons_zero, List.set_cons_succ]
          refine wpAnyL_one (i := 6) (by kernel_rfl) rfl (by kernel_rfl) (fun K hK => ?_)
          clear hHeld
          go_simp
          have HG6 : Hid (G w3 (w3.alloc (.cells #[I xa, I xb, I m1.ck] 65)).drew) := ((G.refl w3).alloc _).drew
          have HC6 : Hid (∀ j u, ([I xa, I xb, I m1.ck] : List Value)[j]? = some u → (w3.alloc (.cells #[I xa, I xb, I m1.ck] 65)).drew.cell? ((⟨w3.heap.size, 0, none⟩ : Addr).add j) = some u) := cell_new w3 [I xa, I xb, I m1.ck] 65
          generalize (w3.alloc (.cells #[I xa, I xb, I m1.ck] 65)).drew = w6 at HG6 HC6 ⊢
          refine hK.out _ _ (⟨(HB3.out.G HG6.out).cell, (HX3.out.G HG6.out).cell⟩) (fun hHeld => ?_)
          clear hK K
          try simp only [Act.put, List.getElem_toArray, List.getElem_cons_zero, List.getElem_cons_succ, List.setIfInBounds_toArray, List.set_cons_zero, List.set_cons_succ]
          refine wpAnyL_one (i := 7) (by kernel_rfl) rfl (by kernel_rfl) (fun K hK => ?_)
          clear hHeld
          obtain ⟨i0, hi0, hz0, hz1, hz2⟩ := info_O
          obtain ⟨v7', w7, hrun, hs7, hap7⟩ := app_one (P := Try.prog) (ts := 59) i0 _ 24 Try.underlying59 hi0 hz0 hz1 hz2 rfl (by decide) (HI3.out.G HG6.out) ⟨w3.heap.size, 0, none⟩ 1 ((xa, xb), m1.ck) HC6.out HN1.out HN2.out
          have HAP := hide (Chg.app hap7)
          obtain ⟨a7, c7, e7⟩ := hs7.form
          generalize (m1.ins ++ [((xa, xb), m1.ck)]).length = n7 at e7
          subst e7
          have HS7 := hide hs7
          clear hap7 hs7 hi0 hz0 hz1 hz2
          refine (if_pos rfl).mpr ?_
          refine wp_of_exec (exec_append _ _ 59 rfl vi (.slice (some ⟨w3.heap.size, 0, none⟩) 1 1) rfl rfl 59 rfl hrun) ?_
          clear hrun
          have HB7 : Hid (Blk w7 b 61 (rcs { m1 with q := t } (Value.slice a2 n2 c2) vi)) := (HB3.out.G HG6.out).chg HAP.out.1 (fun e => (HI3.out.G HG6.out).ne (HB3.out.G HG6.out) (by decide) e)
          have HX7 : Hid (Blk w7 w1.heap.size 65 [I xa, I xb, I m1.ck]) := (HX3.out.G HG6.out).chg HAP.out.1 (fun e => Nat.lt_irrefl _ (HIL.out _ e))
          refine hK.out _ _ (⟨HB7.out.cell, HX7.out.cell⟩) (fun hHeld => ?_)
          clear hK K
          try simp only [Act.put, List.getElem_toArray, List.getElem_cons_zero, List.getElem_cons_succ, List.setIfInBounds_toArray, List.set_cons_zero, List.set_cons_succ]
          refine wpAnyL_take2 9 (i := 8) (v := ?_) rfl (by kernel_rfl) (by kernel_rfl) (by kernel_rfl) (by kernel_rfl) (fun _ _ _ h => h) (Or.inl ⟨by rfl, ?_⟩) hHeld ?_
          rotate_left 1
          · (intro w hSw; (try dsimp only at hSw); go_simp; try with_reducible rfl)
          try simp only [Act.put, List.getElem_toArray, List.getElem_cons_zero, List.getElem_cons_succ, List.setIfInBounds_toArray, List.set_cons_zero, List.set_cons_succ]
          refine wpAnyL_take (i := 9) (v := ?_) rfl (by kernel_rfl) (by kernel_rfl) (by kernel_rfl) (by kernel_rfl) (fun _ _ _ h => h) (Or.inl ⟨by rfl, ?_⟩) hHeld ?_
          rotate_left 1
          · (intro w hSw; (try dsimp only at hSw); go_simp; try with_reducible rfl)
          try simp only [Act.put, List.getElem_toArray, List.getElem_cons_zero, List.getElem_cons_succ, List.setIfInBounds_toArray, List.set_cons_zero, List.set_cons_succ]
          refine wpAnyL_last (by kernel_rfl) rfl (by kernel_rfl) (fun K hK => ?_)
          clear hHeld
          have hc7 : ∀ o, w7.cell? ⟨b, o, none⟩ = ([I m1.mo, I m1.un, I m1.lg, I m1.ck, I m1.sw, I m1.sp, (.slice a2 n2 c2), vi] : List Value)[o]? := HB7.out.cell
          have hz7 := HB7.out.frozen
          go_simp
          refine hK.out _ _ ?_
          clear hK K
          refine NoPanic.normal ?_
          have hq7 : SwO w7 (Value.slice a2 n2 c2) (GM.qO { m1 with q := t }) := (HQ3.out.G HG6.out).chg HAP.out.1 (fun k hk e => Nat.not_le.2 (HIL.out k e) (HV2.out k hk))
          have hu7 : SwI w7 u3 out := (HU3.out.G HG6.out).chg HAP.out.1 (fun k hk e => by
            obtain ⟨xs, hx⟩ := own_blk (HI3.out.G HG6.out) e
            exact (HU3.out.G HG6.out).ne hx (by decide) hk)
          have H8 : Hid (RGx (w7.setCell ⟨b, 7, none⟩ (Value.slice a7 n7 c7)) b (m1.ent (xa, xb) t) (fun k => K1 k ∨ (Value.slice a2 n2 c2).ownBlock = some k ∨ (Value.slice a7 n7 c7).ownBlock = some k) (Value.slice a2 n2 c2) (Value.slice a7 n7 c7) ∧ Ste K W (fun k => K1 k ∨ (Value.slice a2 n2 c2).ownBlock = some k ∨ (Value.slice a7 n7 c7).ownBlock = some k) (w7.setCell ⟨b, 7, none⟩ (Value.slice a7 n7 c7)) ∧ SwI (w7.setCell ⟨b, 7, none⟩ (Value.slice a7 n7 c7)) u3 out) := by
            refine ⟨⟨HB7.out.set 7 _, hq7.off (hq7.ne HB7.out (by decide)), HS7.out.off (HS7.out.ne HB7.out (by decide)), fun k e q => ?_, .inl H1'.out.1.kb, fun k e => .inr (.inl e), fun k e => .inr (.inr e), fun k e => ?_⟩, ⟨?_, fun k e => ?_⟩, hu7.off (hu7.ne HB7.out (by decide))⟩
            · rcases HAP.out.2 k q with a | a
              · exact Nat.not_le.2 (HIL.out k a) (HV2.out k e)
              · exact Nat.not_le.2 (HQ3.out.lt e) (Nat.le_trans HG6.out.size a)
            · rcases e with e | e | e
              · have a1 := H1'.out.1.lt k e
                have a2 := HL3.out
                have a3 := HG6.out.size
                have a4 := HAP.out.1.size
                simp; omega
              · simpa using hq7.lt e
              · simpa using HS7.out.lt e
            · exact ((HS3.out.chg.trans HG6.out.chg).more HAP.out.1 (fun i hi e => (HS3.out.nw i (H1'.out.1.ki i e)).resolve_right (Nat.not_le.2 hi))).more (chg_setCell (F := fun k => k = b) _ _ (.inl rfl)) (fun i hi e => (HS3.out.nw i (by rw [e]; exact H1'.out.1.kb)).resolve_right (Nat.not_le.2 hi))
            · rcases e with e | e | e
              · exact HS3.out.nw k e
              · exact .inr (Nat.le_trans H1'.out.2.1.chg.size (HV2.out k e))
              · rcases HAP.out.2 k e with a | a
                · exact HS3.out.nw k (H1'.out.1.ki k a)
                · exact .inr (Nat.le_trans (HS3.out.chg.trans HG6.out.chg (F := K)).size a)
          have HX8 := hide (HX7.out.off (b := b) (o := 7) (v := (Value.slice a7 n7 c7)) (HX7.out.ne HB7.out (by decide)))
          clear hq7 hu7 HB7 HX7 HS7 HAP HC6 HG6 HI3 HQ3 HB3 HX3 HU3 HS3 HL3 HN1 HN2
          generalize w7.setCell ⟨b, 7, none⟩ (Value.slice a7 n7 c7) = w8 at H8 HX8 ⊢
          have hno8 : ∀ k, u3.ownBlock = some k → ¬ ((fun k => K1 k ∨ (Value.slice a2 n2 c2).ownBlock = some k ∨ (Value.slice a7 n7 c7).ownBlock = some k) k) := fun k e q => by
            rcases q with q | q | q
            · exact HNO.out k e q
            · obtain ⟨xs, hx⟩ := own_blk H8.out.1.q q
              exact H8.out.2.2.ne hx (by decide) e
            · obtain ⟨xs, hx⟩ := own_blk H8.out.1.i q
              exact H8.out.2.2.ne hx (by decide) e
          have h8 := H8.out
          generalize (fun k => K1 k ∨ (Value.slice a2 n2 c2).ownBlock = some k ∨ (Value.slice a7 n7 c7).ownBlock = some k) = K3 at h8 hno8
          have hA := (G.refl w8).alloc (.cells #[I xa] 3)
          obtain ⟨i0, hi0, hz0, hz1, hz2⟩ := info_I
          obtain ⟨v', w', hrun, hs', hap⟩ := app_one (P := Try.prog) (ts := 33) i0 _ 8 Try.underlying33 hi0 hz0 hz1 hz2 rfl (by decide) (h8.2.2.G hA) ⟨w8.heap.size, 0, none⟩ 1 xa (fun j u hj => by
            have h1 := (Blk.new w8 [I xa] 3).cell j
            rw [Addr.add_mid, Nat.zero_add]
            rw [hj] at h1
            exact h1) (Nat.le_trans (show out.length + 1 ≤ 1000 by have := HOL.out; omega) (of_decide_eq_true (by kernel_rfl))) (by have := HOL.out; omega)
          obtain ⟨hch, hob⟩ := Chg.app hap
          have HRUN := hide hrun
          have hpg8 : RG w8 b (m1.ent (xa, xb) t) K3 := ⟨_, _, h8.1⟩
          have hpg4 : RG w' b (m1.ent (xa, xb) t) K3 := (hpg8.G hA).off hch (fun k hk e => hno8 k e hk)
          have hA2 := h8.2.1.trans (Ste.G hA)
          have HR : Hid (∃ u, v' = u ∧ ∃ (m1 : GM) (K1 : Nat → Prop) (out : List Int), RG w' b m1 K1 ∧ Ste K W K1 w' ∧ Iv m1 ∧ m.admit = (out ++ m1.admit.1, m1.admit.2) ∧ out.length + m1.q.length = m.q.length ∧ SwI w' u out ∧ Fresh W u ∧ (∀ k, u.ownBlock = some k → ¬ K1 k)) := ⟨v', rfl, m1.ent (xa, xb) t, K3, out ++ [xa], hpg4, ⟨hA2.chg.more hch (fun i hi e => absurd (HFR.out i e) (Nat.not_le.2 hi)), hA2.nw⟩, HI2.out, HADM.out, HLN.out, hs', fun k e => (hob k e).elim (HFR.out k) (fun q => Nat.le_trans hA2.chg.size q), fun k e q => (hob k e).elim (fun r => hno8 k r q) (fun r => Nat.not_le.2 (hpg8.lt k q) (Nat.le_trans hA.size r))⟩
          have HQ2 : Hid (rqLen b w' < rqLen b wr) := by
            show _ < _
            rw [rqLen_eq hpg4, rqLen_eq HPG.out, HQL.out]
            exact Nat.lt_succ_self _
          have hcX := HX8.out.cell
          clear hi0 hz0 hz1 hz2 hrun hs' hap hch hob hA hA2 h8 hno8 hpg8 hpg4
          go_wp2_with (first | (at_builtin; refine wpList_append_run rfl _ _ 33 rfl u3 (.slice (some ⟨w8.heap.size, 0, none⟩) 1 1) rfl rfl HRUN.out ?_) | fail)
          obtain ⟨u, rfl, hrr⟩ := HR.out
          go_roundw
          case rel => exact hrr
          case measure => exact HQ2.out
        · have d2 := decide_eq_false c2
          have hme : m1.admit = ([], m1) := admit_no (by unfold GM.room; rw [d1, d2]; rfl)
          have HM9 : Hid (m.admit = (out, m1)) := by
            show _ = _
            rw [hm, hme]
            simp
          have H9 : Hid (∀ n, RG (wr.drewN n) b m1 K1 ∧ Ste K W K1 (wr.drewN n) ∧ SwI (wr.drewN n) u3 out) := fun n => ⟨hpg.G ((G.refl _).drewN n), hst.trans (Ste.G ((G.refl _).drewN n)), hsw.G ((G.refl _).drewN n)⟩
          have HF9 := hide hfr
          have HO9 := hide hno
          clear h1 hpg hst hiv hm hln hsw hfr hno eq ei hcr hcr0 hq hme hql hlg0 hlg1 hun
          go_wp2_with fail
          go_quiet (fail)
          go_wp2_with fail
          go_ret
          obtain ⟨r1, r2, r3⟩ := H9.out _
          exact ⟨u3, rfl, by rw [HM9.out]; exact r3, HF9.out, K1, by rw [HM9.out]; exact r1, r2, HO9.out⟩
      · have d1 := decide_eq_false c1
        have hme : m1.admit = ([], m1) := admit_no (by unfold GM.room; rw [d1]; rfl)
        have HM9 : Hid (m.admit = (out, m1)) := by
          show _ = _
          rw [hm, hme]
          simp
        have H9 : Hid (∀ n, RG (wr.drewN n) b m1 K1 ∧ Ste K W K1 (wr.drewN n) ∧ SwI (wr.drewN n) u3 out) := fun n => ⟨hpg.G ((G.refl _).drewN n), hst.trans (Ste.G ((G.refl _).drewN n)), hsw.G ((G.refl _).drewN n)⟩
        have HF9 := hide hfr
        have HO9 := hide hno
        clear h1 hpg hst hiv hm hln hsw hfr hno eq ei hcr hcr0 hq hme hql hlg0 hlg1 hun hw
        go_wp2_with fail
        go_quiet (fail)
        go_wp2_with fail
        go_ret
        obtain ⟨r1, r2, r3⟩ := H9.out _
        exact ⟨u3, rfl, by rw [HM9.out]; exact r3, HF9.out, K1, by rw [HM9.out]; exact r1, r2, HO9.out⟩
end Go.Proofs.Ytmclbnhbioficac
