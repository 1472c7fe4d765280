/- Locks: LocksFirst. -/
import Derived.Test.YtfeiocahlhklaaaDoorLk31
namespace Go.Proofs.YtfeiocahlhklaaaDoor
open Go.RowKit
variable {W0 : World} {B : Nat} {ri : List Value}

theorem mode_facts {m : Int} (h1 : 1 ≤ m) (h5 : m ≤ 5) : modeB m = true ∧ joinI 0 m = m ∧ m ≠ 0 ∧ fitB 5 m = false := by
  have e : m = 1 ∨ m = 2 ∨ m = 3 ∨ m = 4 ∨ m = 5 := by omega
  rcases e with rfl | rfl | rfl | rfl | rfl <;> exact ⟨by kernel_rfl, by kernel_rfl, by omega, by kernel_rfl⟩
theorem fold5 (x : Int) : 1 ≤ wrap64 (1 + (wrap64 (x.tmod 5 + 5)).tmod 5) ∧ wrap64 (1 + (wrap64 (x.tmod 5 + 5)).tmod 5) ≤ 5 := by
  have h1 := Int.tmod_lt_of_pos x (show (0 : Int) < 5 by omega)
  have h2 := Int.lt_tmod_of_pos x (show (0 : Int) < 5 by omega)
  have e : wrap64 (x.tmod 5 + 5) = x.tmod 5 + 5 := by unfold wrap64; omega
  rw [e]
  have h3 := Int.tmod_lt_of_pos (x.tmod 5 + 5) (show (0 : Int) < 5 by omega)
  have h4 := Int.tmod_nonneg 5 (show 0 ≤ x.tmod 5 + 5 by omega)
  have e2 : wrap64 (1 + (x.tmod 5 + 5).tmod 5) = 1 + (x.tmod 5 + 5).tmod 5 := by unfold wrap64; omega
  rw [e2]
  omega
theorem Ask1 (t : Nat) (s : Gs) (r : Rs) (w : World) (p : Pt) (h : St W0 B ri w t s) (hr : r.ok) (hres : ResP r) (hp : s.lv 1 = some p) (hn : p.isNew 1) (hpl : ∀ z, s.pl z = none) :
    Calls Tryd.prog 7 #[ptr t, I 1, r.v, I 5] w fun e w' => ∃ u s' p' q, e = .returned (.tuple #[I 1, u, I 0]) ∧ St W0 B ri w' t s' ∧ s'.lv = upd s.lv 1 (some p') ∧ p'.has 1 r 5 ∧ s'.pl r = some q ∧ (∀ z, q.hf z = if z = 1 then 5 else 0) ∧ q.qs = [] := by
  have hm := mode_facts (m := 5) (by omega) (by omega)
  refine (Ask_any t s 1 5 r p w h.tt h.tb (r64_small (by omega) (by omega)) hr hres hm.1 hm.2.2.1 hm.2.1 hp hn.2.2.2.1 (hn.2.1 r) (fun k u w' => k = 1 ∧ ∃ s' p' q, St W0 B ri w' t s' ∧ s'.lv = upd s.lv 1 (some p') ∧ p'.has 1 r 5 ∧ s'.pl r = some q ∧ (∀ z, q.hf z = if z = 1 then 5 else 0) ∧ q.qs = []) (fun w1 g => (ask1 t s r w1 p (h.G g) hr hp hn hpl).mono ?_)).mono ?_
  · rintro e w' ⟨k, u, e1, e2, s', p', q, e3, -, e4⟩
    exact ⟨k, u, e1, e2, s', p', q, e3, e4⟩
  · rintro e w' ⟨k, u, e1, rfl, s', p', q, e3⟩
    exact ⟨u, s', p', q, e1, e3⟩
theorem AskW (t : Nat) (s : Gs) (r : Rs) (w : World) (x m : Int) (p : Pt) (q : Pl) (h : St W0 B ri w t s) (hr : r.ok) (hres : ResP r) (hx : R64 x) (m1 : 1 ≤ m) (m5 : m ≤ 5) (hp : s.lv x = some p) (hn : p.isNew x) (hq : s.pl r = some q) (h0 : q.hf x = 0) (Lh : List Int) (hLh : ∀ z, q.hf z ≠ 0 → z ∈ Lh ∧ R64 z) (hl : Lh.length < 1000) (hqs : ∀ o ∈ q.qs, R64 o.1) (hql : q.qs.length < 1000)
    (hold : ∀ y, inW q.hf q.qs x m q.qs.length y → y ≠ x ∧ R64 y ∧ ∃ b, s.lv y = some b ∧ b.stamp ≤ x ∧ ∀ z, b.wd z = false) (hb : ∃ y, inW q.hf q.qs x m q.qs.length y) :
    Calls Tryd.prog 7 #[ptr t, I x, r.v, I m] w fun e w' => ∃ a c s' p' q', e = .returned (.tuple #[I 2, .slice a 0 c, I 0]) ∧ St W0 B ri w' t s' ∧ s'.lv = upd s.lv x (some p') ∧ p'.wants x r m ∧ s'.pl r = some q' ∧ q'.hf = q.hf ∧ q'.qs = q.qs ++ [(x, m)] := by
  have hm := mode_facts m1 m5
  refine (Ask_any t s x m r p w h.tt h.tb hx hr hres hm.1 hm.2.2.1 hm.2.1 hp hn.2.2.2.1 (hn.2.1 r) (fun k u w' => k = 2 ∧ ∃ a c s' p' q', u = .slice a 0 c ∧ St W0 B ri w' t s' ∧ s'.lv = upd s.lv x (some p') ∧ p'.wants x r m ∧ s'.pl r = some q' ∧ q'.hf = q.hf ∧ q'.qs = q.qs ++ [(x, m)]) (fun w1 g => (askW t s r w1 x m x p q (h.G g) hr hx hm.2.2.1 hp hn hq h0 Lh hLh hl hqs hql hold hb).mono ?_)).mono ?_
  · rintro e w' ⟨k, u, e1, e2, s', p', q', ⟨a, c, e3⟩, e4, -, e5⟩
    exact ⟨k, u, e1, e2, a, c, s', p', q', e3, e4, e5⟩
  · rintro e w' ⟨k, u, e1, rfl, a, c, s', p', q', rfl, e3⟩
    exact ⟨a, c, s', p', q', e1, e3⟩
set_option maxRecDepth 100000 in
set_option maxHeartbeats 1000000 in
theorem locksFirst (x y : Int) (r : Rs) (w : World) (ht : Tb w) (hrl : R64 r.lv) (hri : R64 r.id) : Calls Tryd.prog 3 #[I x, I y, r.v] w fun e w' => e = .returned (.bool true) ∧ G w w' := by
  have gA : G w (w.alloc (.cells #[I r.lv, .string r.lb, I r.id] 23)) := (G.refl w).alloc _
  have hbx := (Blk.new w [I r.lv, .string r.lb, I r.id] 23).cell
  have KG := hide (good_any r (w.alloc (.cells #[I r.lv, .string r.lb, I r.id] 23)))
  have HGA := hide gA; have HTB := hide ht; have HRL := hide hrl; have HRI := hide hri; have HBX := hide (Blk.new w [I r.lv, .string r.lb, I r.id] 23)
  clear gA ht hrl hri
  simp only [Rs.v] at KG ⊢
  go_enter Tryd.func3, Tryd.ntmps3
  go_wp2_with fail
  refine KG.out.mono ?_
  rintro e w1 ⟨rfl | ⟨rfl, hres⟩, hg1⟩
  · go_wp2
    go_ret
    exact ⟨rfl, HGA.out.trans hg1⟩
  · have hr : r.ok := ⟨HRL.out, by
      have hmx : (1099511627776 : Nat) ≤ maxLen := of_decide_eq_true (by kernel_rfl)
      rcases hres with ⟨-, e, -⟩ | ⟨-, ⟨-, e, -⟩, -⟩ | ⟨-, e, -⟩
      · rw [e]; exact Nat.zero_le _
      · omega
      · rw [e]; exact Nat.zero_le _, HRI.out⟩
    have HRO := hide hr
    clear hr
    have HRES := hide hres
    have HG1 := hide hg1
    clear hres hg1
    go_wp2_with fail
    obtain ⟨a, hae, a1, a5⟩ : ∃ a, wrap64 (1 + (wrap64 (x.tmod 5 + 5)).tmod 5) = a ∧ 1 ≤ a ∧ a ≤ 5 := ⟨_, rfl, fold5 x⟩
    obtain ⟨b, hbe, b1, b5⟩ : ∃ b, wrap64 (1 + (wrap64 (y.tmod 5 + 5)).tmod 5) = b ∧ 1 ≤ b ∧ b ≤ 5 := ⟨_, rfl, fold5 y⟩
    rw [hae, hbe]
    have HAB : Hid (1 ≤ a ∧ a ≤ 5 ∧ 1 ≤ b ∧ b ≤ 5) := ⟨a1, a5, b1, b5⟩
    clear hae hbe a1 a5 b1 b5
    refine (new_any w1).mono ?_
    rintro e w2 ⟨t, s0, rfl, hT0, hlv0, hpl0, hg2, ht2, hown0⟩
    have h0 : St w w.heap.size [I r.lv, .string r.lb, I r.id] w2 t s0 := by
      have g1 := HGA.out.trans HG1.out
      have hn : ∀ b, b < w1.heap.size → s0.own b = none := fun b hb => by
        cases e : s0.own b with
        | none => rfl
        | some tg => have := hown0 b tg e; omega
      exact ⟨hT0, (HTB.out.G g1).G hg2, ⟨hn _ (HTB.out.G g1).lf, hn _ (HTB.out.G g1).lj⟩, (HBX.out.G HG1.out).G hg2, hn _ (HBX.out.G HG1.out).lt, g1.trans hg2, fun b tg o => Nat.le_trans g1.size (hown0 b tg o)⟩
    have KB1 := hide (beg t s0 w2 1 h0 (by omega) (by omega) (fun y p hy => by rw [hlv0 y] at hy; cases hy) hpl0)
    have HLV0 := hide hlv0
    clear h0 hT0 hlv0 hpl0 hg2 ht2 hown0 hbx
    go_wp2_with fail
    refine KB1.out.mono ?_
    rintro e w3 ⟨s1, p1, rfl, h1, n1, l1, pl1⟩
    have KB2 := hide (beg t s1 w3 2 h1 (by omega) (by omega) (fun y p hy => by
      rw [l1] at hy
      by_cases e : y = 1
      · rw [e, upd_same] at hy
        cases hy
        rw [e]
        exact ⟨by omega, by omega, n1⟩
      · rw [upd_other e, HLV0.out y] at hy
        cases hy) pl1)
    have HN1 := hide n1; have HL1 := hide l1
    clear h1 n1 l1 pl1 KB1
    go_wp2_with fail
    refine KB2.out.mono ?_
    rintro e w4 ⟨s2, p2, rfl, h2, n2, l2, pl2⟩
    have KB3 := hide (beg t s2 w4 3 h2 (by omega) (by omega) (fun y p hy => by
      rw [l2] at hy
      by_cases e : y = 2
      · rw [e, upd_same] at hy
        cases hy
        rw [e]
        exact ⟨by omega, by omega, n2⟩
      · rw [upd_other e, HL1.out] at hy
        by_cases e2 : y = 1
        · rw [e2, upd_same] at hy
          cases hy
          rw [e2]
          exact ⟨by omega, by omega, HN1.out⟩
        · rw [upd_other e2, HLV0.out y] at hy
          cases hy) pl2)
    have HN2 := hide n2; have HL2 := hide l2
    clear h2 n2 l2 pl2 KB2
    go_wp2_with fail
    refine KB3.out.mono ?_
    rintro e w5 ⟨s3, p3, rfl, h3, n3, l3, pl3⟩
    have hv1 : s3.lv 1 = some p1 := by rw [l3, upd_other (by omega), HL2.out, upd_other (by omega), HL1.out, upd_same]
    have hv2 : s3.lv 2 = some p2 := by rw [l3, upd_other (by omega), HL2.out, upd_same]
    have hv3 : s3.lv 3 = some p3 := by rw [l3, upd_same]
    have KA1 := hide (Ask1 t s3 r w5 p1 h3 HRO.out HRES.out hv1 HN1.out pl3)
    simp only [Rs.v] at KA1
    have c5 := h3.bx.cell
    have HV2 := hide hv2; have HV3 := hide hv3; have HN3 := hide n3
    clear h3 n3 l3 pl3 KB3 hv1 hv2 hv3
    go_wp2_with fail
    refine KA1.out.mono ?_
    rintro e w6 ⟨u6, s4, p1', q4, rfl, h4, l4, hh4, hq4, hf4, hs4⟩
    have hv1 : s4.lv 1 = some p1' := by rw [l4, upd_same]
    have hv2 : s4.lv 2 = some p2 := by rw [l4, upd_other (by omega)]; exact HV2.out
    have hv3 : s4.lv 3 = some p3 := by rw [l4, upd_other (by omega)]; exact HV3.out
    have hin1 : ∀ z, q4.hf z ≠ 0 → z = 1 := fun z hz => by
      rw [hf4 z] at hz
      split at hz
      · assumption
      · exact absurd rfl hz
    have h51 : q4.hf 1 = 5 := by rw [hf4]; rfl
    have hma := mode_facts HAB.out.1 HAB.out.2.1
    have hmb := mode_facts HAB.out.2.2.1 HAB.out.2.2.2
    have KA2 := hide (AskW t s4 r w6 2 a p2 q4 h4 HRO.out HRES.out (r64_small (by omega) (by omega)) HAB.out.1 HAB.out.2.1 hv2 HN2.out hq4 (by rw [hf4]; rfl) [1] (fun z hz => by rw [hin1 z hz]; exact ⟨by simp, r64_small (by omega) (by omega)⟩) (by simp) (by rw [hs4]; simp) (by rw [hs4]; simp) (fun y hy => by
      rcases hy with hy | ⟨i, g, hi, -⟩
      · rw [hin1 y hy.1]
        exact ⟨by omega, r64_small (by omega) (by omega), p1', hv1, by rw [hh4.1]; omega, hh4.2.2.2.2⟩
      · rw [hs4] at hi; simp at hi) ⟨1, .inl ⟨by rw [h51]; omega, by omega, by rw [h51]; exact hma.2.2.2⟩⟩)
    simp only [Rs.v] at KA2
    have c6 := h4.bx.cell
    have HV1 := hide hv1; have HV34 := hide hv3; have HH4 := hide hh4; have HF4 := hide hf4; have HS4 := hide hs4; have HIN1 := hide hin1; have H51 := hide h51; have HMA := hide hma; have HMB := hide hmb
    clear h4 l4 hh4 hq4 hf4 hs4 hv1 hv2 hv3 hin1 h51 hma hmb KA1 c5
    go_wp2_with fail
    refine KA2.out.mono ?_
    rintro e w7 ⟨ua, uc, s5, p2', q5, rfl, h5, l5, hh5, hq5, hf5, hs5⟩
    rw [HS4.out, List.nil_append] at hs5
    have hv1 : s5.lv 1 = some p1' := by rw [l5, upd_other (by omega)]; exact HV1.out
    have hv2 : s5.lv 2 = some p2' := by rw [l5, upd_same]
    have hv3 : s5.lv 3 = some p3 := by rw [l5, upd_other (by omega)]; exact HV34.out
    have KA3 := hide (AskW t s5 r w7 3 b p3 q5 h5 HRO.out HRES.out (r64_small (by omega) (by omega)) HAB.out.2.2.1 HAB.out.2.2.2 hv3 HN3.out hq5 (by rw [hf5, HF4.out]; rfl) [1] (fun z hz => by rw [hf5] at hz; rw [HIN1.out z hz]; exact ⟨by simp, r64_small (by omega) (by omega)⟩) (by simp) (by rw [hs5]; simp; exact r64_small (by omega) (by omega)) (by rw [hs5]; simp) (fun y hy => by
      rcases hy with hy | ⟨i, g, hi, hg, -⟩
      · have := hy.1
        rw [hf5] at this
        rw [HIN1.out y this]
        exact ⟨by omega, r64_small (by omega) (by omega), p1', hv1, by rw [HH4.out.1]; omega, HH4.out.2.2.2.2⟩
      · rw [hs5] at hi hg
        have e : i = 0 := by simp at hi; exact hi
        rw [e] at hg
        simp at hg
        rw [← hg.1]
        exact ⟨by omega, r64_small (by omega) (by omega), p2', hv2, by rw [hh5.1]; omega, hh5.2.2.2.2⟩) ⟨1, .inl ⟨by rw [hf5, H51.out]; omega, by omega, by rw [hf5, H51.out]; exact HMB.out.2.2.2⟩⟩)
    simp only [Rs.v] at KA3
    have c7 := h5.bx.cell
    have HV15 := hide hv1; have HV25 := hide hv2; have HH5 := hide hh5; have HF5 := hide hf5; have HS5 := hide hs5
    clear h5 l5 hh5 hq5 hf5 hs5 hv1 hv2 hv3 KA2 c6
    go_wp2_with fail
    refine KA3.out.mono ?_
    rintro e w8 ⟨va, vc, s6, p3', q6, rfl, h6, l6, hh6, hq6, hf6, hs6⟩
    rw [HS5.out] at hs6
    have KE1 := hide (end1 t s6 r w8 a b p1' p2' p3' q6 h6 HRO.out HMA.out.2.2.1 HMB.out.2.2.1 (by rw [l6, upd_other (by omega)]; exact HV15.out) (by rw [l6, upd_other (by omega)]; exact HV25.out) (by rw [l6, upd_same]) HH4.out HH5.out hh6 hq6 (fun z => by rw [hf6, HF5.out]; exact HF4.out z) hs6)
    have HH6 := hide hh6
    clear h6 l6 hh6 hq6 hf6 hs6 KA3 c7
    go_wp2_with fail
    refine KE1.out.mono ?_
    rintro e w9 ⟨ug, out, s7, rfl, hrow, hout, h7, hcase⟩
    have KF := hide (fits_any a b w9 h7.tb)
    have HROW := hide hrow; have HOUT := hide hout; have H7 := hide h7; have HCASE := hide hcase
    clear hrow hout h7 hcase KE1
    go_wp2_with fail
    refine KF.out.mono ?_
    rintro e w10 ⟨rfl, hw⟩
    subst hw
    clear KF
    have hmx : (1 : Nat) < 1099511627776 := by omega
    cases hfit : fitB a b with
    | true =>
      rw [hfit] at HOUT
      have ho : out = [2, 3] := HOUT.out
      have KI := hide (ints_eq [2, 3] ug (.slice (some ⟨w10.heap.size, 0, none⟩) 2 2) (w10.alloc (.cells #[I 2, I 3] 3)) (by simp) (by rw [← ho]; exact HROW.out.G ((G.refl _).alloc _)) (RowI.of_blk 2 2 rfl (Blk.new w10 [I 2, I 3] 3)))
      clear ho hfit hmx
      go_wp2_with fail
      refine KI.out.mono ?_
      rintro e w11 ⟨rfl, hg11⟩
      have HG11 := hide (H7.out.gw.trans (((G.refl _).alloc _).trans hg11))
      clear hg11
      go_wp2
      go_ret
      exact ⟨rfl, HG11.out⟩
    | false =>
      rw [hfit] at HOUT
      have ho : out = [2] := HOUT.out
      have KI := hide (ints_eq [2] ug (.slice (some ⟨w10.heap.size, 0, none⟩) 1 1) (w10.alloc (.cells #[I 2] 3)) (by simp) (by rw [← ho]; exact HROW.out.G ((G.refl _).alloc _)) (RowI.of_blk 1 1 rfl (Blk.new w10 [I 2] 3)))
      have HFIT := hide hfit
      clear ho hfit hmx
      go_wp2_with fail
      refine KI.out.mono ?_
      rintro e w11 ⟨rfl, hg11⟩
      obtain ⟨p2'', q7, k1, k2, k3, k4, k5, k6⟩ := HCASE.out HFIT.out
      have KE2 := hide (end2 t s7 r w11 a b p2'' p3' q7 (H7.out.G (((G.refl _).alloc _).trans hg11)) HRO.out HMA.out.2.2.1 HMB.out.2.2.1 k1 k3 k2 HH6.out k4 k5 k6)
      clear k1 k2 k3 k4 k5 k6 hg11 KI
      go_wp2_with fail
      refine KE2.out.mono ?_
      rintro e w12 ⟨u2, s8, p3'', rfl, hrow2, h8, hv3, hh3⟩
      have KM := hide (mode_any t s8 3 r w12 p3'' h8.tt (r64_small (by omega) (by omega)) HRO.out hv3)
      rw [(resB_iff r).2 HRES.out] at KM
      simp only [if_true, hh3.2.1, Rs.v] at KM
      have c12 := h8.bx.cell
      have HROW2 := hide hrow2; have HG12 := hide h8.gw
      clear hrow2 h8 hv3 hh3 KE2
      go_wp2_with fail
      refine KM.out.mono ?_
      rintro e w13 ⟨rfl, hg13⟩
      have KI3 := hide (ints_eq [3] u2 (.slice (some ⟨w13.heap.size, 0, none⟩) 1 1) (w13.alloc (.cells #[I 3] 3)) (by simp) (HROW2.out.G (hg13.alloc _)) (RowI.of_blk 1 1 rfl (Blk.new w13 [I 3] 3)))
      have HG13 := hide hg13
      clear hg13 c12 KM
      go_wp2_with fail
      refine KI3.out.mono ?_
      rintro e w14 ⟨rfl, hg14⟩
      have HG14 := hide (HG12.out.trans (HG13.out.trans (((G.refl _).alloc _).trans hg14)))
      clear hg14
      go_wp2
      go_ret
      exact ⟨rfl, HG14.out⟩
end Go.Proofs.YtfeiocahlhklaaaDoor
