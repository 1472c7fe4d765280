/- Gate: sink. -/
import Derived.Test.YtmclbnhbioficacGt2
import Derived.Deep.CutRange
namespace Go.Proofs.Ytmclbnhbioficac
open Go.RowKit

set_option maxRecDepth 100000 in
set_option maxHeartbeats 2000000 in
theorem sink_any (b g cap : Nat) (x : Gx) (l : List It) (i : Nat) (W : World) (hp : HP W b x (.slice (some ⟨g, 0, none⟩) l.length cap) l) (hi : i ≤ l.length) (hm : l.length ≤ 1000) :
    Calls Try.prog 56 #[tpt b, I i] W fun e W' => e = .returned (.tuple #[]) ∧ ∃ l', HP W' b x (.slice (some ⟨g, 0, none⟩) l.length cap) l' ∧ l'.Perm l ∧ (Hp.SI gr l i → Hp.HI gr l') ∧ Chg (hpB b (.slice (some ⟨g, 0, none⟩) l.length cap)) W W' := by
  have HPP := hide hp
  clear hp
  go_enter Try.func56, Try.ntmps56
  go_wp2_with fail
  go_loopw [1] (fun iv wr => ∃ (k : Nat) (l1 : List It), iv = I k ∧ k ≤ l1.length ∧ l1.length = l.length ∧ HP wr b x (.slice (some ⟨g, 0, none⟩) l.length cap) l1 ∧ l1.Perm l ∧ (Hp.SI gr l i → Hp.SI gr l1 k) ∧ Chg (hpB b (.slice (some ⟨g, 0, none⟩) l.length cap)) W wr) (fun iv _ => (l.length - (RowKit.intOf iv).toNat))
  case atStart => exact ⟨i, l, rfl, hi, rfl, HPP.out, List.Perm.refl _, fun q => q, Chg.refl _ _⟩
  case round =>
    rename_i wr
    obtain ⟨k, l1, rfl, hk, hll, hp1, hperm, hri, hch⟩ := hrel
    obtain ⟨m, hmd⟩ : ∃ m, m = 2 * k + 1 := ⟨_, rfl⟩
    have hmI : 2 * (k : Int) + 1 = (m : Int) := by omega
    have hw1 : wrap64 (2 * (k : Int)) = 2 * (k : Int) := by unfold wrap64; omega
    have hw2 : wrap64 (m : Int) = (m : Int) := by unfold wrap64; omega
    have hc := hp1.cells
    by_cases c1 : m < l.length
    · have c1a : (m : Int) < (l.length : Int) := by omega
      have c1b : ¬ ((l.length : Int) ≤ (m : Int)) := by omega
      have hkl : k < l1.length := by omega
      have hw3 : wrap64 ((m : Int) + 1) = (m : Int) + 1 := by unfold wrap64; omega
      by_cases c2 : m + 1 < l.length
      · have c2a : (m : Int) + 1 < (l.length : Int) := by omega
        have KA := ah_any b x _ l1 (m + 1) m wr hp1 (by omega) (by omega)
        rw [show ((m + 1 : Nat) : Int) = (m : Int) + 1 by omega] at KA
        obtain ⟨b1, hb1⟩ : ∃ b, gr l1[m + 1]! l1[m]! = b := ⟨_, rfl⟩
        rw [hb1] at KA
        have HKA := hide KA
        clear KA
        cases b1 with
        | true =>
          have hbest : ∀ j, 0 < j → j < l1.length → (j - 1) / 2 = k → gr l1[j]! l1[m + 1]! = false := fun j j0 jl je => by
            have : j = m ∨ j = m + 1 := by omega
            rcases this with rfl | rfl
            · exact gr_wo.asy _ _ hb1
            · cases hx : gr l1[m + 1]! l1[m + 1]!
              · rfl
              · have := gr_wo.asy _ _ hx; rw [hx] at this; exact this
          obtain ⟨d, hd⟩ : ∃ d, d = m + 1 := ⟨_, rfl⟩
          have hdI : (m : Int) + 1 = (d : Int) := by omega
          have hdl : d < l1.length := by omega
          have hd0 : 0 < d := by omega
          have hdk : (d - 1) / 2 = k := by omega
          have hkd : k < d := by omega
          rw [← hd] at hbest
          have HDI := hide hdI
          clear hd hb1 hdI hmd
          go_wp2_with fail
          with_reducible refine HKA.out.mono ?_
          rintro e w1 ⟨rfl, hg1⟩
          go_wp2_with fail
          rw [HDI.out]
          have hp2 := hp1.G hg1
          have hch2 : Chg (hpB b (.slice (some ⟨g, 0, none⟩) l.length cap)) W w1 := hch.trans hg1.chg
          have KB := ah_any b x _ l1 d k w1 hp2 hdl hkl
          obtain ⟨b2, hb2⟩ : ∃ b, gr l1[d]! l1[k]! = b := ⟨_, rfl⟩
          rw [hb2] at KB
          refine KB.mono ?_
          rintro e w' ⟨rfl, hg2⟩
          have hp3 := hp2.G hg2
          have hch3 : Chg (hpB b (.slice (some ⟨g, 0, none⟩) l.length cap)) W w' := hch2.trans hg2.chg
          clear KB hp2 hp1 hch hch2 hg1 hg2
          cases b2 with
          | false =>
            go_wp2_with fail
            refine bodyPost_ret (v := .tuple #[]) (by simp [results, Try.results56, go_sem]) rfl ⟨rfl, l1, hp3, hperm, fun q => (hri q).stop (fun j j0 jl je => ?_), hch3⟩
            exact gr_wo.nt _ _ _ (hbest j j0 jl je) hb2
          | true =>
            have hstep : Hp.SI gr l i → Hp.SI gr (Hp.sw l1 k d) d := fun r => (hri r).step gr_wo hd0 hdl hdk hbest hb2
            have hc3 := hp3.cells
            obtain ⟨xk, xt, xu, yk, yt, yu, ⟨x1, x2, x3⟩, ⟨y1, y2, y3⟩, hfz, hne, ⟨s0, s1, s2⟩, hnew, hcg⟩ := exch k d hp3 hkl hdl (Nat.ne_of_gt hkd)
            have HREL : Hid (∃ (k2 : Nat) (l2 : List It), I d = I k2 ∧ k2 ≤ l2.length ∧ l2.length = l.length ∧ HP (setIt (setIt w' g k ((yk, yt), yu)) g d ((xk, xt), xu)).drew b x (.slice (some ⟨g, 0, none⟩) l.length cap) l2 ∧ l2.Perm l ∧ (Hp.SI gr l i → Hp.SI gr l2 k2) ∧ Chg (hpB b (.slice (some ⟨g, 0, none⟩) l.length cap)) W (setIt (setIt w' g k ((yk, yt), yu)) g d ((xk, xt), xu)).drew) :=
              ⟨d, Hp.sw l1 k d, rfl, by rw [Hp.sw_len]; exact Nat.le_of_lt hdl, by rw [Hp.sw_len]; exact hll, hnew, (Hp.sw_perm l1 k d hkl hdl).trans hperm, hstep, hch3.trans (hcg.mono (fun k e => .inr (by rw [e]; rfl)))⟩
            have HMS : Hid (k < d ∧ k < l.length) := ⟨hkd, by rw [← hll]; exact hkl⟩
            have i1 : (k : Int) < l.length := by rw [← hll]; exact_mod_cast hkl
            have i2 : (d : Int) < l.length := by rw [← hll]; exact_mod_cast hdl
            simp only [setIt] at s0 s1 s2
            clear hp3 hnew hch3 hri hperm HPP hb2 hm hi hcg hll hstep hk hw1 hw2 hw3 hbest hmI hd0 hdk hkd hdl hkl c1 c1a c1b hc c2 c2a HKA HDI
            go_wp2_with fail
            go_region
            go_wp2_with fail
            go_roundw
            case rel => exact HREL.out
            case measure => simp only [RowKit.intOf]; have := HMS.out; omega
        | false =>
          have hbest : ∀ j, 0 < j → j < l1.length → (j - 1) / 2 = k → gr l1[j]! l1[m]! = false := fun j j0 jl je => by
            have : j = m ∨ j = m + 1 := by omega
            rcases this with rfl | rfl
            · cases hx : gr l1[j]! l1[j]!
              · rfl
              · have := gr_wo.asy _ _ hx; rw [hx] at this; exact this
            · exact hb1
          obtain ⟨d, hd⟩ : ∃ d, d = m := ⟨_, rfl⟩
          have hdI : (m : Int) = (d : Int) := by omega
          have hdl : d < l1.length := by omega
          have hd0 : 0 < d := by omega
          have hdk : (d - 1) / 2 = k := by omega
          have hkd : k < d := by omega
          rw [← hd] at hbest
          have HDI := hide hdI
          clear hd hb1 hdI hmd
          go_wp2_with fail
          with_reducible refine HKA.out.mono ?_
          rintro e w1 ⟨rfl, hg1⟩
          go_wp2_with fail
          rw [HDI.out]
          have hp2 := hp1.G hg1
          have hch2 : Chg (hpB b (.slice (some ⟨g, 0, none⟩) l.length cap)) W w1 := hch.trans hg1.chg
          have KB := ah_any b x _ l1 d k w1 hp2 hdl hkl
          obtain ⟨b2, hb2⟩ : ∃ b, gr l1[d]! l1[k]! = b := ⟨_, rfl⟩
          rw [hb2] at KB
          refine KB.mono ?_
          rintro e w' ⟨rfl, hg2⟩
          have hp3 := hp2.G hg2
          have hch3 : Chg (hpB b (.slice (some ⟨g, 0, none⟩) l.length cap)) W w' := hch2.trans hg2.chg
          clear KB hp2 hp1 hch hch2 hg1 hg2
          cases b2 with
          | false =>
            go_wp2_with fail
            refine bodyPost_ret (v := .tuple #[]) (by simp [results, Try.results56, go_sem]) rfl ⟨rfl, l1, hp3, hperm, fun q => (hri q).stop (fun j j0 jl je => ?_), hch3⟩
            exact gr_wo.nt _ _ _ (hbest j j0 jl je) hb2
          | true =>
            have hstep : Hp.SI gr l i → Hp.SI gr (Hp.sw l1 k d) d := fun r => (hri r).step gr_wo hd0 hdl hdk hbest hb2
            have hc3 := hp3.cells
            obtain ⟨xk, xt, xu, yk, yt, yu, ⟨x1, x2, x3⟩, ⟨y1, y2, y3⟩, hfz, hne, ⟨s0, s1, s2⟩, hnew, hcg⟩ := exch k d hp3 hkl hdl (Nat.ne_of_gt hkd)
            have HREL : Hid (∃ (k2 : Nat) (l2 : List It), I d = I k2 ∧ k2 ≤ l2.length ∧ l2.length = l.length ∧ HP (setIt (setIt w' g k ((yk, yt), yu)) g d ((xk, xt), xu)).drew b x (.slice (some ⟨g, 0, none⟩) l.length cap) l2 ∧ l2.Perm l ∧ (Hp.SI gr l i → Hp.SI gr l2 k2) ∧ Chg (hpB b (.slice (some ⟨g, 0, none⟩) l.length cap)) W (setIt (setIt w' g k ((yk, yt), yu)) g d ((xk, xt), xu)).drew) :=
              ⟨d, Hp.sw l1 k d, rfl, by rw [Hp.sw_len]; exact Nat.le_of_lt hdl, by rw [Hp.sw_len]; exact hll, hnew, (Hp.sw_perm l1 k d hkl hdl).trans hperm, hstep, hch3.trans (hcg.mono (fun k e => .inr (by rw [e]; rfl)))⟩
            have HMS : Hid (k < d ∧ k < l.length) := ⟨hkd, by rw [← hll]; exact hkl⟩
            have i1 : (k : Int) < l.length := by rw [← hll]; exact_mod_cast hkl
            have i2 : (d : Int) < l.length := by rw [← hll]; exact_mod_cast hdl
            simp only [setIt] at s0 s1 s2
            clear hp3 hnew hch3 hri hperm HPP hb2 hm hi hcg hll hstep hk hw1 hw2 hw3 hbest hmI hd0 hdk hkd hdl hkl c1 c1a c1b hc c2 c2a HKA HDI
            go_wp2_with fail
            go_region
            go_wp2_with fail
            go_roundw
            case rel => exact HREL.out
            case measure => simp only [RowKit.intOf]; have := HMS.out; omega
      · have c2a : ¬ ((m : Int) + 1 < (l.length : Int)) := by omega
        have c2b : decide ((m : Int) + 1 < (l.length : Int)) = false := decide_eq_false c2a
        have hbest : ∀ j, 0 < j → j < l1.length → (j - 1) / 2 = k → gr l1[j]! l1[m]! = false := fun j j0 jl je => by
          have : j = m := by omega
          rw [this]
          cases hx : gr l1[m]! l1[m]!
          · rfl
          · have := gr_wo.asy _ _ hx; rw [hx] at this; exact this
        obtain ⟨d, hd⟩ : ∃ d, d = m := ⟨_, rfl⟩
        have hdI : (m : Int) = (d : Int) := by omega
        have hdl : d < l1.length := by omega
        have hd0 : 0 < d := by omega
        have hdk : (d - 1) / 2 = k := by omega
        have hkd : k < d := by omega
        rw [← hd] at hbest
        have HDI := hide hdI
        clear hd hdI hmd
        obtain ⟨w1, hw1e⟩ : ∃ w1, wr = w1 := ⟨_, rfl⟩
        have hg1 : G wr w1 := by rw [hw1e]; exact G.refl _
        have HWE := hide hw1e
        clear hw1e
        go_wp2_with fail
        rw [HDI.out, HWE.out]
        clear HWE
        have hp2 := hp1.G hg1
        have hch2 : Chg (hpB b (.slice (some ⟨g, 0, none⟩) l.length cap)) W w1 := hch.trans hg1.chg
        have KB := ah_any b x _ l1 d k w1 hp2 hdl hkl
        obtain ⟨b2, hb2⟩ : ∃ b, gr l1[d]! l1[k]! = b := ⟨_, rfl⟩
        rw [hb2] at KB
        refine KB.mono ?_
        rintro e w' ⟨rfl, hg2⟩
        have hp3 := hp2.G hg2
        have hch3 : Chg (hpB b (.slice (some ⟨g, 0, none⟩) l.length cap)) W w' := hch2.trans hg2.chg
        clear KB hp2 hp1 hch hch2 hg1 hg2
        cases b2 with
        | false =>
          go_wp2_with fail
          refine bodyPost_ret (v := .tuple #[]) (by simp [results, Try.results56, go_sem]) rfl ⟨rfl, l1, hp3, hperm, fun q => (hri q).stop (fun j j0 jl je => ?_), hch3⟩
          exact gr_wo.nt _ _ _ (hbest j j0 jl je) hb2
        | true =>
          have hstep : Hp.SI gr l i → Hp.SI gr (Hp.sw l1 k d) d := fun r => (hri r).step gr_wo hd0 hdl hdk hbest hb2
          have hc3 := hp3.cells
          obtain ⟨xk, xt, xu, yk, yt, yu, ⟨x1, x2, x3⟩, ⟨y1, y2, y3⟩, hfz, hne, ⟨s0, s1, s2⟩, hnew, hcg⟩ := exch k d hp3 hkl hdl (Nat.ne_of_gt hkd)
          have HREL : Hid (∃ (k2 : Nat) (l2 : List It), I d = I k2 ∧ k2 ≤ l2.length ∧ l2.length = l.length ∧ HP (setIt (setIt w' g k ((yk, yt), yu)) g d ((xk, xt), xu)).drew b x (.slice (some ⟨g, 0, none⟩) l.length cap) l2 ∧ l2.Perm l ∧ (Hp.SI gr l i → Hp.SI gr l2 k2) ∧ Chg (hpB b (.slice (some ⟨g, 0, none⟩) l.length cap)) W (setIt (setIt w' g k ((yk, yt), yu)) g d ((xk, xt), xu)).drew) :=
            ⟨d, Hp.sw l1 k d, rfl, by rw [Hp.sw_len]; exact Nat.le_of_lt hdl, by rw [Hp.sw_len]; exact hll, hnew, (Hp.sw_perm l1 k d hkl hdl).trans hperm, hstep, hch3.trans (hcg.mono (fun k e => .inr (by rw [e]; rfl)))⟩
          have HMS : Hid (k < d ∧ k < l.length) := ⟨hkd, by rw [← hll]; exact hkl⟩
          have i1 : (k : Int) < l.length := by rw [← hll]; exact_mod_cast hkl
          have i2 : (d : Int) < l.length := by rw [← hll]; exact_mod_cast hdl
          simp only [setIt] at s0 s1 s2
          clear hp3 hnew hch3 hri hperm HPP hb2 hm hi hcg hll hstep hk hw1 hw2 hw3 hbest hmI hd0 hdk hkd hdl hkl c1 c1a c1b hc c2 c2a c2b HDI
          go_wp2_with fail
          go_region
          go_wp2_with fail
          go_roundw
          case rel => exact HREL.out
          case measure => simp only [RowKit.intOf]; have := HMS.out; omega
    · have c1a : (l.length : Int) ≤ (m : Int) := by omega
      have c1b : ¬ ((m : Int) < (l.length : Int)) := by omega
      have hrest : Hp.SI gr l i → Hp.HI gr l1 := fun q => (hri q).stop (fun j j0 jl je => by omega)
      clear c1 hmd hll hk hm hi
      go_wp2_with fail
      refine bodyPost_ret (v := .tuple #[]) (by simp [results, Try.results56, go_sem]) rfl ⟨rfl, l1, hp1, hperm, hrest, hch⟩
end Go.Proofs.Ytmclbnhbioficac
