/- Gate: the script on both: walk; the laws that play it. -/
import Derived.Test.YtmclbnhbioficabGr6
import Derived.Test.YtmclbnhbioficabGsc
namespace Go.Proofs.Ytmclbnhbioficab
open Go.RowKit

set_option maxRecDepth 100000 in
set_option maxHeartbeats 1000000 in
theorem walk_any (mo un lo hi : Int) (v : Value) (L : Nat) (X : Nat → Int × Int × Bool) (W : World) (hS : Scr W v L X) (hL : L ≤ 9000000000000) :
    Calls Try.prog 9 #[I mo, I un, v, I lo, I hi] W fun e W' => e = .returned (.bool true) ∧ G W W' := by
  by_cases hf : 1 ≤ mo ∧ mo ≤ 16 ∧ 1 ≤ un ∧ un ≤ 64
  · obtain ⟨a, cap, rfl, hS⟩ := hS
    have KN := hide (new_ok mo un W hf.1 hf.2.1 hf.2.2.1 hf.2.2.2)
    have HF := hide hf
    have HS := hide hS
    have HL := hide hL
    clear hf hS hL
    go_enter Try.func9, Try.ntmps9
    go_wp2_with (first | (go_at_call 10; refine Hid.out ?_) | fail)
    unfold Hid
    refine KN.out.mono ?_
    rintro e w1 ⟨b, K, rfl, hp, hg1, hk1⟩
    have KR := hide (rnew_ok mo un w1 HF.out.1 HF.out.2.1 HF.out.2.2.1 HF.out.2.2.2)
    have HP := hide hp
    have HG1 := hide hg1
    have HK1 := hide hk1
    clear hp hg1 hk1 KN
    go_wp2_with (first | (go_at_call 11; refine Hid.out ?_) | fail)
    unfold Hid
    refine KR.out.mono ?_
    rintro e w2 ⟨r, K2, rfl, hq, hg2, hk2⟩
    have HPR : Hid (PR w2 b r (new0 mo un) K K2 ∧ G W w2 ∧ ∀ k, Un K K2 k → W.heap.size ≤ k) := ⟨⟨HP.out.G hg2, hq, fun k e q => Nat.not_le.2 (HP.out.lt k e) (hk2 k q)⟩, HG1.out.trans hg2, fun k e => e.elim (HK1.out k) (fun q => Nat.le_trans HG1.out.size (hk2 k q))⟩
    clear hq hg2 hk2 KR HP HG1 HK1
    go_wp2_with fail
    go_loopw [15] (fun iv wr => ∃ (i : Nat) (m : GM) (K K2 : Nat → Prop), iv = I i ∧ i ≤ L ∧ PR wr b r m K K2 ∧ G W wr ∧ (∀ k, Un K K2 k → W.heap.size ≤ k) ∧ Iv m ∧ m.sp ≤ i ∧ m.ck ≤ i) (fun iv _ => L - (RowKit.intOf iv).toNat)
    case atStart => exact ⟨0, _, K, K2, rfl, Nat.zero_le _, HPR.out.1, HPR.out.2.1, HPR.out.2.2, iv_new HF.out.1 HF.out.2.1 HF.out.2.2.1 HF.out.2.2.2, by simp [new0], by simp [new0]⟩
    case round =>
      obtain ⟨i, m, K1, K3, rfl, hik, hpr, hg, hK, hiv, hsp, hck⟩ := hrel
      by_cases hil : i < L
      · rcases HS.out with h0 | ⟨sb, off, rfl, hops⟩
        · omega
        obtain ⟨x1, x2, x3⟩ := hops.G hg i hil
        generalize X i = xx at x1 x2 x3
        obtain ⟨xk, xi, xy⟩ := xx
        dsimp only at x1 x2 x3
        have i1 : (i : Int) < L := Int.ofNat_lt.2 hil
        have HW : Hid (wrap64 ((i : Int) + 1) = (i : Int) + 1) := by show _ = _; have := HL.out; unfold wrap64; omega
        have KP := hide (plays_any b r m K1 K3 xk xi xy wr hpr hiv (by have := HL.out; omega) (by have := HL.out; omega))
        have HR : Hid (Iv (m.stepM xk xi xy) ∧ (m.stepM xk xi xy).sp ≤ ((i + 1 : Nat) : Int) ∧ (m.stepM xk xi xy).ck ≤ ((i + 1 : Nat) : Int)) := by
          have := step_le m xk xi xy
          exact ⟨iv_step hiv _ _ _, by omega, by omega⟩
        have HG := hide hg
        have HKK := hide hK
        have HIL := hide hil
        clear hik hil hpr hg hK hiv hsp hck hops
        go_wp2_with (first | (go_at_call 12; refine Hid.out ?_) | fail)
        unfold Hid
        refine KP.out.mono ?_
        rintro e w3 ⟨rfl, K', K2', hpr, hst⟩
        obtain ⟨hg3, hk3⟩ := hst.toG HG.out HKK.out
        have H3 := hide (And.intro hpr (And.intro hg3 hk3))
        clear hpr hst hg3 hk3 KP
        go_wp2_with fail
        rw [HW.out]
        go_roundw
        case rel => exact ⟨i + 1, _, K', K2', rfl, HIL.out, H3.out.1, H3.out.2.1, H3.out.2.2, HR.out.1, HR.out.2.1, HR.out.2.2⟩
        case measure => simp only [RowKit.intOf]; have := HIL.out; omega
      · have i1 : ¬ ((i : Int) < L) := by omega
        have HG := hide hg
        clear hik hil hpr hg hK hiv hsp hck
        go_wp2_with fail
        go_ret
        exact ⟨rfl, HG.out⟩
  · have KN := hide (new_no mo un W hf)
    have KR := hide (rnew_no mo un W hf)
    clear hf hS hL
    go_enter Try.func9, Try.ntmps9
    go_wp2_with (first | (go_at_call 10; with_reducible refine KN.out.mono ?_; rintro e w9 ⟨rfl, e9⟩; rw [e9]; clear e9 w9) | (go_at_call 11; with_reducible refine KR.out.mono ?_; rintro e w9 ⟨rfl, e9⟩; rw [e9]; clear e9 w9) | fail)
    go_ret
    exact ⟨rfl, G.refl _⟩
set_option maxRecDepth 100000 in
set_option maxHeartbeats 1000000 in
theorem gateSubmits_law (mo un : Int) (v : Value) (L : Nat) (X : Nat → Int × Int × Bool) (W : World) (hS : Scr W v L X) (hL : L ≤ 9000000000000) :
    Calls Try.prog 3 #[I mo, I un, v] W fun e W' => e = .returned (.bool true) ∧ G W W' := by
  have KW := hide (walk_any mo un 1 1 v L X W hS hL)
  clear hS hL
  go_enter Try.func3, Try.ntmps3
  go_wp2_with (first | (go_at_call 9; refine Hid.out ?_) | fail)
  unfold Hid
  refine KW.out.mono ?_
  rintro e w1 ⟨rfl, hg⟩
  go_wp2_with fail
  go_ret
  exact ⟨rfl, hg⟩
set_option maxRecDepth 100000 in
set_option maxHeartbeats 1000000 in
theorem gateAdmits_law (mo un : Int) (v : Value) (L : Nat) (X : Nat → Int × Int × Bool) (W : World) (hS : Scr W v L X) (hL : L ≤ 9000000000000) :
    Calls Try.prog 4 #[I mo, I un, v] W fun e W' => e = .returned (.bool true) ∧ G W W' := by
  have KW := hide (walk_any mo un 2 2 v L X W hS hL)
  clear hS hL
  go_enter Try.func4, Try.ntmps4
  go_wp2_with (first | (go_at_call 9; refine Hid.out ?_) | fail)
  unfold Hid
  refine KW.out.mono ?_
  rintro e w1 ⟨rfl, hg⟩
  go_wp2_with fail
  go_ret
  exact ⟨rfl, hg⟩
set_option maxRecDepth 100000 in
set_option maxHeartbeats 1000000 in
theorem gateEnds_law (mo un : Int) (v : Value) (L : Nat) (X : Nat → Int × Int × Bool) (W : World) (hS : Scr W v L X) (hL : L ≤ 9000000000000) :
    Calls Try.prog 5 #[I mo, I un, v] W fun e W' => e = .returned (.bool true) ∧ G W W' := by
  have KW := hide (walk_any mo un 3 3 v L X W hS hL)
  clear hS hL
  go_enter Try.func5, Try.ntmps5
  go_wp2_with (first | (go_at_call 9; refine Hid.out ?_) | fail)
  unfold Hid
  refine KW.out.mono ?_
  rintro e w1 ⟨rfl, hg⟩
  go_wp2_with fail
  go_ret
  exact ⟨rfl, hg⟩
set_option maxRecDepth 100000 in
set_option maxHeartbeats 1000000 in
theorem gateTurns_law (mo un : Int) (v : Value) (L : Nat) (X : Nat → Int × Int × Bool) (W : World) (hS : Scr W v L X) (hL : L ≤ 9000000000000) :
    Calls Try.prog 6 #[I mo, I un, v] W fun e W' => e = .returned (.bool true) ∧ G W W' := by
  have KW := hide (walk_any mo un 5 6 v L X W hS hL)
  clear hS hL
  go_enter Try.func6, Try.ntmps6
  go_wp2_with (first | (go_at_call 9; refine Hid.out ?_) | fail)
  unfold Hid
  refine KW.out.mono ?_
  rintro e w1 ⟨rfl, hg⟩
  go_wp2_with fail
  go_ret
  exact ⟨rfl, hg⟩
set_option maxRecDepth 100000 in
set_option maxHeartbeats 1000000 in
theorem gateAll_law (mo un : Int) (v : Value) (L : Nat) (X : Nat → Int × Int × Bool) (W : World) (hS : Scr W v L X) (hL : L ≤ 9000000000000) :
    Calls Try.prog 8 #[I mo, I un, v] W fun e W' => e = .returned (.bool true) ∧ G W W' := by
  have KW := hide (walk_any mo un 1 7 v L X W hS hL)
  clear hS hL
  go_enter Try.func8, Try.ntmps8
  go_wp2_with (first | (go_at_call 9; refine Hid.out ?_) | fail)
  unfold Hid
  refine KW.out.mono ?_
  rintro e w1 ⟨rfl, hg⟩
  go_wp2_with fail
  go_ret
  exact ⟨rfl, hg⟩
end Go.Proofs.Ytmclbnhbioficab
