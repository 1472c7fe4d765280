/- GateNames, GateMakes, GateNil. -/
import Derived.Test.YtmclbnhbioficaaGr5
import Derived.Test.YtmclbnhbioficaaGsc
namespace Go.Proofs.Ytmclbnhbioficaa
open Go.RowKit
set_option maxRecDepth 100000 in
set_option maxHeartbeats 1000000 in
theorem gateNames_law (W : World) : Calls Try.prog 3 #[] W fun e W' => e = .returned (.bool true) ∧ G W W' := by
  have KN := hide (new_ok 16 64 W (by omega) (by omega) (by omega) (by omega))
  go_enter Try.func3, Try.ntmps3
  go_wp2_with (first | (go_at_call 9; refine Hid.out ?_) | fail)
  unfold Hid
  refine KN.out.mono ?_
  rintro e w1 ⟨b, K, rfl, hp, hg1, hk1⟩
  clear hp hk1 KN
  go_wp2_with fail
  go_ret
  exact ⟨rfl, hg1⟩
set_option maxRecDepth 100000 in
set_option maxHeartbeats 1000000 in
theorem gateMakes_law (mo un : Int) (W : World) : Calls Try.prog 4 #[I mo, I un] W fun e W' => e = .returned (.bool true) ∧ G W W' := by
  by_cases hf : 1 ≤ mo ∧ mo ≤ 16 ∧ 1 ≤ un ∧ un ≤ 64
  · have KN := hide (new_ok mo un W hf.1 hf.2.1 hf.2.2.1 hf.2.2.2)
    have HF := hide hf
    clear hf
    go_enter Try.func4, Try.ntmps4
    go_wp2_with (first | (go_at_call 9; refine Hid.out ?_) | fail)
    unfold Hid
    refine KN.out.mono ?_
    rintro e w1 ⟨b, K, rfl, hp, hg1, hk1⟩
    have KR := hide (rnew_ok mo un w1 HF.out.1 HF.out.2.1 HF.out.2.2.1 HF.out.2.2.2)
    have HP := hide hp
    have HG1 := hide hg1
    have HK1 := hide hk1
    clear hp hg1 hk1 KN
    go_wp2_with (first | (go_at_call 10; refine Hid.out ?_) | fail)
    unfold Hid
    refine KR.out.mono ?_
    rintro e w2 ⟨r, K2, rfl, hq, hg2, hk2⟩
    have HIV := hide (iv_new HF.out.1 HF.out.2.1 HF.out.2.2.1 HF.out.2.2.2)
    have KS := hide (stat_any b (new0 mo un) K w2 (HP.out.G hg2) HIV.out)
    have HQ := hide hq
    have HG2 := hide (HG1.out.trans hg2)
    have HK2 := hide hk2
    have HL : Hid (∀ k, K k → k < w1.heap.size) := HP.out.lt
    clear hq hg2 hk2 KR
    go_wp2_with (first | (go_at_call 12; refine Hid.out ?_) | fail)
    unfold Hid
    refine KS.out.mono ?_
    rintro e w3 ⟨v4, v6, rfl, hv4, hv6, hf4, hf6, hap, K', hp3, hs3, hn3⟩
    have hq3 : RG w3 r (new0 mo un) K2 := HQ.out.off hs3.chg (fun k e q => Nat.not_le.2 (HL.out k q) (HK2.out k e))
    have KT := hide (stat_same r (new0 mo un) K2 v4 v6 w3 hq3 HIV.out hv4 hv6)
    have HG3 := hide (hs3.toG HG2.out HK1.out).1
    clear hq3 hv4 hv6 hf4 hf6 hap hp3 hs3 hn3 KS
    go_wp2_with (first | (go_at_call 11; refine Hid.out ?_) | fail)
    unfold Hid
    refine KT.out.mono ?_
    rintro e w4 ⟨rfl, hg4⟩
    go_wp2_with fail
    go_ret
    exact ⟨rfl, HG3.out.trans hg4⟩
  · have KN := hide (new_no mo un W hf)
    have KR := hide (rnew_no mo un W hf)
    clear hf
    go_enter Try.func4, Try.ntmps4
    go_wp2_with (first | (go_at_call 9; with_reducible refine KN.out.mono ?_; rintro e w9 ⟨rfl, e9⟩; rw [e9]; clear e9 w9) | (go_at_call 10; with_reducible refine KR.out.mono ?_; rintro e w9 ⟨rfl, e9⟩; rw [e9]; clear e9 w9) | fail)
    go_ret
    exact ⟨rfl, G.refl _⟩
set_option maxRecDepth 100000 in
set_option maxHeartbeats 1000000 in
theorem gateNil_law (id : Int) (y : Bool) (W : World) : Calls Try.prog 5 #[I id, .bool y] W fun e W' => e = .returned (.bool true) ∧ G W W' := by
  have KN := hide (new_ok 1 1 W (by omega) (by omega) (by omega) (by omega))
  go_enter Try.func5, Try.ntmps5
  go_wp2_with (first | (go_at_call 9; refine Hid.out ?_) | fail)
  unfold Hid
  refine KN.out.mono ?_
  rintro e w1 ⟨b, K, rfl, hp, hg1, hk1⟩
  have KU := hide (submit_any b (new0 1 1) K w1 1 hp (iv_new (by omega) (by omega) (by omega) (by omega)) (by simp [new0]))
  have eA : (new0 1 1).subA 1 = (1, 0) := by simp [GM.subA, new0, GM.ids, GM.qids]
  rw [eA] at KU
  have HG1 := hide hg1
  have HK1 := hide hk1
  clear hp hg1 hk1 KN eA
  go_wp2_with (first | (go_at_call 13; refine Hid.out ?_) | fail)
  unfold Hid
  refine KU.out.mono ?_
  rintro e w2 ⟨rfl, K', hp2, hs2⟩
  have HG2 := hide (hs2.toG HG1.out HK1.out).1
  clear hp2 hs2 KU HG1 HK1
  have N1 := hide (nil_sub w2 id)
  go_wp2_with (first | (go_at_call 13; refine Hid.out ?_) | fail)
  unfold Hid
  refine N1.out.mono ?_
  rintro e w3 ⟨rfl, hg3⟩
  have HG3 := hide (HG2.out.trans hg3)
  clear hg3 N1 HG2
  have N2 := hide (nil_adm w3)
  go_wp2_with (first | (go_at_call 14; refine Hid.out ?_) | fail)
  unfold Hid
  refine N2.out.mono ?_
  rintro e w4 ⟨rfl, hg4⟩
  have HG4 := hide (HG3.out.trans hg4)
  clear hg4 N2 HG3
  have N3 := hide (nil_end w4 id y)
  go_wp2_with (first | (go_at_call 15; refine Hid.out ?_) | fail)
  unfold Hid
  refine N3.out.mono ?_
  rintro e w5 ⟨rfl, hg5⟩
  have HG5 := hide (HG4.out.trans hg5)
  clear hg5 N3 HG4
  have N4 := hide (nil_pi w5 id)
  go_wp2_with (first | (go_at_call 16; refine Hid.out ?_) | fail)
  unfold Hid
  refine N4.out.mono ?_
  rintro e w6 ⟨rfl, hg6⟩
  have HG6 := hide (HG5.out.trans hg6)
  clear hg6 N4 HG5
  have N5 := hide (nil_sw w6)
  go_wp2_with (first | (go_at_call 17; refine Hid.out ?_) | fail)
  unfold Hid
  refine N5.out.mono ?_
  rintro e w7 ⟨rfl, hg7⟩
  have HG7 := hide (HG6.out.trans hg7)
  clear hg7 N5 HG6
  have N6 := hide (nil_sa w7)
  go_wp2_with (first | (go_at_call 12; refine Hid.out ?_) | fail)
  unfold Hid
  refine N6.out.mono ?_
  rintro e w8 ⟨rfl, hg8⟩
  have HG8 := hide (HG7.out.trans hg8)
  clear hg8 N6 HG7
  have N7 := hide (nil_nx (w8.alloc (.cells #[.slice none 0 0, .slice none 0 0, I 0, I 0, I 0] 33)))
  have HA := hide (HG8.out.alloc (.cells #[.slice none 0 0, .slice none 0 0, I 0, I 0, I 0] 33))
  have HX := hide (Blk.new w8 [.slice none 0 0, .slice none 0 0, I 0, I 0, I 0] 33)
  go_wp2_with (first | (go_at_call 18; refine Hid.out ?_) | fail)
  unfold Hid
  refine N7.out.mono ?_
  rintro e w9 ⟨rfl, hg9⟩
  have hcx := (HX.out.G hg9).cell
  have HG9 := hide (HA.out.trans hg9)
  clear hg9 N7 HA HX HG8
  go_wp2_with fail
  go_ret
  exact ⟨rfl, HG9.out⟩
end Go.Proofs.Ytmclbnhbioficaa
