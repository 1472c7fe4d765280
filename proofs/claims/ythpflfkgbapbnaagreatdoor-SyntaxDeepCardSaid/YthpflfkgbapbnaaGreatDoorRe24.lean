/- The law. -/
import Derived.Test.YthpflfkgbapbnaaGreatDoorRe12
import Derived.Test.YthpflfkgbapbnaaGreatDoorRd16
namespace Go.Proofs.YthpflfkgbapbnaaGreatDoor
section
section
section
section
section
section
section
section
section
section
section
open Go.RowKit

set_option maxRecDepth 100000 in
set_option maxHeartbeats 1000000 in
theorem need_yes {rb g : Nat} {ts : List Tok} {i : Nat} {W : World} (h : Rd rb g ts i W) {x : Tok} (hx : ts[i]? = some x) (t : ByteArray) (hn : seB x t = true) (hl : i + 1 < ts.length) : Calls Tryz.prog 47 #[ptr rb, .string t] W fun e W' => e = .returned (.tuple #[]) ∧ Rd rb g ts (i + 1) W' ∧ Qr rb W W' := by
  have HT := xh (took_yes h hx t hn hl)
  clear h hx hn
  go_enter Tryz.func47, Tryz.ntmps47
  go_wp2_with (first | (go_at_call 44; refine Hid.out ?_) | fail)
  unfold Hid
  refine HT.out.mono ?_
  rintro e w1 ⟨rfl, hrd, hq⟩
  have HR1 := xh hrd
  have HQ1 := xh hq
  clear hrd hq HT
  go_wp2_with (first | (go_at_call 32; refine Hid.out ?_) | fail)
  unfold Hid
  refine (must_yes _).mono ?_
  rintro e ww ⟨rfl, rfl⟩
  go_wp2
  go_end0
  exact ⟨rfl, HR1.out, HQ1.out⟩
set_option maxRecDepth 100000 in
set_option maxHeartbeats 1000000 in
theorem so_yes {rb g : Nat} {ts : List Tok} {i : Nat} {W : World} (h : Rd rb g ts i W) {x : Tok} (hx : ts[i]? = some x) (tl : List ByteArray) (k0 : Nat) (hk0 : k0 < tl.length) {t0 : ByteArray} (h0 : tl[k0]? = some t0) (hs0 : seB x t0 = true) (hn : ∀ k t, k < k0 → tl[k]? = some t → seB x t = false) {sb : Nat} (hs : ∀ o, W.cell? ⟨sb, o, none⟩ = (tl.map Value.string)[o]?) (hl : tl.length ≤ 100) : Calls Tryz.prog 69 #[ptr rb, .slice (some ⟨sb, 0, none⟩) tl.length tl.length] W fun e W' => e = .returned (.bool true) ∧ G W W' := by
  have HR := xh h
  have HX := xh hx
  have HN := xh hn
  have HS := xh hs
  have H0 := xh h0
  have HS0 := xh hs0
  obtain ⟨n, hnn⟩ : ∃ n, n = tl.length := ⟨_, rfl⟩
  rw [← hnn] at hl hk0 ⊢
  have HNN := xh hnn
  clear h hx hn hs hnn h0 hs0
  go_enter Tryz.func69, Tryz.ntmps69
  go_wp2_with fail
  go_loopw [9] (fun p W' => ∃ k : Nat, k ≤ k0 ∧ p = .int .i64 (k : Int) ∧ G W W') (fun p _ => n - (RowKit.intOf p).toNat)
  case atStart => exact ⟨0, by omega, rfl, G.refl _⟩
  case round =>
    obtain ⟨k, hk, rfl, hg⟩ := hrel
    have HG := xh hg
    have hltI : (k : Int) < (n : Int) := by omega
    obtain ⟨t, ht⟩ : ∃ t, tl[k]? = some t := ⟨_, List.getElem?_eq_getElem (by rw [← HNN.out]; omega)⟩
    have hc0 : W.cell? ⟨sb, k, none⟩ = some (.string t) := by rw [HS.out k]; simp [ht]
    have hc := (hg.cell (cell_lt hc0)).trans hc0
    have HSE := xh (sees_any (HR.out.G hg) HX.out t)
    have HTT := xh ht
    clear hc0 ht hg
    by_cases hlt : k < k0
    · rw [HN.out k t hlt HTT.out] at HSE
      go_wp2_with (first | (go_at_call 26; refine Hid.out ?_) | fail)
      unfold Hid
      refine HSE.out.mono ?_
      rintro e w2 ⟨rfl, hg⟩
      have HG2 := xh (HG.out.trans hg)
      clear hg HSE hc
      go_wp2
      go_roundw
      case rel => exact ⟨k + 1, by omega, by go_num, HG2.out⟩
      case measure => simp [RowKit.intOf]; omega
    · obtain rfl : k = k0 := by omega
      obtain rfl : t = t0 := Option.some.inj (HTT.out.symm.trans H0.out)
      rw [HS0.out] at HSE
      go_wp2_with (first | (go_at_call 26; refine Hid.out ?_) | fail)
      unfold Hid
      refine HSE.out.mono ?_
      rintro e w2 ⟨rfl, hg⟩
      have HG2 := xh (HG.out.trans hg)
      clear hg HSE hc
      go_wp2
      go_ret
      exact ⟨rfl, HG2.out⟩
set_option maxRecDepth 100000 in
set_option maxHeartbeats 1000000 in
theorem aa_br {rb g : Nat} {ts : List Tok} {i p : Nat} {W : World} (h : Rd rb g ts i W) (hx : ts[i]? = some ⟨6, sU [40], p⟩) : Calls Tryz.prog 108 #[ptr rb] W fun e W' => e = .returned (.bool true) ∧ G W W' := by
  have HR := xh h
  have HX := xh hx
  have HN := xh (next_any h hx)
  clear h hx
  go_enter Tryz.func108, Tryz.ntmps108
  go_wp2_with (first | (go_at_call 16; refine Hid.out ?_) | fail)
  unfold Hid
  refine HN.out.mono ?_
  rintro e w1 ⟨rfl, hg⟩
  have HG1 := xh hg
  clear hg HN
  simp only [tkA]
  have hfd : ∀ w : World, (Instr.field 60 (.agg #[I 6, .string (sU [40]), I p]) 0).run Tryz.prog w = .ok (I 6) w := fun _ => by kernel_rfl
  have HS := xh (so_yes ((HR.out.G HG1.out).G ((G.refl w1).alloc (.cells #[.string ⟨#[110, 117, 108, 108]⟩, .string ⟨#[116, 114, 117, 101]⟩, .string ⟨#[102, 97, 108, 115, 101]⟩, .string ⟨#[40]⟩, .string ⟨#[99, 97, 115, 101]⟩] 9))) HX.out [⟨#[110, 117, 108, 108]⟩, ⟨#[116, 114, 117, 101]⟩, ⟨#[102, 97, 108, 115, 101]⟩, ⟨#[40]⟩, ⟨#[99, 97, 115, 101]⟩] 3 (by decide) rfl (seB_t [40] 6 p rfl) (fun k t hk ht => by
    have hk3 : k = 0 ∨ k = 1 ∨ k = 2 := by omega
    rcases hk3 with rfl | rfl | rfl <;> cases ht <;> exact seB_w [40] _ 6 p (by decide)) (sb := w1.heap.size) (fun o => by simp) (by decide))
  have HGB := xh (HG1.out.alloc (.cells #[.string ⟨#[110, 117, 108, 108]⟩, .string ⟨#[116, 114, 117, 101]⟩, .string ⟨#[102, 97, 108, 115, 101]⟩, .string ⟨#[40]⟩, .string ⟨#[99, 97, 115, 101]⟩] 9))
  go_wp2_with (first | (go_at_call 69; refine Hid.out ?_) | fail)
  unfold Hid
  refine HS.out.mono ?_
  rintro e w2 ⟨rfl, hg⟩
  have HG2 := xh (HGB.out.trans hg)
  clear hg HS
  go_wp2
  go_ret
  exact ⟨rfl, HG2.out⟩
set_option maxRecDepth 100000 in
set_option maxHeartbeats 1000000 in
theorem atom_br {w0 : World} {rb g : Nat} (hr : w0.heap.size ≤ rb) {ts : List Tok} {i j d p : Nat} (hx : ts[i]? = some ⟨6, sU [40], p⟩) {z : Tok} (hz : ts[j]? = some z) (hzc : seB z ⟨#[41]⟩ = true) (hl : i + 1 < ts.length) (hl2 : j + 1 < ts.length) {W : World} (h : Rd rb g ts i W) (g0 : G w0 W) (HC : ∀ W, Rd rb g ts (i + 1) W → G w0 W → Calls Tryz.prog 17 #[ptr rb] W fun e W' => (∃ oo sub k a b kp kl kc, e = .returned (exV oo sub k a b kp kl kc) ∧ ¬ oo = 0 ∧ Dp W.heap.size W' d (exV oo sub k a b kp kl kc)) ∧ Rd rb g ts j W' ∧ Qr rb W W') : Calls Tryz.prog 99 #[ptr rb] W fun e W' => (∃ oo sub k a b kp kl kc, e = .returned (exV oo sub k a b kp kl kc) ∧ ¬ oo = 0 ∧ Dp W.heap.size W' d (exV oo sub k a b kp kl kc)) ∧ Rd rb g ts (j + 1) W' ∧ Qr rb W W' := by
  have HX0 := xh (Rx.new (w := W) h.Q0.1)
  have HGN := xh h.Q0.2
  have HR0 := xh (h.G ((G.refl W).alloc (.cells #[I 0, I 0, I 0, I 0, I 0, .string E0, .string E0, .string E0, .bool false, .slice none 0 0] 26)))
  have HRL : Hid (rb < W.heap.size + 1) := Nat.lt_succ_of_lt h.Q0.1
  have HXX := xh hx
  have HZZ := xh hz
  have HZC := xh hzc
  have HCC := xh HC
  have HRB := xh hr
  have HNA : Hid (W.heap.size < (W.alloc (.cells #[I 0, I 0, I 0, I 0, I 0, .string E0, .string E0, .string E0, .bool false, .slice none 0 0] 26)).heap.size) := by unfold Hid; simp
  have HGA := xh (g0.trans ((G.refl W).alloc (.cells #[I 0, I 0, I 0, I 0, I 0, .string E0, .string E0, .string E0, .bool false, .slice none 0 0] 26)))
  clear h g0 HC hx hz hzc hr
  go_enter Tryz.func99, Tryz.ntmps99
  go_wp2_with (first | (go_at_call 108; refine Hid.out ?_) | fail)
  unfold Hid
  generalize W.alloc (.cells #[I 0, I 0, I 0, I 0, I 0, .string E0, .string E0, .string E0, .bool false, .slice none 0 0] 26) = wa at HX0 HR0 HGA HNA ⊢
  refine (aa_br HR0.out HXX.out).mono ?_
  rintro e w1 ⟨rfl, hg⟩
  have HR1 := xh (HR0.out.G hg)
  have HX1 := xh (HX0.out.G hg)
  have HG1 := xh (HGA.out.trans hg)
  have HS1 : Hid (W.heap.size < w1.heap.size) := Nat.lt_of_lt_of_le HNA.out hg.size
  clear hg HR0 HX0 HGA HNA
  go_wp2_with (first | (go_at_call 32; refine Hid.out ?_) | fail)
  unfold Hid
  refine (must_yes _).mono ?_
  rintro e w1' ⟨rfl, rfl⟩
  go_wp2_with (first | (go_at_call 16; refine Hid.out ?_) | fail)
  unfold Hid
  refine (next_any HR1.out HXX.out).mono ?_
  rintro e w2 ⟨rfl, hg⟩
  have HR2 := xh (HR1.out.G hg)
  have HX2 := xh (HX1.out.G hg)
  have HG2 := xh (HG1.out.trans hg)
  have HS2 : Hid (W.heap.size < w2.heap.size) := Nat.lt_of_lt_of_le HS1.out hg.size
  clear hg HR1 HX1 HG1 HS1
  have hs40 : sU [40] = ⟨#[40]⟩ := rfl
  have hfd : ∀ w : World, (Instr.field 60 (.agg #[I 6, .string ⟨#[40]⟩, I p]) 0).run Tryz.prog w = .ok (I 6) w := fun _ => by kernel_rfl
  have hft : ∀ w : World, (Instr.field 60 (.agg #[I 6, .string ⟨#[40]⟩, I p]) 1).run Tryz.prog w = .ok (.string ⟨#[40]⟩) w := fun _ => by kernel_rfl
  simp only [tkA]
  rw [hs40]
  clear hs40
  go_wp2_with (first | (go_at_call 65; refine Hid.out ?_) | fail)
  unfold Hid
  refine (pass_any HR2.out HXX.out hl).mono ?_
  rintro e w3 ⟨rfl, hrd, hq⟩
  have HR3 := xh hrd
  have HX3 := xh (HX2.out.Q hq)
  have HG3 : Hid (G w0 w3) := hq.G HG2.out HRB.out
  have HS3 : Hid (W.heap.size < w3.heap.size) := Nat.lt_of_lt_of_le HS2.out hq.size
  clear hrd hq HR2 HX2 HG2 HS2
  have hs40 : sU [40] = ⟨#[40]⟩ := rfl
  simp only [tkA]
  rw [hs40]
  clear hs40
  go_wp2_with (first | (go_at_call 17; refine Hid.out ?_) | fail)
  unfold Hid
  refine (HCC.out _ HR3.out HG3.out).mono ?_
  rintro e w4 ⟨⟨oo, sub, k, a, b, kp, kl, kc, rfl, hoo, hdp⟩, hrd, hq⟩
  have HR4 := xh (hrd.G ((G.refl w4).alloc (.cells #[I oo, I sub, I k, I a, I b, .string E0, .string E0, .string E0, .bool false, .slice kp kl kc] 26)))
  have HX4 := xh ((HX3.out.Q hq).G ((G.refl w4).alloc (.cells #[I oo, I sub, I k, I a, I b, .string E0, .string E0, .string E0, .bool false, .slice kp kl kc] 26)))
  have HD4 := xh ((hdp.low (Nat.succ_le_of_lt HS3.out)).G ((G.refl w4).alloc (.cells #[I oo, I sub, I k, I a, I b, .string E0, .string E0, .string E0, .bool false, .slice kp kl kc] 26)))
  have HOO := xh hoo
  have HL4 : Hid (Lf rb w4.heap.size [I oo, I sub, I k, I a, I b, .string E0, .string E0, .string E0, .bool false, .slice kp kl kc] (w4.alloc (.cells #[I oo, I sub, I k, I a, I b, .string E0, .string E0, .string E0, .bool false, .slice kp kl kc] 26))) := ⟨fun o => by simp, by simp, by have := blk_lt hrd.c; omega⟩
  clear hrd hq hdp hoo HR3 HX3 HG3 HS3 HCC
  simp only [exV]
  go_wp2_with (first | (go_at_call 47; refine Hid.out ?_) | fail)
  unfold Hid
  obtain ⟨lb, hlb⟩ : ∃ lb, lb = w4.heap.size := ⟨_, rfl⟩
  rw [← hlb] at HL4 ⊢
  clear hlb
  generalize w4.alloc (.cells #[I oo, I sub, I k, I a, I b, .string E0, .string E0, .string E0, .bool false, .slice kp kl kc] 26) = w5 at HR4 HX4 HD4 HL4 ⊢
  refine (need_yes HR4.out HZZ.out ⟨#[41]⟩ HZC.out hl2).mono ?_
  rintro e w6 ⟨rfl, hrd, hq⟩
  have HR6 := xh hrd
  have HX6 := xh (HX4.out.Q hq)
  have HD6 := xh (HD4.out.Q hq HRL.out)
  have hcl := (HL4.out.Q hq).c
  clear hrd hq HR4 HX4 HD4 HL4
  have hcr := HX6.out.c
  have hfr := HX6.out.f
  go_wp2
  refine bodyPost_ret (v := exV oo sub k a b kp kl kc) (by simp [results, Tryz.results99, go_sem, hcr, exV]) rfl ⟨⟨oo, sub, k, a, b, kp, kl, kc, rfl, HOO.out, (HD6.out.ten (Nat.lt_succ_self _) _ _ _ _ _ _ _ _ _ _).low (Nat.le_succ _)⟩, HR6.out.ten HX6.out.n HGN.out _ _ _ _ _ _ _ _ _ _, HX6.out.q.ten (Nat.le_refl _) _ _ _ _ _ _ _ _ _ _⟩
end
open Go.RowKit

set_option maxRecDepth 100000 in
set_option maxHeartbeats 1000000 in
theorem y_minus {w0 : World} {rb g : Nat} {ts : List Tok} {i j : Nat} {W : World} (h : Rd rb g ts i W) (g0 : G w0 W) {d : Nat} {y : Tok} (hy : ts[i]? = some y) (hn : seB y ⟨#[45]⟩ = false) (HC : ∀ W, Rd rb g ts i W → G w0 W → Calls Tryz.prog 99 #[ptr rb] W fun e W' => (∃ oo sub k a b kp kl kc, e = .returned (exV oo sub k a b kp kl kc) ∧ ¬ oo = 0 ∧ Dp W.heap.size W' d (exV oo sub k a b kp kl kc)) ∧ Rd rb g ts j W' ∧ Qr rb W W') : Calls Tryz.prog 63 #[ptr rb] W fun e W' => (∃ oo sub k a b kp kl kc, e = .returned (exV oo sub k a b kp kl kc) ∧ ¬ oo = 0 ∧ Dp W.heap.size W' d (exV oo sub k a b kp kl kc)) ∧ Rd rb g ts j W' ∧ Qr rb W W' := by
  have HX0 := xh (Rx.new (w := W) h.Q0.1)
  have HGN := xh h.Q0.2
  have HR0 := xh (h.G ((G.refl W).alloc (.cells #[I 0, I 0, I 0, I 0, I 0, .string E0, .string E0, .string E0, .bool false, .slice none 0 0] 26)))
  have HNA : Hid (W.heap.size < (W.alloc (.cells #[I 0, I 0, I 0, I 0, I 0, .string E0, .string E0, .string E0, .bool false, .slice none 0 0] 26)).heap.size) := by unfold Hid; simp
  have HCC := xh HC
  have HGA := xh (g0.trans ((G.refl W).alloc (.cells #[I 0, I 0, I 0, I 0, I 0, .string E0, .string E0, .string E0, .bool false, .slice none 0 0] 26)))
  have HYY := xh hy
  have HNN := xh hn
  clear hy hn
  clear h g0 HC
  go_enter Tryz.func63, Tryz.ntmps63
  go_wp2_with (first | (go_at_call 44; refine Hid.out ?_) | fail)
  unfold Hid
  generalize W.alloc (.cells #[I 0, I 0, I 0, I 0, I 0, .string E0, .string E0, .string E0, .bool false, .slice none 0 0] 26) = wa at HX0 HR0 HGA HNA ⊢
  refine (took_no HR0.out HYY.out ⟨#[45]⟩ HNN.out).mono ?_
  rintro e w1 ⟨rfl, hg⟩
  have HR1 := xh (HR0.out.G hg)
  have HX1 := xh (HX0.out.G hg)
  have HGB := xh (HGA.out.trans hg)
  have HGS := xh hg.size
  clear hg HR0 HX0 HGA
  go_wp2_with (first | (go_at_call 99; refine Hid.out ?_) | fail)
  unfold Hid
  refine (HCC.out _ HR1.out HGB.out).mono ?_
  rintro e w2 ⟨⟨oo, sub, k, a, b, kp, kl, kc, rfl, hoo, hdp⟩, hrd, hq⟩
  have HR2 := xh hrd
  have HX2 := xh (HX1.out.Q hq)
  have HD2 := xh (hdp.low (Nat.le_trans (Nat.succ_le_of_lt HNA.out) HGS.out))
  have HOO := xh hoo
  clear hrd hq HR1 HX1 hdp hoo
  have hcr := HX2.out.c
  have hfr := HX2.out.f
  simp only [exV]
  go_wp2
  refine bodyPost_ret (v := exV oo sub k a b kp kl kc) (by simp [results, Tryz.results63, go_sem, hcr, exV]) rfl ⟨⟨oo, sub, k, a, b, kp, kl, kc, rfl, HOO.out, (HD2.out.ten (Nat.lt_succ_self _) _ _ _ _ _ _ _ _ _ _).low (Nat.le_succ _)⟩, HR2.out.ten HX2.out.n HGN.out _ _ _ _ _ _ _ _ _ _, HX2.out.q.ten (Nat.le_refl _) _ _ _ _ _ _ _ _ _ _⟩

theorem stop_k (a : List UInt8) (k : Int) (p : Nat) (h : (opsL.all fun e => !(a == e.1)) = true) (h1 : (a == [105, 115]) = false) (h2 : (a == [105, 110]) = false) : StopT ⟨k, sU a, p⟩ :=
  ⟨fun _ q t _ _ hk _ => seB_w a t k p (by simpa using List.all_eq_true.1 h _ (List.mem_of_getElem? (i := q) hk)), seB_w a _ k p h1, seB_w a _ k p h2⟩
theorem ex_of_atom {w0 : World} (hO : OpV w0) {rb g : Nat} (hr : w0.heap.size ≤ rb) {ts : List Tok} {i j d : Nat} {y : Tok} (hy : ts[i]? = some y) (hn : seB y ⟨#[110, 111, 116]⟩ = false) (hm : seB y ⟨#[45]⟩ = false) {x : Tok} (hx : ts[j]? = some x) (hst : StopT x) (HA : ∀ W, Rd rb g ts i W → G w0 W → Calls Tryz.prog 99 #[ptr rb] W fun e W' => (∃ oo sub k a b kp kl kc, e = .returned (exV oo sub k a b kp kl kc) ∧ ¬ oo = 0 ∧ Dp W.heap.size W' d (exV oo sub k a b kp kl kc)) ∧ Rd rb g ts j W' ∧ Qr rb W W') : ∀ W, Rd rb g ts i W → G w0 W → Calls Tryz.prog 17 #[ptr rb] W fun e W' => (∃ oo sub k a b kp kl kc, e = .returned (exV oo sub k a b kp kl kc) ∧ ¬ oo = 0 ∧ Dp W.heap.size W' d (exV oo sub k a b kp kl kc)) ∧ Rd rb g ts j W' ∧ Qr rb W W' :=
  fun _ h g0 => y_ex1 h g0 fun _ h g0 => y_rk1 hO h g0 hr hx hst fun _ h g0 => y_rk2 hO h g0 hr hx hst fun _ h g0 => y_rk3 hO h g0 hr hx hst fun _ h g0 => y_rk4 h g0 fun _ h g0 => y_not_any h g0 hy hn fun _ h g0 => y_rk5 h g0 fun _ h g0 => y_test hO h g0 hr hx hst fun _ h g0 => y_rk6 hO h g0 hr hx hst fun _ h g0 => y_rk7 hO h g0 hr hx hst fun _ h g0 => y_rk8 h g0 fun _ h g0 => y_minus h g0 hy hm HA
/-- A number, as an atom. -/
theorem atom_lit {w0 : World} {rb g : Nat} {ts : List Tok} {i : Nat} {y : Tok} (hy : ts[i]? = some y) (hn : NumT y) (hN : decN y.t.data.toList ≤ 9223372036854775807) (hl : i + 1 < ts.length) : ∀ W, Rd rb g ts i W → G w0 W → Calls Tryz.prog 99 #[ptr rb] W fun e W' => (∃ oo sub k a b kp kl kc, e = .returned (exV oo sub k a b kp kl kc) ∧ ¬ oo = 0 ∧ Dp W.heap.size W' 1 (exV oo sub k a b kp kl kc)) ∧ Rd rb g ts (i + 1) W' ∧ Qr rb W W' := fun _ h _ =>
  (atom_num h hy hn hN hl).mono (by
    rintro e w' ⟨rfl, hrd, hq⟩
    exact ⟨⟨1, 0, _, _, _, none, 0, 0, rfl, by decide, .lit _ _ _⟩, hrd, hq⟩)
theorem br_any {w0 : World} (hO : OpV w0) {rb g : Nat} (hr : w0.heap.size ≤ rb) {ts : List Tok} {y : Tok} (hn : NumT y) (hN : decN y.t.data.toList ≤ 9223372036854775807) : ∀ (m i : Nat), (∀ q, q < m → ∃ p, ts[i + q]? = some ⟨6, sU [40], p⟩) → ts[i + m]? = some y → (∀ q, q < m → ∃ p, ts[i + m + 1 + q]? = some ⟨6, sU [41], p⟩) → (∃ x, ts[i + 2 * m + 1]? = some x ∧ StopT x) → ∀ W, Rd rb g ts i W → G w0 W → Calls Tryz.prog 17 #[ptr rb] W fun e W' => (∃ oo sub k a b kp kl kc, e = .returned (exV oo sub k a b kp kl kc) ∧ ¬ oo = 0 ∧ Dp W.heap.size W' 1 (exV oo sub k a b kp kl kc)) ∧ Rd rb g ts (i + 2 * m + 1) W' ∧ Qr rb W W'
  | 0, i, _, h2, _, ⟨x, hx, hst⟩ => by
    have hl := (List.getElem?_eq_some_iff.1 hx).1
    exact ex_of_atom hO hr h2 (seB_num (.inl hn.k) _) (seB_num (.inl hn.k) _) hx hst (atom_lit h2 hn hN (by omega))
  | m + 1, i, h1, h2, h3, ⟨x, hx, hst⟩ => by
    have hl := (List.getElem?_eq_some_iff.1 hx).1
    obtain ⟨p0, hp0⟩ := h1 0 (by omega)
    obtain ⟨p1, hp1⟩ := h3 m (by omega)
    have hin := br_any hO (rb := rb) (g := g) hr hn hN m (i + 1) (fun q hq => by
      obtain ⟨p, hp⟩ := h1 (q + 1) (by omega)
      exact ⟨p, by rw [show i + 1 + q = i + (q + 1) by omega]; exact hp⟩) (by rw [show i + 1 + m = i + (m + 1) by omega]; exact h2) (fun q hq => by
      obtain ⟨p, hp⟩ := h3 q (by omega)
      exact ⟨p, by rw [show i + 1 + m + 1 + q = i + (m + 1) + 1 + q by omega]; exact hp⟩) ⟨⟨6, sU [41], p1⟩, by rw [show i + 1 + 2 * m + 1 = i + (m + 1) + 1 + m by omega]; exact hp1, stop_k [41] 6 p1 (by decide) (by decide) (by decide)⟩
    rw [show i + 1 + 2 * m + 1 = i + 2 * (m + 1) by omega] at hin
    refine ex_of_atom hO hr hp0 (seB_w [40] [110, 111, 116] 6 p0 (by decide)) (seB_w [40] [45] 6 p0 (by decide)) hx hst (fun _ h g0 => ?_)
    exact atom_br hr hp0 (z := ⟨6, sU [41], p1⟩) (by rw [show i + 2 * (m + 1) = i + (m + 1) + 1 + m by omega]; exact hp1) (seB_t [41] 6 p1 rfl) (by omega) hl h g0 hin
end
open Go.RowKit

set_option maxRecDepth 100000 in
set_option maxHeartbeats 1000000 in
theorem n7 {w0 : World} (hO : OpV w0) {rb g : Nat} {ts : List Tok} {i j : Nat} {W : World} (h : Rd rb g ts i W) (g0 : G w0 W) (hr : w0.heap.size ≤ rb) {k a b : Int} {x : Tok} (hx : ts[j]? = some x) (hst : noOp x 7) (HC : ∀ W, Rd rb g ts i W → G w0 W → Calls Tryz.prog 34 #[ptr rb, .int .i64 8] W fun e W' => e = .returned (litE k a b E0) ∧ Rd rb g ts j W' ∧ Qr rb W W') : Calls Tryz.prog 34 #[ptr rb, .int .i64 7] W fun e W' => e = .returned (litE k a b E0) ∧ Rd rb g ts j W' ∧ Qr rb W W' := by
  have HX0 := xh (Rx.new (w := W) h.Q0.1)
  have HGN := xh h.Q0.2
  have HR0 := xh (h.G ((G.refl W).alloc (.cells #[I 0, I 0, I 0, I 0, I 0, .string E0, .string E0, .string E0, .bool false, .slice none 0 0] 26)))
  have HO := xh hO
  have HXX := xh hx
  have HST := xh hst
  have HCC := xh HC
  have HRB := xh hr
  have HGA := xh (g0.trans ((G.refl W).alloc (.cells #[I 0, I 0, I 0, I 0, I 0, .string E0, .string E0, .string E0, .bool false, .slice none 0 0] 26)))
  clear h g0 HC hO hx hst hr
  go_enter Tryz.func34, Tryz.ntmps34
  go_wp2_with (first | (go_at_call 34; refine Hid.out ?_) | fail)
  unfold Hid
  generalize W.alloc (.cells #[I 0, I 0, I 0, I 0, I 0, .string E0, .string E0, .string E0, .bool false, .slice none 0 0] 26) = wa at HX0 HR0 HGA ⊢
  refine (HCC.out _ HR0.out HGA.out).mono ?_
  rintro e w1 ⟨rfl, hrd, hq⟩
  have HG1 := xh ((hq.G HGA.out HRB.out).trans ((G.refl w1).alloc (.cells #[I 1, I 0, I k, I a, I b, .string E0, .string E0, .string E0, .bool false, .slice none 0 0] 26)))
  have HR1 := xh (hrd.G ((G.refl w1).alloc (.cells #[I 1, I 0, I k, I a, I b, .string E0, .string E0, .string E0, .bool false, .slice none 0 0] 26)))
  have HX1 := xh ((HX0.out.Q hq).G ((G.refl w1).alloc (.cells #[I 1, I 0, I k, I a, I b, .string E0, .string E0, .string E0, .bool false, .slice none 0 0] 26)))
  have HL1 : Hid (Lf rb w1.heap.size [I 1, I 0, I k, I a, I b, .string E0, .string E0, .string E0, .bool false, .slice none 0 0] (w1.alloc (.cells #[I 1, I 0, I k, I a, I b, .string E0, .string E0, .string E0, .bool false, .slice none 0 0] 26))) := ⟨fun o => by simp, by simp, by have := blk_lt hrd.c; omega⟩
  obtain ⟨lb, hlb⟩ : ∃ lb, lb = w1.heap.size := ⟨_, rfl⟩
  rw [← hlb] at HL1
  have HLB := xh hlb
  clear hrd hq HR0 HX0 HCC HGA hlb
  simp only [litE]
  go_wp2_with (first | (go_at_call 64; refine Hid.out ?_) | fail)
  unfold Hid
  rw [← HLB.out]
  generalize w1.alloc (.cells #[I 1, I 0, I k, I a, I b, .string E0, .string E0, .string E0, .bool false, .slice none 0 0] 26) = w2 at HG1 HR1 HX1 HL1 ⊢
  refine (op_none HO.out HR1.out HG1.out HXX.out 7 HST.out).mono ?_
  rintro e w3 ⟨rfl, hg⟩
  have HR3 := xh (HR1.out.G hg)
  have HX3 := xh (HX1.out.G hg)
  have HL3 := xh (HL1.out.G hg)
  clear hg HR1 HX1 HL1 HG1
  go_wp2_with fail
  go_loopw [6] (fun p W => p = .int .i64 0 ∧ W = w3) (fun _ _ => 0)
  case atStart => exact ⟨rfl, rfl⟩
  case round =>
    obtain ⟨rfl, hw3⟩ := hrel
    subst hw3
    have hcl := HL3.out.c
    have hcr := HX3.out.c
    have hfr := HX3.out.f
    skip
    go_wp2
    refine bodyPost_ret (v := litE k a b E0) (by simp [results, Tryz.results34, go_sem, hcr, litE]) rfl ⟨rfl, HR3.out.ten HX3.out.n HGN.out _ _ _ _ _ _ _ _ _ _, HX3.out.q.ten (Nat.le_refl _) _ _ _ _ _ _ _ _ _ _⟩

theorem plus_7 (p : Nat) : noOp ⟨6, sU [43], p⟩ 7 := fun k t r b hk hr => by
  subst hr
  have : (opsL.all fun e => !(e.2.1 == 7) || !([43] == e.1)) = true := by decide
  have h := List.all_eq_true.1 this _ (List.mem_of_getElem? hk)
  exact seB_w [43] t 6 p (by simpa using h)
theorem stop_7 {x : Tok} (h : StopT x) : noOp x 7 := h.o 7
/-- Up from a number to a rank. -/
theorem not_chain {w0 : World} (hO : OpV w0) {rb g : Nat} (hr : w0.heap.size ≤ rb) {ts : List Tok} {y : Tok} (hn : NumT y) (hN : decN y.t.data.toList ≤ 9223372036854775807) : ∀ (m i : Nat), (∀ q, q < m → ∃ p, ts[i + q]? = some ⟨2, sU [110, 111, 116], p⟩) → ts[i + m]? = some y → (∃ x, ts[i + m + 1]? = some x ∧ StopT x) → ∀ W, Rd rb g ts i W → G w0 W → Calls Tryz.prog 34 #[ptr rb, .int .i64 4] W fun e W' => (∃ oo sub k a b kp kl kc, e = .returned (exV oo sub k a b kp kl kc) ∧ ¬ oo = 0 ∧ Dp W.heap.size W' (m + 1) (exV oo sub k a b kp kl kc)) ∧ Rd rb g ts (i + m + 1) W' ∧ Qr rb W W'
  | 0, i, _, h2, ⟨x, hx, hst⟩ => by
    have hl := (List.getElem?_eq_some_iff.1 hx).1
    exact fun _ h g0 => y_rk4 h g0 fun _ h g0 => y_not_any h g0 h2 (seB_num (.inl hn.k) _) fun _ h g0 => y_rk5 h g0 fun _ h g0 => y_test hO h g0 hr hx hst fun _ h g0 => y_rk6 hO h g0 hr hx hst fun _ h g0 => y_rk7 hO h g0 hr hx hst fun _ h g0 => y_rk8 h g0 fun _ h g0 => y_minus h g0 h2 (seB_num (.inl hn.k) _) (atom_lit h2 hn hN hl)
  | m + 1, i, h1, h2, ⟨x, hx, hst⟩ => by
    have hl := (List.getElem?_eq_some_iff.1 hx).1
    obtain ⟨p0, hp0⟩ := h1 0 (by omega)
    have hin := not_chain hO (rb := rb) (g := g) hr hn hN m (i + 1) (fun q hq => by
      obtain ⟨p, hp⟩ := h1 (q + 1) (by omega)
      exact ⟨p, by rw [show i + 1 + q = i + (q + 1) by omega]; exact hp⟩) (by rw [show i + 1 + m = i + (m + 1) by omega]; exact h2) ⟨x, by rw [show i + 1 + m + 1 = i + (m + 1) + 1 by omega]; exact hx, hst⟩
    rw [show i + 1 + m + 1 = i + (m + 1) + 1 by omega] at hin
    exact fun _ h g0 => y_rk4 h g0 fun _ h g0 => not_yes hr hp0 (seB_t [110, 111, 116] 2 p0 rfl) (by omega) h g0 hin
theorem nots_any {w0 : World} (hO : OpV w0) {rb g : Nat} (hr : w0.heap.size ≤ rb) {ts : List Tok} {y : Tok} (hn : NumT y) (hN : decN y.t.data.toList ≤ 9223372036854775807) (m i : Nat) (h1 : ∀ q, q < m → ∃ p, ts[i + q]? = some ⟨2, sU [110, 111, 116], p⟩) (h2 : ts[i + m]? = some y) {x : Tok} (hx : ts[i + m + 1]? = some x) (hst : StopT x) : ∀ W, Rd rb g ts i W → G w0 W → Calls Tryz.prog 17 #[ptr rb] W fun e W' => (∃ oo sub k a b kp kl kc, e = .returned (exV oo sub k a b kp kl kc) ∧ ¬ oo = 0 ∧ Dp W.heap.size W' (m + 1) (exV oo sub k a b kp kl kc)) ∧ Rd rb g ts (i + m + 1) W' ∧ Qr rb W W' :=
  fun _ h g0 => y_ex1 h g0 fun _ h g0 => y_rk1 hO h g0 hr hx hst fun _ h g0 => y_rk2 hO h g0 hr hx hst fun _ h g0 => y_rk3 hO h g0 hr hx hst (not_chain hO hr hn hN m i h1 h2 ⟨x, hx, hst⟩)
theorem sums_any {w0 : World} (hO : OpV w0) {rb g : Nat} (hr : w0.heap.size ≤ rb) {ts : List Tok} {i n : Nat} (hn : 1 ≤ n) (h1 : ∀ m, m < n → ∃ y, ts[i + 2 * m]? = some y ∧ NumT y ∧ decN y.t.data.toList = 1) (h2 : ∀ m, m + 1 < n → ∃ p, ts[i + 2 * m + 1]? = some ⟨6, sU [43], p⟩) {x : Tok} (hx : ts[i + 2 * (n - 1) + 1]? = some x) (hst : StopT x) : ∀ W, Rd rb g ts i W → G w0 W → Calls Tryz.prog 17 #[ptr rb] W fun e W' => (∃ oo sub k a b kp kl kc, e = .returned (exV oo sub k a b kp kl kc) ∧ ¬ oo = 0 ∧ Dp W.heap.size W' n (exV oo sub k a b kp kl kc)) ∧ Rd rb g ts (i + 2 * (n - 1) + 1) W' ∧ Qr rb W W' := by
  have hl := (List.getElem?_eq_some_iff.1 hx).1
  obtain ⟨y0, hy0, hn0, -⟩ := h1 0 (by omega)
  have hsum : ∀ W, Rd rb g ts i W → G w0 W → Calls Tryz.prog 34 #[ptr rb, .int .i64 6] W fun e W' => (∃ oo sub k a b kp kl kc, e = .returned (exV oo sub k a b kp kl kc) ∧ ¬ oo = 0 ∧ Dp W.heap.size W' n (exV oo sub k a b kp kl kc)) ∧ Rd rb g ts (i + 2 * (n - 1) + 1) W' ∧ Qr rb W W' := fun _ h g0 => by
    refine sum_any hO hr hn h g0 (fun m hm _ h g0 => ?_) (fun m hm => ?_) ⟨x, hx, hst⟩
    · obtain ⟨y, hy, hny, hN⟩ := h1 m hm
      have hat : ∃ z, ts[i + 2 * m + 1]? = some z ∧ noOp z 7 := by
        by_cases hc : m + 1 < n
        · obtain ⟨p, hp⟩ := h2 m hc
          exact ⟨_, hp, plus_7 p⟩
        · exact ⟨x, by rw [show m = n - 1 by omega]; exact hx, stop_7 hst⟩
      obtain ⟨z, hz, h7⟩ := hat
      have ho : OpT ts (i + 2 * m) 2 ((decN y.t.data.toList : Nat) : Int) 0 1 := .num hy hny (by omega)
      rw [hN] at ho
      exact n7 hO h g0 hr hz h7 fun _ h g0 => rk8 h g0 fun _ h _ => minus_any h ho (by omega)
    · obtain ⟨p, hp⟩ := h2 m hm
      exact ⟨_, p, hp, rfl⟩
  exact fun _ h g0 => y_ex1 h g0 fun _ h g0 => y_rk1 hO h g0 hr hx hst fun _ h g0 => y_rk2 hO h g0 hr hx hst fun _ h g0 => y_rk3 hO h g0 hr hx hst fun _ h g0 => y_rk4 h g0 fun _ h g0 => y_not_any h g0 hy0 (seB_num (.inl hn0.k) _) fun _ h g0 => y_rk5 h g0 fun _ h g0 => y_test hO h g0 hr hx hst hsum
end
open Go.RowKit

def fnA : Array Value := #[.string ⟨#[]⟩, I 0, I 0, I 0, I 0, .string ⟨#[114, 101]⟩, I 1, I 1, I 0, I 0, .string ⟨#[105, 109]⟩, I 1, I 1, I 0, I 0, .string ⟨#[99, 111, 110, 106]⟩, I 1, I 1, I 0, I 0, .string ⟨#[110, 111, 114, 109]⟩, I 1, I 1, I 0, I 0, .string ⟨#[108, 101, 110]⟩, I 1, I 1, I 0, I 0, .string ⟨#[97, 98, 115]⟩, I 1, I 1, I 0, I 0, .string ⟨#[99, 112, 120]⟩, I 2, I 2, I 0, I 0, .string ⟨#[108, 97, 98, 101, 108]⟩, I 1, I 1, I 0, I 0, .string ⟨#[116, 121, 112, 101]⟩, I 1, I 1, I 0, I 0, .string ⟨#[100, 101, 103]⟩, I 1, I 1, I 0, I 1, .string ⟨#[100, 105, 115, 116]⟩, I 2, I 2, I 2, I 2, .string ⟨#[104, 111, 112, 115]⟩, I 2, I 2, I 0, I 1, .string ⟨#[99, 111, 97, 108, 101, 115, 99, 101]⟩, I 1, I 9, I 0, I 0]
/-- The table of functions. -/
def FnV (w : World) : Prop := w.var? Tryz.prog "trellis/syntax.functions" = some fnA
theorem FnV.at {w W : World} (h : FnV w) (g : G w W) : W.rangeAt 9 0 fnA.toList := fun j v hv => by
  have h1 := World.var?_cell (show Tryz.prog.globalNamed "trellis/syntax.functions" = some 9 by kernel_rfl) h j
  have h2 : w.cell? ⟨9, j, none⟩ = some v := by
    rw [h1, ← Array.getElem?_toList]; exact hv
  rw [Nat.zero_add]
  exact (g.cell (cell_lt h2)).trans h2
set_option maxRecDepth 100000 in
theorem ix_f0 (w : World) : (Instr.index 211 (.agg fnA) (.int .i64 ((0 : Nat) : Int))).run Tryz.prog w = .ok (.agg #[.string ⟨#[]⟩, I 0, I 0, I 0, I 0]) w := by kernel_rfl
set_option maxRecDepth 100000 in
theorem ix_f1 (w : World) : (Instr.index 211 (.agg fnA) (.int .i64 ((1 : Nat) : Int))).run Tryz.prog w = .ok (.agg #[.string ⟨#[114, 101]⟩, I 1, I 1, I 0, I 0]) w := by kernel_rfl
set_option maxRecDepth 100000 in
set_option maxHeartbeats 1000000 in
theorem fo_re {w0 : World} (hF : FnV w0) {W : World} (g0 : G w0 W) : Calls Tryz.prog 136 #[.string ⟨#[114, 101]⟩] W fun e W' => e = .returned (.int .i64 1) ∧ G W W' := by
  have hr := hF.at g0
  have hi : (Tryz.prog.info? 211).map (·.size) = some fnA.toList.length := by kernel_rfl
  clear hF g0
  go_enter Tryz.func136, Tryz.ntmps136
  go_wp2_with (first | (refine wpList_load_mid rfl 211 _ rfl 9 0 rfl fnA.toList _ hr Tryz.underlying211 rfl hi ?_) | fail)
  rw [Array.toArray_toList]
  have H0 := xh ix_f0
  have H1 := xh ix_f1
  generalize fnA = OA at H0 H1 ⊢
  clear hr hi
  go_loopw [6] (fun p W' => ∃ k : Nat, k ≤ 1 ∧ p = .int .i64 (k : Int) ∧ G W W') (fun p _ => 2 - (RowKit.intOf p).toNat)
  case atStart => exact ⟨0, by omega, rfl, G.refl _⟩
  case round =>
    obtain ⟨k, hk, rfl, hg⟩ := hrel
    have HG := xh hg
    clear hg
    have hlt : (k : Int) < 14 := by omega
    by_cases h0 : k = 0
    · have hix : ∀ w : World, (Instr.index 211 (.agg OA) (.int .i64 (k : Int))).run Tryz.prog w = .ok (.agg #[.string ⟨#[]⟩, I 0, I 0, I 0, I 0]) w := by rw [h0]; exact H0.out
      have HK0 := xh h0
      have HGA := xh (HG.out.alloc (.cells #[.string ⟨#[]⟩, I 0, I 0, I 0, I 0] 210))
      clear h0 hk
      go_wp2
      go_roundw
      case rel => exact ⟨k + 1, by have := HK0.out; omega, by go_num, HGA.out⟩
      case measure => have := HK0.out; simp [RowKit.intOf]; omega
    · have h1 : k = 1 := by omega
      have hix : ∀ w : World, (Instr.index 211 (.agg OA) (.int .i64 (k : Int))).run Tryz.prog w = .ok (.agg #[.string ⟨#[114, 101]⟩, I 1, I 1, I 0, I 0]) w := by rw [h1]; exact H1.out
      have HK1 := xh h1
      have HGA := xh (HG.out.alloc (.cells #[.string ⟨#[114, 101]⟩, I 1, I 1, I 0, I 0] 210))
      clear h0 hk h1
      go_wp2
      go_ret
      exact ⟨by rw [HK1.out]; rfl, HGA.out⟩
end
open Go.RowKit

set_option maxRecDepth 100000 in
set_option maxHeartbeats 1000000 in
theorem exprs_1 {w0 : World} {rb g : Nat} {ts : List Tok} {i j d : Nat} {W : World} (h : Rd rb g ts i W) (g0 : G w0 W) (HC : ∀ W, Rd rb g ts i W → G w0 W → Calls Tryz.prog 17 #[ptr rb] W fun e W' => (∃ oo sub k a b kp kl kc, e = .returned (exV oo sub k a b kp kl kc) ∧ ¬ oo = 0 ∧ Dp W.heap.size W' d (exV oo sub k a b kp kl kc)) ∧ Rd rb g ts j W' ∧ Qr rb W W') : Calls Tryz.prog 153 #[ptr rb, .int .i64 1] W fun e W' => (∃ oo sub k a b kp kl kc kb, e = .returned (.slice (some ⟨kb, 0, none⟩) 1 1) ∧ Kd kb [I oo, I sub, I k, I a, I b, .string E0, .string E0, .string E0, .bool false, .slice kp kl kc] W' ∧ W.heap.size ≤ kb ∧ Dp W.heap.size W' d (exV oo sub k a b kp kl kc)) ∧ Rd rb g ts j W' ∧ Qr rb W W' := by
  have HR0 := xh h
  have HG0 := xh g0
  have HCC := xh HC
  clear h g0 HC
  go_enter Tryz.func153, Tryz.ntmps153
  go_wp2_with (first | (go_at_call 17; refine Hid.out ?_) | fail)
  unfold Hid
  refine (HCC.out _ HR0.out HG0.out).mono ?_
  rintro e w1 ⟨⟨oo, sub, k, a, b, kp, kl, kc, rfl, hoo, hdp⟩, hrd, hq⟩
  have hga : G w1 (w1.alloc (.cells #[I oo, I sub, I k, I a, I b, .string E0, .string E0, .string E0, .bool false, .slice kp kl kc] 26)) := (G.refl _).alloc _
  have HK1 : Hid (Kd w1.heap.size [I oo, I sub, I k, I a, I b, .string E0, .string E0, .string E0, .bool false, .slice kp kl kc] (w1.alloc (.cells #[I oo, I sub, I k, I a, I b, .string E0, .string E0, .string E0, .bool false, .slice kp kl kc] 26))) := Kd.new' rfl
  have HR1 := xh (hrd.G hga)
  have HD1 := xh (hdp.G hga)
  have HQ1 := xh (hq.trans (Qr.of hga))
  have HB1 := xh hq.size
  clear hrd hq hdp hoo hga HR0 HG0 HCC
  simp only [exV]
  go_wp2_with fail
  generalize w1.alloc (.cells #[I oo, I sub, I k, I a, I b, .string E0, .string E0, .string E0, .bool false, .slice kp kl kc] 26) = w2 at HK1 HR1 HD1 HQ1 ⊢
  generalize w1.heap.size = kb at HK1 HB1 ⊢
  go_loopw [5] (fun p W' => p = .slice (some ⟨kb, 0, none⟩) 1 1 ∧ W' = w2) (fun _ _ => 0)
  case atStart => exact ⟨rfl, rfl⟩
  case round =>
    obtain ⟨rfl, hw⟩ := hrel
    subst hw
    go_wp2
    go_ret
    exact ⟨⟨oo, sub, k, a, b, kp, kl, kc, kb, rfl, HK1.out, HB1.out, HD1.out⟩, HR1.out, HQ1.out⟩
end
open Go.RowKit

set_option maxRecDepth 100000 in
set_option maxHeartbeats 1000000 in
theorem call_re {w0 : World} (hF : FnV w0) {rb g : Nat} (hr : w0.heap.size ≤ rb) {ts : List Tok} {i j d : Nat} {y z : Tok} (hy : ts[i]? = some y) (hyo : seB y ⟨#[40]⟩ = true) (hl : i + 1 < ts.length) (hz : ts[j]? = some z) (hzc : seB z ⟨#[41]⟩ = true) (hl2 : j + 1 < ts.length) {W : World} (h : Rd rb g ts i W) (g0 : G w0 W) (HC : ∀ W, Rd rb g ts (i + 1) W → G w0 W → Calls Tryz.prog 17 #[ptr rb] W fun e W' => (∃ oo sub k a b kp kl kc, e = .returned (exV oo sub k a b kp kl kc) ∧ ¬ oo = 0 ∧ Dp W.heap.size W' d (exV oo sub k a b kp kl kc)) ∧ Rd rb g ts j W' ∧ Qr rb W W') : Calls Tryz.prog 137 #[ptr rb, .int .i64 1] W fun e W' => (∃ oo sub k a b kp kl kc, e = .returned (exV oo sub k a b kp kl kc) ∧ ¬ oo = 0 ∧ Dp W.heap.size W' (d + 1) (exV oo sub k a b kp kl kc)) ∧ Rd rb g ts (j + 1) W' ∧ Qr rb W W' := by
  have hga1 : G W (W.alloc (.cells #[I 0, I 0, I 0, I 0, I 0, .string E0, .string E0, .string E0, .bool false, .slice none 0 0] 26)) := (G.refl W).alloc _
  have hrg := hF.at (g0.trans hga1)
  have c5 := hrg 5 _ rfl
  have c6 := hrg 6 _ rfl
  have c7 := hrg 7 _ rfl
  have c8 := hrg 8 _ rfl
  have c9 := hrg 9 _ rfl
  simp only [Nat.zero_add] at c5 c6 c7 c8 c9
  have HX0 : Hid (Ry rb [I 0, I 0, I 0, I 0, I 0, .string E0, .string E0, .string E0, .bool false, .slice none 0 0] W.heap.size (((W.alloc (.cells #[I 0, I 0, I 0, I 0, I 0, .string E0, .string E0, .string E0, .bool false, .slice none 0 0] 26)).alloc (.cells #[.string ⟨#[114, 101]⟩, I 1, I 1, I 0, I 0] 210)).alloc (.cells #[I 7, I 1, I 0, I 0, I 0, .string E0, .string E0, .string E0, .bool false, .slice none 0 0] 26))) := ((Ry.new h.Q0.1 [I 0, I 0, I 0, I 0, I 0, .string E0, .string E0, .string E0, .bool false, .slice none 0 0] 26).G (((G.refl _).alloc _).alloc _))
  have HF0 : Hid (Ry rb [.string ⟨#[114, 101]⟩, I 1, I 1, I 0, I 0] (W.heap.size + 1) (((W.alloc (.cells #[I 0, I 0, I 0, I 0, I 0, .string E0, .string E0, .string E0, .bool false, .slice none 0 0] 26)).alloc (.cells #[.string ⟨#[114, 101]⟩, I 1, I 1, I 0, I 0] 210)).alloc (.cells #[I 7, I 1, I 0, I 0, I 0, .string E0, .string E0, .string E0, .bool false, .slice none 0 0] 26))) := by
    have := (Ry.new (w := W.alloc (.cells #[I 0, I 0, I 0, I 0, I 0, .string E0, .string E0, .string E0, .bool false, .slice none 0 0] 26)) (rb := rb) (by have := h.Q0.1; simp; omega) [.string ⟨#[114, 101]⟩, I 1, I 1, I 0, I 0] 210).G ((G.refl _).alloc (.cells #[I 7, I 1, I 0, I 0, I 0, .string E0, .string E0, .string E0, .bool false, .slice none 0 0] 26))
    rwa [World.size_alloc] at this
  have HE0 : Hid (Ry rb [I 7, I 1, I 0, I 0, I 0, .string E0, .string E0, .string E0, .bool false, .slice none 0 0] (W.heap.size + 1 + 1) (((W.alloc (.cells #[I 0, I 0, I 0, I 0, I 0, .string E0, .string E0, .string E0, .bool false, .slice none 0 0] 26)).alloc (.cells #[.string ⟨#[114, 101]⟩, I 1, I 1, I 0, I 0] 210)).alloc (.cells #[I 7, I 1, I 0, I 0, I 0, .string E0, .string E0, .string E0, .bool false, .slice none 0 0] 26))) := by
    have := Ry.new (w := (W.alloc (.cells #[I 0, I 0, I 0, I 0, I 0, .string E0, .string E0, .string E0, .bool false, .slice none 0 0] 26)).alloc (.cells #[.string ⟨#[114, 101]⟩, I 1, I 1, I 0, I 0] 210)) (rb := rb) (by have := h.Q0.1; simp; omega) [I 7, I 1, I 0, I 0, I 0, .string E0, .string E0, .string E0, .bool false, .slice none 0 0] 26
    rwa [World.size_alloc, World.size_alloc] at this
  have hga : G W (((W.alloc (.cells #[I 0, I 0, I 0, I 0, I 0, .string E0, .string E0, .string E0, .bool false, .slice none 0 0] 26)).alloc (.cells #[.string ⟨#[114, 101]⟩, I 1, I 1, I 0, I 0] 210)).alloc (.cells #[I 7, I 1, I 0, I 0, I 0, .string E0, .string E0, .string E0, .bool false, .slice none 0 0] 26)) := (((G.refl W).alloc _).alloc _).alloc _
  have HRW := xh h.Q0.1
  have HGN : Hid (W.heap.size ≠ g ∧ W.heap.size + 1 + 1 ≠ g) := by have := h.gl; exact ⟨by omega, by omega⟩
  have HR0 := xh (h.G hga)
  have HQ0 : Hid (Qr rb W (((W.alloc (.cells #[I 0, I 0, I 0, I 0, I 0, .string E0, .string E0, .string E0, .bool false, .slice none 0 0] 26)).alloc (.cells #[.string ⟨#[114, 101]⟩, I 1, I 1, I 0, I 0] 210)).alloc (.cells #[I 7, I 1, I 0, I 0, I 0, .string E0, .string E0, .string E0, .bool false, .slice none 0 0] 26))) := Qr.of hga
  have HGA := xh (g0.trans hga)
  have HG0 := xh g0
  have HRB := xh hr
  have HYY := xh hy
  have HYO := xh hyo
  have HZZ := xh hz
  have HZC := xh hzc
  have HCC := xh HC
  clear h g0 HC hF hr hy hyo hz hzc hga hga1 hrg
  go_enter Tryz.func137, Tryz.ntmps137
  go_wp2_with (first | (go_at_call 47; refine Hid.out ?_) | fail)
  unfold Hid
  obtain ⟨nb, hnb⟩ : ∃ nb, nb = W.heap.size := ⟨_, rfl⟩
  have HNB : Hid (W.heap.size = nb) := hnb.symm
  rw [← hnb] at HX0 HF0 HE0 HGN ⊢
  clear hnb c5 c6 c7 c8 c9
  generalize (((W.alloc (.cells #[I 0, I 0, I 0, I 0, I 0, .string E0, .string E0, .string E0, .bool false, .slice none 0 0] 26)).alloc (.cells #[.string ⟨#[114, 101]⟩, I 1, I 1, I 0, I 0] 210)).alloc (.cells #[I 7, I 1, I 0, I 0, I 0, .string E0, .string E0, .string E0, .bool false, .slice none 0 0] 26)) = wa at HX0 HF0 HE0 HR0 HQ0 HGA ⊢
  refine (need_yes HR0.out HYY.out ⟨#[40]⟩ HYO.out hl).mono ?_
  rintro e w1 ⟨rfl, hrd, hq⟩
  have HR1 := xh hrd
  have HX1 := xh (HX0.out.Q hq)
  have HF1 := xh (HF0.out.Q hq)
  have HE1 := xh (HE0.out.Q hq)
  have HQ1 := xh (HQ0.out.trans hq)
  have HG1 : Hid (G w0 w1) := hq.G HGA.out HRB.out
  clear hrd hq HR0 HX0 HF0 HE0 HQ0 HGA
  have hcf := HF1.out.c
  go_wp2_with (first | (go_at_call 153; refine Hid.out ?_) | fail)
  unfold Hid
  refine (exprs_1 HR1.out HG1.out HCC.out).mono ?_
  rintro e w2 ⟨⟨oo, sub, k, a, b, kp, kl, kc, kb, rfl, hkd, hkb, hdp⟩, hrd, hq⟩
  have HR2 := xh hrd
  have HX2 := xh (HX1.out.Q hq)
  have HF2 := xh (HF1.out.Q hq)
  have HE2 := xh (HE1.out.Q hq)
  have HQ2 := xh (HQ1.out.trans hq)
  have HKB : Hid (nb + 1 + 1 < kb) := by have := HE1.out.z; unfold Hid; omega
  have HKD := xh hkd
  have HD2 : Hid (Dp (nb + 1 + 1 + 1) w2 d (exV oo sub k a b kp kl kc)) := hdp.low (Nat.succ_le_of_lt HE1.out.z)
  clear hrd hq hkd hkb hdp hcf HR1 HX1 HF1 HE1 HQ1 HG1 HCC
  have hcf := HF2.out.c
  have hce := HE2.out.c
  have hfe := HE2.out.f
  have n1 : ¬ nb + 1 = nb + 1 + 1 := by omega
  have n2 : ¬ nb + 1 + 1 = nb + 1 := by omega
  go_wp2_with (first | (go_at_call 47; refine Hid.out ?_) | fail)
  unfold Hid
  have HE3 : Hid (Ry rb [I 7, I 1, I 0, I 0, I 0, .string E0, .string E0, .string E0, .bool false, .slice (some ⟨kb, 0, none⟩) 1 1] (nb + 1 + 1) (w2.setCell ⟨nb + 1 + 1, 9, none⟩ (.slice (some ⟨kb, 0, none⟩) 1 1))) := HE2.out.set 9 _ (by simp)
  have HX3 : Hid (Ry rb [I 0, I 0, I 0, I 0, I 0, .string E0, .string E0, .string E0, .bool false, .slice none 0 0] nb (w2.setCell ⟨nb + 1 + 1, 9, none⟩ (.slice (some ⟨kb, 0, none⟩) 1 1))) := HX2.out.far 9 _ (by omega)
  have HR3 := xh (HR2.out.set 9 (.slice (some ⟨kb, 0, none⟩) 1 1) HE2.out.n HGN.out.2)
  have HQ3 := xh (HQ2.out.set 9 (.slice (some ⟨kb, 0, none⟩) 1 1) (show W.heap.size ≤ nb + 1 + 1 by have := HNB.out; omega))
  have HD3 : Hid (Dp (nb + 1) (w2.setCell ⟨nb + 1 + 1, 9, none⟩ (.slice (some ⟨kb, 0, none⟩) 1 1)) (d + 1) (exV 7 1 0 0 0 (some ⟨kb, 0, none⟩) 1 1)) := ((Dp.un HKD.out HKB.out (Nat.le_refl _) (by decide) HD2.out).set 9 _ (Nat.lt_succ_self _)).low (by omega)
  clear hcf hce hfe n1 n2 HR2 HX2 HF2 HE2 HQ2 HKD HD2 HKB
  generalize w2.setCell ⟨nb + 1 + 1, 9, none⟩ (.slice (some ⟨kb, 0, none⟩) 1 1) = w3 at HE3 HX3 HR3 HQ3 HD3 ⊢
  refine (need_yes HR3.out HZZ.out ⟨#[41]⟩ HZC.out hl2).mono ?_
  rintro e w4 ⟨rfl, hrd, hq⟩
  have HR4 := xh hrd
  have HX4 := xh (HX3.out.Q hq)
  have HE4 := xh (HE3.out.Q hq)
  have HQ4 := xh (HQ3.out.trans hq)
  have HD4 := xh (HD3.out.Q hq (by have := HRW.out; have := HNB.out; omega))
  clear hrd hq HR3 HX3 HE3 HQ3 HD3
  have hcx := HX4.out.c
  have hfx := HX4.out.f
  have hce := HE4.out.c
  go_wp2
  refine bodyPost_ret (v := exV 7 1 0 0 0 (some ⟨kb, 0, none⟩) 1 1) (by simp [results, Tryz.results137, go_sem, hcx, exV]) rfl ⟨⟨7, 1, 0, 0, 0, some ⟨kb, 0, none⟩, 1, 1, rfl, by decide, ?_⟩, HR4.out.ten HX4.out.n HGN.out.1 _ _ _ _ _ _ _ _ _ _, HQ4.out.ten (Nat.le_of_eq HNB.out) _ _ _ _ _ _ _ _ _ _⟩
  exact (HD4.out.ten (Nat.lt_succ_self _) _ _ _ _ _ _ _ _ _ _).low (by have := HNB.out; omega)
end
open Go.RowKit

set_option maxRecDepth 100000 in
set_option maxHeartbeats 1000000 in
theorem name_re {rb g : Nat} {ts : List Tok} {i p : Nat} {W : World} (h : Rd rb g ts i W) (hx : ts[i]? = some ⟨1, sU [114, 101], p⟩) (hl : i + 1 < ts.length) : Calls Tryz.prog 107 #[ptr rb] W fun e W' => e = .returned (.string ⟨#[114, 101]⟩) ∧ Rd rb g ts (i + 1) W' ∧ Qr rb W W' := by
  have HR := xh h
  have HX := xh hx
  have hft : ∀ w : World, (Instr.field 60 (.agg #[I 1, .string ⟨#[114, 101]⟩, I p]) 1).run Tryz.prog w = .ok (.string ⟨#[114, 101]⟩) w := fun _ => by kernel_rfl
  clear h hx
  go_enter Tryz.func107, Tryz.ntmps107
  go_wp2_with (first | (go_at_call 76; refine Hid.out ?_) | fail)
  unfold Hid
  refine (atName_any HR.out HX.out).mono ?_
  rintro e w1 ⟨rfl, hg⟩
  have HR1 := xh (HR.out.G hg)
  have HQ1 : Hid (Qr rb W w1) := Qr.of hg
  clear hg HR
  go_wp2_with (first | (go_at_call 32; refine Hid.out ?_) | fail)
  unfold Hid
  refine (must_yes _).mono ?_
  rintro e w1' ⟨rfl, rfl⟩
  go_wp2_with (first | (go_at_call 65; refine Hid.out ?_) | fail)
  unfold Hid
  refine (pass_any HR1.out HX.out hl).mono ?_
  rintro e w3 ⟨rfl, hrd, hq⟩
  have HR3 := xh hrd
  have HQ3 := xh (HQ1.out.trans hq)
  clear hrd hq HR1 HQ1
  have hs : sU [114, 101] = ⟨#[114, 101]⟩ := rfl
  simp only [tkA]
  rw [hs]
  clear hs
  go_wp2
  go_ret
  exact ⟨rfl, HR3.out, HQ3.out⟩
set_option maxRecDepth 100000 in
set_option maxHeartbeats 1000000 in
theorem aa_name {rb g : Nat} {ts : List Tok} {i p : Nat} {W : World} (h : Rd rb g ts i W) (hx : ts[i]? = some ⟨1, sU [114, 101], p⟩) : Calls Tryz.prog 108 #[ptr rb] W fun e W' => e = .returned (.bool true) ∧ G W W' := by
  have HN := xh (next_any h hx)
  clear h hx
  have hfd : ∀ w : World, (Instr.field 60 (.agg #[I 1, .string (sU [114, 101]), I p]) 0).run Tryz.prog w = .ok (I 1) w := fun _ => by kernel_rfl
  go_enter Tryz.func108, Tryz.ntmps108
  go_wp2_with (first | (go_at_call 16; refine Hid.out ?_) | fail)
  unfold Hid
  refine HN.out.mono ?_
  rintro e w1 ⟨rfl, hg⟩
  have HG1 := xh hg
  clear hg HN
  simp only [tkA]
  go_wp2
  go_ret
  exact ⟨rfl, HG1.out⟩
set_option maxRecDepth 100000 in
set_option maxHeartbeats 1000000 in
theorem named_re {w0 : World} (hF : FnV w0) {rb g : Nat} (hr : w0.heap.size ≤ rb) {ts : List Tok} {i j d p : Nat} (hx : ts[i]? = some ⟨1, sU [114, 101], p⟩) {y : Tok} (hy : ts[i + 1]? = some y) (hyo : seB y ⟨#[40]⟩ = true) {W : World} (h : Rd rb g ts i W) (g0 : G w0 W) (HC : ∀ W, Rd rb g ts (i + 1) W → G w0 W → Calls Tryz.prog 137 #[ptr rb, .int .i64 1] W fun e W' => (∃ oo sub k a b kp kl kc, e = .returned (exV oo sub k a b kp kl kc) ∧ ¬ oo = 0 ∧ Dp W.heap.size W' d (exV oo sub k a b kp kl kc)) ∧ Rd rb g ts j W' ∧ Qr rb W W') : Calls Tryz.prog 120 #[ptr rb] W fun e W' => (∃ oo sub k a b kp kl kc, e = .returned (exV oo sub k a b kp kl kc) ∧ ¬ oo = 0 ∧ Dp W.heap.size W' d (exV oo sub k a b kp kl kc)) ∧ Rd rb g ts j W' ∧ Qr rb W W' := by
  have HX0 := xh (Rx.new (w := W) h.Q0.1)
  have HGN := xh h.Q0.2
  have HR0 := xh (h.G ((G.refl W).alloc (.cells #[I 0, I 0, I 0, I 0, I 0, .string E0, .string E0, .string E0, .bool false, .slice none 0 0] 26)))
  have HNA : Hid (W.heap.size < (W.alloc (.cells #[I 0, I 0, I 0, I 0, I 0, .string E0, .string E0, .string E0, .bool false, .slice none 0 0] 26)).heap.size) := by unfold Hid; simp
  have HGA := xh (g0.trans ((G.refl W).alloc (.cells #[I 0, I 0, I 0, I 0, I 0, .string E0, .string E0, .string E0, .bool false, .slice none 0 0] 26)))
  have HXX := xh hx
  have HYY := xh hy
  have HYO := xh hyo
  have HCC := xh HC
  have HRB := xh hr
  have HFF := xh hF
  have HL1 : Hid (i + 1 < ts.length) := (List.getElem?_eq_some_iff.1 hy).1
  clear h g0 HC hx hy hyo hr hF
  go_enter Tryz.func120, Tryz.ntmps120
  go_wp2_with (first | (go_at_call 107; refine Hid.out ?_) | fail)
  unfold Hid
  generalize W.alloc (.cells #[I 0, I 0, I 0, I 0, I 0, .string E0, .string E0, .string E0, .bool false, .slice none 0 0] 26) = wa at HX0 HR0 HGA HNA ⊢
  refine (name_re HR0.out HXX.out HL1.out).mono ?_
  rintro e w1 ⟨rfl, hrd, hq⟩
  have HR1 := xh hrd
  have HX1 := xh (HX0.out.Q hq)
  have HG1 : Hid (G w0 w1) := hq.G HGA.out HRB.out
  have HS1 : Hid (W.heap.size < w1.heap.size) := Nat.lt_of_lt_of_le HNA.out hq.size
  clear hrd hq HR0 HX0 HGA HNA
  have HSE := xh (sees_any HR1.out HYY.out ⟨#[40]⟩)
  rw [HYO.out] at HSE
  go_wp2_with (first | (go_at_call 26; refine Hid.out ?_) | fail)
  unfold Hid
  refine HSE.out.mono ?_
  rintro e w2 ⟨rfl, hg⟩
  have HR2 := xh (HR1.out.G hg)
  have HX2 := xh (HX1.out.G hg)
  have HG2 := xh (HG1.out.trans hg)
  have HS2 : Hid (W.heap.size < w2.heap.size) := Nat.lt_of_lt_of_le HS1.out hg.size
  clear hg HR1 HX1 HG1 HS1 HSE
  go_wp2_with (first | (go_at_call 136; refine Hid.out ?_) | fail)
  unfold Hid
  refine (fo_re HFF.out HG2.out).mono ?_
  rintro e w3 ⟨rfl, hg⟩
  have HR3 := xh (HR2.out.G hg)
  have HX3 := xh (HX2.out.G hg)
  have HG3 := xh (HG2.out.trans hg)
  have HS3 : Hid (W.heap.size < w3.heap.size) := Nat.lt_of_lt_of_le HS2.out hg.size
  clear hg HR2 HX2 HG2 HS2
  go_wp2_with (first | (go_at_call 137; refine Hid.out ?_) | fail)
  unfold Hid
  refine (HCC.out _ HR3.out HG3.out).mono ?_
  rintro e w9 ⟨⟨oo, sub, k, a, b, kp, kl, kc, rfl, hoo, hdp⟩, hrd, hq⟩
  have HR9 := xh hrd
  have HX9 := xh (HX3.out.Q hq)
  have HD9 := xh (hdp.low (Nat.succ_le_of_lt HS3.out))
  have HOO := xh hoo
  clear hrd hq hdp hoo HR3 HX3 HG3 HS3 HCC
  simp only [exV]
  have hcr := HX9.out.c
  have hfr := HX9.out.f
  go_wp2
  refine bodyPost_ret (v := exV oo sub k a b kp kl kc) (by simp [results, Tryz.results120, go_sem, hcr, exV]) rfl ⟨⟨oo, sub, k, a, b, kp, kl, kc, rfl, HOO.out, (HD9.out.ten (Nat.lt_succ_self _) _ _ _ _ _ _ _ _ _ _).low (Nat.le_succ _)⟩, HR9.out.ten HX9.out.n HGN.out _ _ _ _ _ _ _ _ _ _, HX9.out.q.ten (Nat.le_refl _) _ _ _ _ _ _ _ _ _ _⟩
set_option maxRecDepth 100000 in
set_option maxHeartbeats 1000000 in
theorem atom_re {w0 : World} {rb g : Nat} (hr : w0.heap.size ≤ rb) {ts : List Tok} {i j d p : Nat} (hx : ts[i]? = some ⟨1, sU [114, 101], p⟩) {W : World} (h : Rd rb g ts i W) (g0 : G w0 W) (HC : ∀ W, Rd rb g ts i W → G w0 W → Calls Tryz.prog 120 #[ptr rb] W fun e W' => (∃ oo sub k a b kp kl kc, e = .returned (exV oo sub k a b kp kl kc) ∧ ¬ oo = 0 ∧ Dp W.heap.size W' d (exV oo sub k a b kp kl kc)) ∧ Rd rb g ts j W' ∧ Qr rb W W') : Calls Tryz.prog 99 #[ptr rb] W fun e W' => (∃ oo sub k a b kp kl kc, e = .returned (exV oo sub k a b kp kl kc) ∧ ¬ oo = 0 ∧ Dp W.heap.size W' d (exV oo sub k a b kp kl kc)) ∧ Rd rb g ts j W' ∧ Qr rb W W' := by
  have HX0 := xh (Rx.new (w := W) h.Q0.1)
  have HGN := xh h.Q0.2
  have HR0 := xh (h.G ((G.refl W).alloc (.cells #[I 0, I 0, I 0, I 0, I 0, .string E0, .string E0, .string E0, .bool false, .slice none 0 0] 26)))
  have HNA : Hid (W.heap.size < (W.alloc (.cells #[I 0, I 0, I 0, I 0, I 0, .string E0, .string E0, .string E0, .bool false, .slice none 0 0] 26)).heap.size) := by unfold Hid; simp
  have HGA := xh (g0.trans ((G.refl W).alloc (.cells #[I 0, I 0, I 0, I 0, I 0, .string E0, .string E0, .string E0, .bool false, .slice none 0 0] 26)))
  have HXX := xh hx
  have HCC := xh HC
  have HRB := xh hr
  have hfd : ∀ w : World, (Instr.field 60 (.agg #[I 1, .string (sU [114, 101]), I p]) 0).run Tryz.prog w = .ok (I 1) w := fun _ => by kernel_rfl
  clear h g0 HC hx hr
  go_enter Tryz.func99, Tryz.ntmps99
  go_wp2_with (first | (go_at_call 108; refine Hid.out ?_) | fail)
  unfold Hid
  generalize W.alloc (.cells #[I 0, I 0, I 0, I 0, I 0, .string E0, .string E0, .string E0, .bool false, .slice none 0 0] 26) = wa at HX0 HR0 HGA HNA ⊢
  refine (aa_name HR0.out HXX.out).mono ?_
  rintro e w1 ⟨rfl, hg⟩
  have HR1 := xh (HR0.out.G hg)
  have HX1 := xh (HX0.out.G hg)
  have HG1 := xh (HGA.out.trans hg)
  have HS1 : Hid (W.heap.size < w1.heap.size) := Nat.lt_of_lt_of_le HNA.out hg.size
  clear hg HR0 HX0 HGA HNA
  go_wp2_with (first | (go_at_call 32; refine Hid.out ?_) | fail)
  unfold Hid
  refine (must_yes _).mono ?_
  rintro e w1' ⟨rfl, rfl⟩
  go_wp2_with (first | (go_at_call 16; refine Hid.out ?_) | fail)
  unfold Hid
  refine (next_any HR1.out HXX.out).mono ?_
  rintro e w2 ⟨rfl, hg⟩
  have HR2 := xh (HR1.out.G hg)
  have HX2 := xh (HX1.out.G hg)
  have HG2 := xh (HG1.out.trans hg)
  have HS2 : Hid (W.heap.size < w2.heap.size) := Nat.lt_of_lt_of_le HS1.out hg.size
  clear hg HR1 HX1 HG1 HS1
  simp only [tkA]
  go_wp2_with (first | (go_at_call 120; refine Hid.out ?_) | fail)
  unfold Hid
  refine (HCC.out _ HR2.out HG2.out).mono ?_
  rintro e w9 ⟨⟨oo, sub, k, a, b, kp, kl, kc, rfl, hoo, hdp⟩, hrd, hq⟩
  have HR9 := xh hrd
  have HX9 := xh (HX2.out.Q hq)
  have HD9 := xh (hdp.low (Nat.succ_le_of_lt HS2.out))
  have HOO := xh hoo
  clear hrd hq hdp hoo HR2 HX2 HG2 HS2 HCC
  simp only [exV]
  have hcr := HX9.out.c
  have hfr := HX9.out.f
  go_wp2
  refine bodyPost_ret (v := exV oo sub k a b kp kl kc) (by simp [results, Tryz.results99, go_sem, hcr, exV]) rfl ⟨⟨oo, sub, k, a, b, kp, kl, kc, rfl, HOO.out, (HD9.out.ten (Nat.lt_succ_self _) _ _ _ _ _ _ _ _ _ _).low (Nat.le_succ _)⟩, HR9.out.ten HX9.out.n HGN.out _ _ _ _ _ _ _ _ _ _, HX9.out.q.ten (Nat.le_refl _) _ _ _ _ _ _ _ _ _ _⟩
end
open Go.RowKit

theorem re_any {w0 : World} (hO : OpV w0) (hF : FnV w0) {rb g : Nat} (hr : w0.heap.size ≤ rb) {ts : List Tok} {y : Tok} (hn : NumT y) (hN : decN y.t.data.toList ≤ 9223372036854775807) : ∀ (m i : Nat), (∀ q, q < m → (∃ p, ts[i + 2 * q]? = some ⟨1, sU [114, 101], p⟩) ∧ ∃ p, ts[i + 2 * q + 1]? = some ⟨6, sU [40], p⟩) → ts[i + 2 * m]? = some y → (∀ q, q < m → ∃ p, ts[i + 2 * m + 1 + q]? = some ⟨6, sU [41], p⟩) → (∃ x, ts[i + 3 * m + 1]? = some x ∧ StopT x) → ∀ W, Rd rb g ts i W → G w0 W → Calls Tryz.prog 17 #[ptr rb] W fun e W' => (∃ oo sub k a b kp kl kc, e = .returned (exV oo sub k a b kp kl kc) ∧ ¬ oo = 0 ∧ Dp W.heap.size W' (m + 1) (exV oo sub k a b kp kl kc)) ∧ Rd rb g ts (i + 3 * m + 1) W' ∧ Qr rb W W'
  | 0, i, _, h2, _, ⟨x, hx, hst⟩ => by
    have hl := (List.getElem?_eq_some_iff.1 hx).1
    exact ex_of_atom hO hr h2 (seB_num (.inl hn.k) _) (seB_num (.inl hn.k) _) hx hst (atom_lit h2 hn hN (by omega))
  | m + 1, i, h1, h2, h3, ⟨x, hx, hst⟩ => by
    have hl := (List.getElem?_eq_some_iff.1 hx).1
    obtain ⟨⟨p0, hp0⟩, p2, hp2⟩ := h1 0 (by omega)
    obtain ⟨p1, hp1⟩ := h3 m (by omega)
    have hin := re_any hO hF (rb := rb) (g := g) hr hn hN m (i + 2) (fun q hq => by
      obtain ⟨⟨p, hp⟩, p', hp'⟩ := h1 (q + 1) (by omega)
      exact ⟨⟨p, by rw [show i + 2 + 2 * q = i + 2 * (q + 1) by omega]; exact hp⟩, p', by rw [show i + 2 + 2 * q + 1 = i + 2 * (q + 1) + 1 by omega]; exact hp'⟩) (by rw [show i + 2 + 2 * m = i + 2 * (m + 1) by omega]; exact h2) (fun q hq => by
      obtain ⟨p, hp⟩ := h3 q (by omega)
      exact ⟨p, by rw [show i + 2 + 2 * m + 1 + q = i + 2 * (m + 1) + 1 + q by omega]; exact hp⟩) ⟨⟨6, sU [41], p1⟩, by rw [show i + 2 + 3 * m + 1 = i + 2 * (m + 1) + 1 + m by omega]; exact hp1, stop_k [41] 6 p1 (by decide) (by decide) (by decide)⟩
    rw [show i + 2 + 3 * m + 1 = i + 3 * (m + 1) by omega] at hin
    refine ex_of_atom hO hr (y := ⟨1, sU [114, 101], p0⟩) hp0 (seB_w [114, 101] [110, 111, 116] 1 p0 (by decide)) (seB_w [114, 101] [45] 1 p0 (by decide)) hx hst (fun _ h g0 => ?_)
    refine atom_re hr hp0 h g0 fun _ h g0 => named_re hF hr hp0 (y := ⟨6, sU [40], p2⟩) hp2 (seB_t [40] 6 p2 rfl) h g0 fun _ h g0 => ?_
    exact call_re hF hr (y := ⟨6, sU [40], p2⟩) (z := ⟨6, sU [41], p1⟩) hp2 (seB_t [40] 6 p2 rfl) (by omega) (by rw [show i + 3 * (m + 1) = i + 2 * (m + 1) + 1 + m by omega]; exact hp1) (seB_t [41] 6 p1 rfl) hl h g0 hin
end
open Go.RowKit Go.Lib

theorem tk_mk (c : UInt8) (r : List UInt8) (hc : c = 40 ∨ c = 41 ∨ c = 43) : Tk NQ ([c] ++ r) (.tok 6 (sU [c]) 1) := by
  have h2 : mk2 (c :: r) = false := by
    rcases hc with rfl | rfl | rfl <;> cases r <;> simp [mk2]
  have h39 : ¬ c.toNat = 39 := by rcases hc with rfl | rfl | rfl <;> decide
  show (if c.toNat = 39 then _ else _)
  rw [if_neg h39]
  show _ = tkN c (c :: r)
  unfold tkN mkT
  rw [h2]
  rcases hc with rfl | rfl | rfl <;> rfl
theorem lx_mk {l r : List UInt8} {j : Nat} {o : Out} (c : UInt8) (hc : c = 40 ∨ c = 41 ∨ c = 43) (hg : Gd r) (h : l.drop j = c :: r) (hn : l.drop (j + 1) = r → Lx NQ l (j + 1) o) : Lx NQ l j (o.app [⟨6, sU [c], j⟩]) :=
  lx_go (l := l) (tk := [c]) (bl := []) (d := r) (j := j) (m := 1) (by simpa using h) rfl (tk_mk c _ hc) hg.z hn
theorem lx_mk_sp {l r : List UInt8} {j : Nat} {o : Out} (c : UInt8) (hc : c = 40 ∨ c = 41 ∨ c = 43) (hg : Gd r) (h : l.drop j = c :: 32 :: r) (hn : l.drop (j + 1 + 1) = r → Lx NQ l (j + 1 + 1) o) : Lx NQ l j (o.app [⟨6, sU [c], j⟩]) :=
  lx_go (l := l) (tk := [c]) (bl := [32]) (d := r) (j := j) (m := 1) (by simpa using h) rfl (tk_mk c _ hc) hg.s hn
theorem tk_49 (r : List UInt8) (hr : r = [] ∨ ∃ c t, r = c :: t ∧ (c = 32 ∨ c = 41)) : Tk NQ ([49] ++ r) (.tok 3 (sU [49]) 1) := by
  have hs : spn xD ([49] ++ r) = 1 := spn_app [49] r (fun c hc => by simp at hc; subst hc; decide) (fun c hc => by
    rcases hr with rfl | ⟨c', t, rfl, rfl | rfl⟩ <;> simp at hc <;> subst hc <;> decide)
  have him : imB ([49] ++ r) = false := by
    unfold imB
    rw [hs]
    rcases hr with rfl | ⟨c', t, rfl, rfl | rfl⟩ <;> simp
  have hnu : nuT ([49] ++ r) = .tok 3 (sU [49]) 1 := by
    unfold nuT
    rw [him, hs, show ([49] ++ r : List UInt8).take 1 = ([49] : List UInt8) from rfl, if_neg (by decide), if_neg (by decide), if_neg (by
      rcases hr with rfl | ⟨c', t, rfl, rfl | rfl⟩ <;> simp <;> decide)]
  show _ = tkN 49 (49 :: r)
  exact hnu.symm
theorem lx_one_mk {l r : List UInt8} {j : Nat} {o : Out} (hg : Gd r) (hr : r = [] ∨ ∃ t, r = 41 :: t) (h : l.drop j = 49 :: r) (hn : l.drop (j + 1) = r → Lx NQ l (j + 1) o) : Lx NQ l j (o.app [⟨3, sU [49], j⟩]) :=
  lx_go (l := l) (tk := [49]) (bl := []) (d := r) (j := j) (m := 1) (by simpa using h) rfl (tk_49 _ (by
    rcases hr with rfl | ⟨t, rfl⟩
    · exact .inl rfl
    · exact .inr ⟨41, t, rfl, .inr rfl⟩)) hg.z hn
theorem tk_re (r : List UInt8) : Tk NQ ([114, 101] ++ 40 :: r) (.tok 1 (sU [114, 101]) 2) := by
  have hs : spn xW ([114, 101] ++ 40 :: r) = 2 := spn_app [114, 101] (40 :: r) (by decide) (fun c hc => by simp at hc; subst hc; decide)
  have hnm : nmT ([114, 101] ++ 40 :: r) = .tok 1 (sU [114, 101]) 2 := by
    unfold nmT
    rw [hs]
    rfl
  show _ = tkN 114 (114 :: 101 :: 40 :: r)
  exact hnm.symm
theorem lx_re {l r : List UInt8} {j : Nat} {o : Out} (h : l.drop j = 114 :: 101 :: 40 :: r) (hn : l.drop (j + 2) = 40 :: r → Lx NQ l (j + 2) o) : Lx NQ l j (o.app [⟨1, sU [114, 101], j⟩]) :=
  lx_go (l := l) (tk := [114, 101]) (bl := []) (d := 40 :: r) (j := j) (m := 2) (by simpa using h) rfl (tk_re r) (Gd.z (Gd.w 40 r (by decide))) hn
end
open Go.RowKit Go.Lib

def rpL (m : Nat) (x : List UInt8) : List UInt8 := (List.replicate m x).flatten
theorem rpL_succ (m : Nat) (x : List UInt8) : rpL (m + 1) x = x ++ rpL m x := by unfold rpL; rw [List.replicate_succ, List.flatten_cons]
theorem rpL_snoc (x : List UInt8) : ∀ m : Nat, rpL (m + 1) x = rpL m x ++ x
  | 0 => by simp [rpL]
  | m + 1 => by rw [rpL_succ, rpL_snoc x m, ← List.append_assoc, ← rpL_succ, rpL_snoc x m]
theorem rpL_len (x : List UInt8) : ∀ m : Nat, (rpL m x).length = m * x.length
  | 0 => by simp [rpL]
  | m + 1 => by rw [rpL_succ, List.length_append, rpL_len x m, Nat.succ_mul]; omega
def smL (m : Nat) : List UInt8 := 49 :: rpL m [32, 43, 32, 49]
def ntL (m : Nat) : List UInt8 := rpL m [110, 111, 116, 32] ++ [49]
def brL (m k : Nat) : List UInt8 := List.replicate m 40 ++ 49 :: List.replicate k 41
def reL (m k : Nat) : List UInt8 := rpL m [114, 101, 40] ++ 49 :: List.replicate k 41
theorem smL_succ (m : Nat) : smL (m + 1) = smL m ++ [32, 43, 32, 49] := by unfold smL; rw [rpL_snoc]; rfl
theorem ntL_succ (m : Nat) : ntL (m + 1) = [110, 111, 116, 32] ++ ntL m := by unfold ntL; rw [rpL_succ, List.append_assoc]
theorem brL_succ (m : Nat) : brL (m + 1) (m + 1) = [40] ++ brL m m ++ [41] := by
  unfold brL
  rw [List.replicate_succ (a := (40 : UInt8)), List.replicate_succ' (a := (41 : UInt8))]; simp
theorem reL_succ (m : Nat) : reL (m + 1) (m + 1) = [114, 101, 40] ++ reL m m ++ [41] := by
  unfold reL
  rw [rpL_succ, List.replicate_succ' (a := (41 : UInt8))]; simp
theorem smL_len (m : Nat) : (smL m).length = 4 * m + 1 := by unfold smL; rw [List.length_cons, rpL_len]; simp; omega
theorem ntL_len (m : Nat) : (ntL m).length = 4 * m + 1 := by unfold ntL; rw [List.length_append, rpL_len]; simp; omega
theorem brL_len (m k : Nat) : (brL m k).length = m + k + 1 := by unfold brL; simp; omega
theorem reL_len (m k : Nat) : (reL m k).length = 3 * m + k + 1 := by unfold reL; rw [List.length_append, rpL_len]; simp; omega
theorem smL_gd (m : Nat) : Gd (smL m) := Gd.w 49 _ (by decide)
theorem ntL_gd (m : Nat) : Gd (ntL m) := by
  cases m with
  | zero => exact Gd.w 49 _ (by decide)
  | succ m => rw [ntL_succ]; exact Gd.w 110 _ (by decide)
theorem brL_gd (m k : Nat) : Gd (brL m k) := by
  cases m with
  | zero => exact Gd.w 49 _ (by decide)
  | succ m => exact Gd.w 40 _ (by decide)
theorem reL_gd (m k : Nat) : Gd (reL m k) := by
  cases m with
  | zero => exact Gd.w 49 _ (by decide)
  | succ m => unfold reL; rw [rpL_succ]; exact Gd.w 114 _ (by decide)
theorem clL_gd (k : Nat) : Gd (List.replicate k 41) := by
  cases k with
  | zero => exact .inl rfl
  | succ k => exact Gd.w 41 _ (by decide)
theorem skN_bl (d : List UInt8) (h : Gd d) : ∀ b : Nat, skN false (List.replicate b 32 ++ d) = b
  | 0 => h.z
  | b + 1 => by
    have hb : xB 32 = true := by decide
    rw [List.replicate_succ, List.cons_append]
    simp only [skN, hb, if_true, skN_bl d h b]
    omega
theorem skp_bl (d : List UInt8) (h : Gd d) (b : Nat) : skp (List.replicate b 32 ++ d) 0 = b := by unfold skp; rw [List.drop_zero, skN_bl d h b]; omega
theorem drop_bl (d : List UInt8) (b : Nat) : (List.replicate b 32 ++ d).drop b = d := by
  rw [List.drop_append_of_le_length (by simp)]; simp
theorem lx_sum : ∀ (m : Nat) (l : List UInt8) (j : Nat), l.drop j = smL m → ∃ ts, Lx NQ l j (.ok ts) ∧ ts.length = 2 * m + 2 ∧ (∃ x, ts[0]? = some x ∧ x.p = j) ∧ (∀ q, q ≤ m → ∃ p, ts[2 * q]? = some (tN [49] p)) ∧ (∀ q, q < m → ∃ p, ts[2 * q + 1]? = some ⟨6, sU [43], p⟩) ∧ ∃ p, ts[2 * m + 1]? = some (tE p)
  | 0, l, j, h => ⟨_, lx_num_end one_ds (by decide) (by decide) h, rfl, ⟨_, rfl, rfl⟩, fun q hq => ⟨j, by rw [show q = 0 by omega]; rfl⟩, fun q hq => absurd hq (by omega), _, rfl⟩
  | m + 1, l, j, h => by
    have hg : Gd (smL m) := smL_gd m
    have h1 : l.drop j = [49] ++ 32 :: (43 :: 32 :: smL m) := by rw [h]; unfold smL; rw [rpL_succ]; rfl
    have h2 : l.drop (j + 1 + 1) = 43 :: 32 :: smL m := by
      rw [Nat.add_assoc, ← List.drop_drop, h1]; rfl
    have h3 : l.drop (j + 1 + 1 + 1 + 1) = smL m := by
      rw [show j + 1 + 1 + 1 + 1 = (j + 1 + 1) + 2 by omega, ← List.drop_drop, h2]; rfl
    obtain ⟨ts, hL, hn, ⟨x, -, -⟩, ha, hb, p, hp⟩ := lx_sum m l (j + 1 + 1 + 1 + 1) h3
    have hL2 := lx_mk_sp (l := l) (o := .ok ts) 43 (.inr (.inr rfl)) hg h2 (fun _ => hL)
    have hL3 := lx_num_sp (l := l) (j := j) (ds := [49]) one_ds (by decide) (by decide) (Gd.w 43 _ (by decide)) h1 (fun _ => hL2)
    refine ⟨_, hL3, by show ts.length + 1 + 1 = _; omega, ⟨_, rfl, rfl⟩, fun q hq => ?_, fun q hq => ?_, p, ?_⟩
    · cases q with
      | zero => exact ⟨j, rfl⟩
      | succ q => exact ha q (by omega)
    · cases q with
      | zero => exact ⟨j + 1 + 1, rfl⟩
      | succ q => exact hb q (by omega)
    · exact hp
theorem lx_nots : ∀ (m : Nat) (l : List UInt8) (j : Nat), l.drop j = ntL m → ∃ ts, Lx NQ l j (.ok ts) ∧ ts.length = m + 2 ∧ (∃ x, ts[0]? = some x ∧ x.p = j) ∧ (∀ q, q < m → ∃ p, ts[q]? = some ⟨2, sU [110, 111, 116], p⟩) ∧ (∃ p, ts[m]? = some (tN [49] p)) ∧ ∃ p, ts[m + 1]? = some (tE p)
  | 0, l, j, h => ⟨_, lx_num_end one_ds (by decide) (by decide) h, rfl, ⟨_, rfl, rfl⟩, fun q hq => absurd hq (by omega), ⟨_, rfl⟩, _, rfl⟩
  | m + 1, l, j, h => by
    have h1 : l.drop j = [110, 111, 116] ++ 32 :: ntL m := by rw [h, ntL_succ]; rfl
    have h3 : l.drop (j + 3 + 1) = ntL m := by
      rw [Nat.add_assoc, ← List.drop_drop, h1]; rfl
    obtain ⟨ts, hL, hn, ⟨x, -, -⟩, ha, hb, p, hp⟩ := lx_nots m l (j + 3 + 1) h3
    have hL3 := lx_word (l := l) (j := j) (o := .ok ts) [110, 111, 116] (by decide) (by decide) (by decide) (by decide) (ntL_gd m) h1 (fun _ => hL)
    refine ⟨_, hL3, by show ts.length + 1 = _; omega, ⟨_, rfl, rfl⟩, fun q hq => ?_, hb, p, hp⟩
    cases q with
    | zero => exact ⟨j, rfl⟩
    | succ q => exact ha q (by omega)
theorem lx_cl : ∀ (k : Nat) (l : List UInt8) (j : Nat), l.drop j = List.replicate k 41 → ∃ ts, Lx NQ l j (.ok ts) ∧ ts.length = k + 1 ∧ (∀ q, q < k → ∃ p, ts[q]? = some ⟨6, sU [41], p⟩) ∧ ∃ p, ts[k]? = some (tE p)
  | 0, l, j, h => ⟨_, Lx.fin (List.drop_eq_nil_iff.1 h), rfl, fun q hq => absurd hq (by omega), _, rfl⟩
  | k + 1, l, j, h => by
    have h1 : l.drop j = 41 :: List.replicate k 41 := h
    have h3 : l.drop (j + 1) = List.replicate k 41 := by
      rw [← List.drop_drop, h1]; rfl
    obtain ⟨ts, hL, hn, ha, p, hp⟩ := lx_cl k l (j + 1) h3
    have hL3 := lx_mk (l := l) (j := j) (o := .ok ts) 41 (.inr (.inl rfl)) (clL_gd k) h1 (fun _ => hL)
    refine ⟨_, hL3, by show ts.length + 1 = _; omega, fun q hq => ?_, p, hp⟩
    cases q with
    | zero => exact ⟨j, rfl⟩
    | succ q => exact ha q (by omega)
theorem lx_1cl (k : Nat) (l : List UInt8) (j : Nat) (h : l.drop j = 49 :: List.replicate k 41) : ∃ ts, Lx NQ l j (.ok ts) ∧ ts.length = k + 2 ∧ ts[0]? = some (tN [49] j) ∧ (∀ q, q < k → ∃ p, ts[1 + q]? = some ⟨6, sU [41], p⟩) ∧ ∃ p, ts[1 + k]? = some (tE p) := by
  have h3 : l.drop (j + 1) = List.replicate k 41 := by
    rw [← List.drop_drop, h]; rfl
  obtain ⟨ts, hL, hn, ha, p, hp⟩ := lx_cl k l (j + 1) h3
  have hL3 := lx_one_mk (l := l) (j := j) (o := .ok ts) (clL_gd k) (by cases k with
    | zero => exact .inl rfl
    | succ k => exact .inr ⟨_, rfl⟩) h (fun _ => hL)
  refine ⟨_, hL3, by show ts.length + 1 = _; omega, rfl, fun q hq => ?_, p, ?_⟩
  · obtain ⟨p, hp⟩ := ha q hq
    exact ⟨p, by rw [Nat.add_comm]; exact hp⟩
  · rw [Nat.add_comm]; exact hp
theorem lx_br (k : Nat) : ∀ (m : Nat) (l : List UInt8) (j : Nat), l.drop j = brL m k → ∃ ts, Lx NQ l j (.ok ts) ∧ ts.length = m + k + 2 ∧ (∃ x, ts[0]? = some x ∧ x.p = j) ∧ (∀ q, q < m → ∃ p, ts[q]? = some ⟨6, sU [40], p⟩) ∧ (∃ p, ts[m]? = some (tN [49] p)) ∧ (∀ q, q < k → ∃ p, ts[m + 1 + q]? = some ⟨6, sU [41], p⟩) ∧ ∃ p, ts[m + 1 + k]? = some (tE p)
  | 0, l, j, h => by
    obtain ⟨ts, hL, hn, h0, ha, hp⟩ := lx_1cl k l j h
    exact ⟨ts, hL, by omega, ⟨_, h0, rfl⟩, fun q hq => absurd hq (by omega), ⟨j, h0⟩, by simpa using ha, by simpa using hp⟩
  | m + 1, l, j, h => by
    have h1 : l.drop j = 40 :: brL m k := h
    have h3 : l.drop (j + 1) = brL m k := by
      rw [← List.drop_drop, h1]; rfl
    obtain ⟨ts, hL, hn, ⟨x, -, -⟩, ha, hb, hc, p, hp⟩ := lx_br k m l (j + 1) h3
    have hL3 := lx_mk (l := l) (j := j) (o := .ok ts) 40 (.inl rfl) (brL_gd m k) h1 (fun _ => hL)
    refine ⟨_, hL3, by show ts.length + 1 = _; omega, ⟨_, rfl, rfl⟩, fun q hq => ?_, hb, fun q hq => ?_, p, ?_⟩
    · cases q with
      | zero => exact ⟨j, rfl⟩
      | succ q => exact ha q (by omega)
    · obtain ⟨p, hp⟩ := hc q hq
      exact ⟨p, by rw [show m + 1 + 1 + q = (m + 1 + q) + 1 by omega]; exact hp⟩
    · rw [show m + 1 + 1 + k = (m + 1 + k) + 1 by omega]; exact hp
theorem lx_res (k : Nat) : ∀ (m : Nat) (l : List UInt8) (j : Nat), l.drop j = reL m k → ∃ ts, Lx NQ l j (.ok ts) ∧ ts.length = 2 * m + k + 2 ∧ (∃ x, ts[0]? = some x ∧ x.p = j) ∧ (∀ q, q < m → (∃ p, ts[2 * q]? = some ⟨1, sU [114, 101], p⟩) ∧ ∃ p, ts[2 * q + 1]? = some ⟨6, sU [40], p⟩) ∧ (∃ p, ts[2 * m]? = some (tN [49] p)) ∧ (∀ q, q < k → ∃ p, ts[2 * m + 1 + q]? = some ⟨6, sU [41], p⟩) ∧ ∃ p, ts[2 * m + 1 + k]? = some (tE p)
  | 0, l, j, h => by
    obtain ⟨ts, hL, hn, h0, ha, hp⟩ := lx_1cl k l j h
    exact ⟨ts, hL, by omega, ⟨_, h0, rfl⟩, fun q hq => absurd hq (by omega), ⟨j, h0⟩, by simpa using ha, by simpa using hp⟩
  | m + 1, l, j, h => by
    have h1 : l.drop j = 114 :: 101 :: 40 :: reL m k := by rw [h]; unfold reL; rw [rpL_succ]; rfl
    have h2 : l.drop (j + 2) = 40 :: reL m k := by
      rw [← List.drop_drop, h1]; rfl
    have h3 : l.drop (j + 2 + 1) = reL m k := by
      rw [← List.drop_drop, h2]; rfl
    obtain ⟨ts, hL, hn, ⟨x, -, -⟩, ha, hb, hc, p, hp⟩ := lx_res k m l (j + 2 + 1) h3
    have hL2 := lx_mk (l := l) (j := j + 2) (o := .ok ts) 40 (.inl rfl) (reL_gd m k) h2 (fun _ => hL)
    have hL3 := lx_re (l := l) (j := j) h1 (fun _ => hL2)
    refine ⟨_, hL3, by show ts.length + 1 + 1 = _; omega, ⟨_, rfl, rfl⟩, fun q hq => ?_, hb, fun q hq => ?_, p, ?_⟩
    · cases q with
      | zero => exact ⟨⟨j, rfl⟩, j + 2, rfl⟩
      | succ q => exact ha q (by omega)
    · obtain ⟨p, hp⟩ := hc q hq
      exact ⟨p, by rw [show 2 * (m + 1) + 1 + q = (2 * m + 1 + q) + 1 + 1 by omega]; exact hp⟩
    · rw [show 2 * (m + 1) + 1 + k = (2 * m + 1 + k) + 1 + 1 by omega]; exact hp
end
open Go.RowKit Go.Lib

/-- What ParseExpr answers for an expression of depth d whose first token stands at p. -/
def DpA (d p : Nat) (e : Ending) : Prop := (d ≤ 24 → ∃ oo sub k a b kp kl kc, e = .returned (.tuple #[exV oo sub k a b kp kl kc, I 0, I 0]) ∧ ¬ oo = 0) ∧ (24 < d → e = .returned (.tuple #[.agg #[I 0, I 0, I 0, I 0, I 0, .string E0, .string E0, .string E0, .bool false, .slice none 0 0], I 103, I p]))
theorem pe_deep {u : ByteArray} {ts : List Tok} {w : World} {d j : Nat} (hE : Lxe w) (hs : u.size ≤ 4096) (h5 : ts.length ≤ 5000) (hL : Lx NQ u.data.toList (skp u.data.toList 0) (.ok ts)) {y : Tok} (hy : ts[0]? = some y) {x : Tok} (hx : ts[j]? = some x) (hk : x.k = 7)
    (HEX : ∀ rb g : Nat, w.heap.size ≤ rb → ∀ W, Rd rb g ts 0 W → G w W → Calls Tryz.prog 17 #[ptr rb] W fun e W' => (∃ oo sub k a b kp kl kc, e = .returned (exV oo sub k a b kp kl kc) ∧ ¬ oo = 0 ∧ Dp W.heap.size W' d (exV oo sub k a b kp kl kc)) ∧ Rd rb g ts j W' ∧ Qr rb W W') :
    Calls Tryz.prog 5 #[.string u] w fun e W' => DpA d y.p e ∧ G w W' := by
  have hl : 0 < ts.length := (List.getElem?_eq_some_iff.1 hy).1
  by_cases hd : d ≤ 24
  · refine (pe_y (fun W g => caux_y g (lex_ok hE hs hl hL) hl h5 hx hk (fun rb g' W hr h g0 => whole_y hd hy h g0 (HEX rb g' hr)))).mono ?_
    rintro e w' ⟨h, hg⟩
    exact ⟨⟨fun _ => h, fun hc => absurd hc (by omega)⟩, hg⟩
  · refine (pe_of 0 0 0 0 103 y.p (fun W g => caux_n g (lex_ok hE hs hl hL) hl h5 (fun rb g' W hr h g0 => whole_n (by omega) hy h g0 (HEX rb g' hr)))).mono ?_
    rintro e w' ⟨h, hg⟩
    exact ⟨⟨fun hc => absurd hc hd, fun _ => h⟩, hg⟩
theorem n49 (p : Nat) : NumT (tN [49] p) := numT p one_ds (by decide) (by decide) (by decide)
theorem d49 (p : Nat) : decN (tN [49] p).t.data.toList = 1 := by rw [sU_list]; rfl
theorem d49' (p : Nat) : decN (tN [49] p).t.data.toList ≤ 9223372036854775807 := by rw [d49]; decide
def blL (b : Nat) (t : List UInt8) : List UInt8 := List.replicate b 32 ++ t
theorem blL_len (b : Nat) (t : List UInt8) : (blL b t).length = b + t.length := by unfold blL; rw [List.length_append, List.length_replicate]
theorem pe_sum {w : World} (hE : Lxe w) (hO : OpV w) (b m : Nat) (hb : b ≤ 100) (hm : m < 300) : Calls Tryz.prog 5 #[.string (sU (blL b (smL m)))] w fun e W' => DpA (m + 1) b e ∧ G w W' := by
  obtain ⟨ts, hL, hn, ⟨y, hy, hyp⟩, ha, hc, p, hp⟩ := lx_sum m (blL b (smL m)) b (drop_bl _ _)
  suffices h : Calls Tryz.prog 5 #[.string (sU (blL b (smL m)))] w fun e W' => DpA (m + 1) y.p e ∧ G w W' by rw [hyp] at h; exact h
  refine pe_deep (ts := ts) (j := 0 + 2 * (m + 1 - 1) + 1) hE (by rw [sU_size, blL_len, smL_len]; omega) (by omega) (by rw [sU_list, show skp (blL b (smL m)) 0 = b from skp_bl _ (smL_gd m) b]; exact hL) hy (x := tE p) (by rw [show 0 + 2 * (m + 1 - 1) + 1 = 2 * m + 1 by omega]; exact hp) rfl (fun rb g hr => ?_)
  refine sums_any hO hr (by omega) (fun q hq => ?_) (fun q hq => ?_) (x := tE p) (by rw [show 0 + 2 * (m + 1 - 1) + 1 = 2 * m + 1 by omega]; exact hp) (stop_e p)
  · obtain ⟨p, hp⟩ := ha q (by omega)
    exact ⟨_, by rw [Nat.zero_add]; exact hp, n49 p, d49 p⟩
  · obtain ⟨p, hp⟩ := hc q (by omega)
    exact ⟨p, by rw [Nat.zero_add]; exact hp⟩
theorem pe_not {w : World} (hE : Lxe w) (hO : OpV w) (b m : Nat) (hb : b ≤ 100) (hm : m < 300) : Calls Tryz.prog 5 #[.string (sU (blL b (ntL m)))] w fun e W' => DpA (m + 1) b e ∧ G w W' := by
  obtain ⟨ts, hL, hn, ⟨y, hy, hyp⟩, ha, ⟨p1, hp1⟩, p, hp⟩ := lx_nots m (blL b (ntL m)) b (drop_bl _ _)
  suffices h : Calls Tryz.prog 5 #[.string (sU (blL b (ntL m)))] w fun e W' => DpA (m + 1) y.p e ∧ G w W' by rw [hyp] at h; exact h
  refine pe_deep (ts := ts) (j := 0 + m + 1) hE (by rw [sU_size, blL_len, ntL_len]; omega) (by omega) (by rw [sU_list, show skp (blL b (ntL m)) 0 = b from skp_bl _ (ntL_gd m) b]; exact hL) hy (x := tE p) (by rw [Nat.zero_add]; exact hp) rfl (fun rb g hr => ?_)
  refine nots_any hO hr (n49 p1) (d49' p1) m 0 (fun q hq => ?_) (by rw [Nat.zero_add]; exact hp1) (x := tE p) (by rw [Nat.zero_add]; exact hp) (stop_e p)
  obtain ⟨p, hp⟩ := ha q hq
  exact ⟨p, by rw [Nat.zero_add]; exact hp⟩
theorem pe_br {w : World} (hE : Lxe w) (hO : OpV w) (b m : Nat) (hb : b ≤ 100) (hm : m < 300) : Calls Tryz.prog 5 #[.string (sU (blL b (brL m m)))] w fun e W' => DpA 1 b e ∧ G w W' := by
  obtain ⟨ts, hL, hn, ⟨y, hy, hyp⟩, ha, ⟨p1, hp1⟩, hc, p, hp⟩ := lx_br m m (blL b (brL m m)) b (drop_bl _ _)
  suffices h : Calls Tryz.prog 5 #[.string (sU (blL b (brL m m)))] w fun e W' => DpA 1 y.p e ∧ G w W' by rw [hyp] at h; exact h
  refine pe_deep (ts := ts) (j := 0 + 2 * m + 1) hE (by rw [sU_size, blL_len, brL_len]; omega) (by omega) (by rw [sU_list, show skp (blL b (brL m m)) 0 = b from skp_bl _ (brL_gd m m) b]; exact hL) hy (x := tE p) (by rw [show 0 + 2 * m + 1 = m + 1 + m by omega]; exact hp) rfl (fun rb g hr => ?_)
  refine br_any hO hr (n49 p1) (d49' p1) m 0 (fun q hq => ?_) (by rw [Nat.zero_add]; exact hp1) (fun q hq => ?_) ⟨tE p, by rw [show 0 + 2 * m + 1 = m + 1 + m by omega]; exact hp, stop_e p⟩
  · obtain ⟨p, hp⟩ := ha q hq
    exact ⟨p, by rw [Nat.zero_add]; exact hp⟩
  · obtain ⟨p, hp⟩ := hc q hq
    exact ⟨p, by rw [Nat.zero_add]; exact hp⟩
theorem pe_re {w : World} (hE : Lxe w) (hO : OpV w) (hF : FnV w) (b m : Nat) (hb : b ≤ 100) (hm : m < 300) : Calls Tryz.prog 5 #[.string (sU (blL b (reL m m)))] w fun e W' => DpA (m + 1) b e ∧ G w W' := by
  obtain ⟨ts, hL, hn, ⟨y, hy, hyp⟩, ha, ⟨p1, hp1⟩, hc, p, hp⟩ := lx_res m m (blL b (reL m m)) b (drop_bl _ _)
  suffices h : Calls Tryz.prog 5 #[.string (sU (blL b (reL m m)))] w fun e W' => DpA (m + 1) y.p e ∧ G w W' by rw [hyp] at h; exact h
  refine pe_deep (ts := ts) (j := 0 + 3 * m + 1) hE (by rw [sU_size, blL_len, reL_len]; omega) (by omega) (by rw [sU_list, show skp (blL b (reL m m)) 0 = b from skp_bl _ (reL_gd m m) b]; exact hL) hy (x := tE p) (by rw [show 0 + 3 * m + 1 = 2 * m + 1 + m by omega]; exact hp) rfl (fun rb g hr => ?_)
  refine re_any hO hF hr (n49 p1) (d49' p1) m 0 (fun q hq => ?_) (by rw [Nat.zero_add]; exact hp1) (fun q hq => ?_) ⟨tE p, by rw [show 0 + 3 * m + 1 = 2 * m + 1 + m by omega]; exact hp, stop_e p⟩
  · obtain ⟨⟨p, hp⟩, p', hp'⟩ := ha q hq
    exact ⟨⟨p, by rw [Nat.zero_add]; exact hp⟩, p', by rw [Nat.zero_add]; exact hp'⟩
  · obtain ⟨p, hp⟩ := hc q hq
    exact ⟨p, by rw [Nat.zero_add]; exact hp⟩
theorem FnV.G {w W : World} (h : FnV w) (g : G w W) : FnV W := var_G g h
end
open Go.RowKit Go.Lib

theorem s_app (a b : List UInt8) : sU a ++ sU b = sU (a ++ b) := by
  apply ByteArray.ext; apply Array.ext'; simp [sU]
theorem s_lit (a : List UInt8) : (⟨a.toArray⟩ : ByteArray) = sU a := rfl
theorem bl_add (k : Nat) : sU (List.replicate k 32) ++ (⟨#[32]⟩ : ByteArray) = sU (List.replicate (k + 1) 32) := by
  rw [s_lit [32], s_app, List.replicate_succ']
theorem sm_add (k : Nat) : sU (smL k) ++ (⟨#[32, 43, 32, 49]⟩ : ByteArray) = sU (smL (k + 1)) := by
  rw [s_lit [32, 43, 32, 49], s_app, smL_succ]
theorem nt_add (k : Nat) : (⟨#[110, 111, 116, 32]⟩ : ByteArray) ++ sU (ntL k) = sU (ntL (k + 1)) := by
  rw [s_lit [110, 111, 116, 32], s_app, ntL_succ]
theorem br_add (k : Nat) : (⟨#[40]⟩ : ByteArray) ++ sU (brL k k) ++ (⟨#[41]⟩ : ByteArray) = sU (brL (k + 1) (k + 1)) := by
  rw [s_lit [40], s_lit [41], s_app, s_app, brL_succ]
theorem re_add (k : Nat) : (⟨#[114, 101, 40]⟩ : ByteArray) ++ sU (reL k k) ++ (⟨#[41]⟩ : ByteArray) = sU (reL (k + 1) (k + 1)) := by
  rw [s_lit [114, 101, 40], s_lit [41], s_app, s_app, reL_succ]
set_option maxRecDepth 100000 in
set_option maxHeartbeats 1000000 in
theorem deep_sum (kind : Int) (hK : bits .and .i64 kind 3 = 0) (N B : Nat) (h1 : 1 ≤ N) (h2 : N ≤ 300) (h3 : B ≤ 100) (w : World) (hE : Lxe w) (hO : OpV w) (hF : FnV w) : Calls Tryz.prog 3 #[.int .i64 kind, .int .i64 (N : Int), .int .i64 (B : Int)] w fun e w' => e = .returned (.bool true) ∧ G w w' := by
  have i1 : ¬ (N : Int) < 1 := by omega
  have i2 : ¬ 300 < (N : Int) := by omega
  have i3 : ¬ (B : Int) < 0 := by omega
  have i4 : ¬ 100 < (B : Int) := by omega
  have HEE := xh hE
  have HOO := xh hO
  have HFF := xh hF
  have HH1 := xh h1
  have HH2 := xh h2
  have HH3 := xh h3
  clear hE hO hF h1 h2 h3
  go_enter Tryz.func3, Tryz.ntmps3
  go_wp2_with fail
  clear i1 i2 i3 i4
  go_loopw [7, 8] (fun d p W' => ∃ k : Nat, k ≤ B ∧ p = .int .i64 (k : Int) ∧ d = .string (sU (List.replicate k 32)) ∧ W' = w) (fun _ p _ => B - (RowKit.intOf p).toNat)
  case atStart => exact ⟨0, by omega, rfl, rfl, rfl⟩
  case round =>
    obtain ⟨k, hk, rfl, rfl, hw⟩ := hrel
    have hw' := hw.symm; subst hw'
    by_cases hlt : k < B
    · have hltI : (k : Int) < (B : Int) := by omega
      have hk3 : (k : Int) ≤ 100 := by have := HH3.out; omega
      have hss : (sU (List.replicate k 32)).size ≤ 100 := by have := HH3.out; rw [sU_size, List.length_replicate]; omega
      go_wp2
      exact ⟨⟨k + 1, by omega, rfl, by rw [bl_add], trivial⟩, by simp [RowKit.intOf]; omega⟩
    · have hltI : ¬ (k : Int) < (B : Int) := by omega
      obtain rfl : k = B := by omega
      obtain ⟨H, hH⟩ : ∃ H : List UInt8, H = List.replicate k 32 := ⟨_, rfl⟩
      rw [← hH]
      have HHH := xh hH
      have hsh : (sU H).size ≤ 100 := by have := HH3.out; rw [hH, sU_size, List.length_replicate]; omega
      clear hH hlt hk
      go_wp2_with fail
      clear hltI
      go_loopw [9, 10, 11] (fun t d p W' => ∃ j : Nat, j + 1 ≤ N ∧ p = .int .i64 ((j : Int) + 1) ∧ d = .int .i64 ((j : Int) + 1) ∧ t = .string (sU (smL j)) ∧ W' = w) (fun _ _ p _ => N - (RowKit.intOf p).toNat)
      case atStart => exact ⟨0, by have := HH1.out; omega, rfl, rfl, rfl, rfl⟩
      case round =>
        obtain ⟨j, hj, rfl, rfl, rfl, hw⟩ := hrel
        have hw' := hw.symm; subst hw'
        by_cases hlt : j + 1 < N
        · have hltI : (j : Int) + 1 < (N : Int) := by omega
          have hss : (sU (smL j)).size ≤ 1300 := by have := HH2.out; rw [sU_size, smL_len]; omega
          have hsa : ∀ x y : ByteArray, (x ++ y).size = x.size + y.size := fun x y => ByteArray.size_append
          have hj3 : (j : Int) ≤ 300 := by have := HH2.out; omega
          go_wp2
          exact ⟨⟨j + 1, by omega, rfl, rfl, by rw [sm_add], trivial⟩, by simp [RowKit.intOf]; omega⟩
        · have hltI : ¬ (j : Int) + 1 < (N : Int) := by omega
          have hss : (sU (smL j)).size ≤ 1300 := by have := HH2.out; rw [sU_size, smL_len]; omega
          have hsa : ∀ x y : ByteArray, (x ++ y).size = x.size + y.size := fun x y => ByteArray.size_append
          have HJ : Hid (j < 300) := by have := HH2.out; unfold Hid; omega
          clear hlt hj HH1 HH2
          go_wp2_with (first | (go_at_call 5; refine Hid.out ?_) | fail)
          unfold Hid
          rw [s_app, HHH.out]
          refine (pe_sum HEE.out HOO.out k j HH3.out HJ.out).mono ?_
          rintro e w3 ⟨hA, hg⟩
          have HA := xh hA
          have HG3 := xh hg
          clear hg hA hltI hss hsa hsh HHH
          by_cases hd : (j + 1) ≤ 24
          · obtain ⟨oo, sub, q, a, b, kp, kl, kc, rfl, hoo⟩ := HA.out.1 hd
            have hdI : ¬ 24 < ((j : Int) + 1) := by omega
            have hob : (oo != 0) = true := by simpa using hoo
            clear HA hd
            simp only [exV]
            go_wp2
            go_ret
            exact ⟨by first | rfl | simp [hoo], HG3.out.alloc _⟩
          · have hdI : 24 < ((j : Int) + 1) := by omega
            have he := HA.out.2 (by omega)
            subst he
            clear HA hd
            go_wp2
            go_ret
            exact ⟨rfl, HG3.out.alloc _⟩
set_option maxRecDepth 100000 in
set_option maxHeartbeats 1000000 in
theorem deep_not (kind : Int) (hK : bits .and .i64 kind 3 = 1) (N B : Nat) (h1 : 1 ≤ N) (h2 : N ≤ 300) (h3 : B ≤ 100) (w : World) (hE : Lxe w) (hO : OpV w) (hF : FnV w) : Calls Tryz.prog 3 #[.int .i64 kind, .int .i64 (N : Int), .int .i64 (B : Int)] w fun e w' => e = .returned (.bool true) ∧ G w w' := by
  have i1 : ¬ (N : Int) < 1 := by omega
  have i2 : ¬ 300 < (N : Int) := by omega
  have i3 : ¬ (B : Int) < 0 := by omega
  have i4 : ¬ 100 < (B : Int) := by omega
  have HEE := xh hE
  have HOO := xh hO
  have HFF := xh hF
  have HH1 := xh h1
  have HH2 := xh h2
  have HH3 := xh h3
  clear hE hO hF h1 h2 h3
  go_enter Tryz.func3, Tryz.ntmps3
  go_wp2_with fail
  clear i1 i2 i3 i4
  go_loopw [7, 8] (fun d p W' => ∃ k : Nat, k ≤ B ∧ p = .int .i64 (k : Int) ∧ d = .string (sU (List.replicate k 32)) ∧ W' = w) (fun _ p _ => B - (RowKit.intOf p).toNat)
  case atStart => exact ⟨0, by omega, rfl, rfl, rfl⟩
  case round =>
    obtain ⟨k, hk, rfl, rfl, hw⟩ := hrel
    have hw' := hw.symm; subst hw'
    by_cases hlt : k < B
    · have hltI : (k : Int) < (B : Int) := by omega
      have hk3 : (k : Int) ≤ 100 := by have := HH3.out; omega
      have hss : (sU (List.replicate k 32)).size ≤ 100 := by have := HH3.out; rw [sU_size, List.length_replicate]; omega
      go_wp2
      exact ⟨⟨k + 1, by omega, rfl, by rw [bl_add], trivial⟩, by simp [RowKit.intOf]; omega⟩
    · have hltI : ¬ (k : Int) < (B : Int) := by omega
      obtain rfl : k = B := by omega
      obtain ⟨H, hH⟩ : ∃ H : List UInt8, H = List.replicate k 32 := ⟨_, rfl⟩
      rw [← hH]
      have HHH := xh hH
      have hsh : (sU H).size ≤ 100 := by have := HH3.out; rw [hH, sU_size, List.length_replicate]; omega
      clear hH hlt hk
      go_wp2_with fail
      clear hltI
      go_loopw [9, 10, 11] (fun t d p W' => ∃ j : Nat, j + 1 ≤ N ∧ p = .int .i64 ((j : Int) + 1) ∧ d = .int .i64 ((j : Int) + 1) ∧ t = .string (sU (ntL j)) ∧ W' = w) (fun _ _ p _ => N - (RowKit.intOf p).toNat)
      case atStart => exact ⟨0, by have := HH1.out; omega, rfl, rfl, rfl, rfl⟩
      case round =>
        obtain ⟨j, hj, rfl, rfl, rfl, hw⟩ := hrel
        have hw' := hw.symm; subst hw'
        by_cases hlt : j + 1 < N
        · have hltI : (j : Int) + 1 < (N : Int) := by omega
          have hss : (sU (ntL j)).size ≤ 1300 := by have := HH2.out; rw [sU_size, ntL_len]; omega
          have hsa : ∀ x y : ByteArray, (x ++ y).size = x.size + y.size := fun x y => ByteArray.size_append
          have hj3 : (j : Int) ≤ 300 := by have := HH2.out; omega
          go_wp2
          exact ⟨⟨j + 1, by omega, rfl, rfl, by rw [nt_add], trivial⟩, by simp [RowKit.intOf]; omega⟩
        · have hltI : ¬ (j : Int) + 1 < (N : Int) := by omega
          have hss : (sU (ntL j)).size ≤ 1300 := by have := HH2.out; rw [sU_size, ntL_len]; omega
          have hsa : ∀ x y : ByteArray, (x ++ y).size = x.size + y.size := fun x y => ByteArray.size_append
          have HJ : Hid (j < 300) := by have := HH2.out; unfold Hid; omega
          clear hlt hj HH1 HH2
          go_wp2_with (first | (go_at_call 5; refine Hid.out ?_) | fail)
          unfold Hid
          rw [s_app, HHH.out]
          refine (pe_not HEE.out HOO.out k j HH3.out HJ.out).mono ?_
          rintro e w3 ⟨hA, hg⟩
          have HA := xh hA
          have HG3 := xh hg
          clear hg hA hltI hss hsa hsh HHH
          by_cases hd : (j + 1) ≤ 24
          · obtain ⟨oo, sub, q, a, b, kp, kl, kc, rfl, hoo⟩ := HA.out.1 hd
            have hdI : ¬ 24 < ((j : Int) + 1) := by omega
            have hob : (oo != 0) = true := by simpa using hoo
            clear HA hd
            simp only [exV]
            go_wp2
            go_ret
            exact ⟨by first | rfl | simp [hoo], HG3.out.alloc _⟩
          · have hdI : 24 < ((j : Int) + 1) := by omega
            have he := HA.out.2 (by omega)
            subst he
            clear HA hd
            go_wp2
            go_ret
            exact ⟨rfl, HG3.out.alloc _⟩
set_option maxRecDepth 100000 in
set_option maxHeartbeats 1000000 in
theorem deep_br (kind : Int) (hK : bits .and .i64 kind 3 = 2) (N B : Nat) (h1 : 1 ≤ N) (h2 : N ≤ 300) (h3 : B ≤ 100) (w : World) (hE : Lxe w) (hO : OpV w) (hF : FnV w) : Calls Tryz.prog 3 #[.int .i64 kind, .int .i64 (N : Int), .int .i64 (B : Int)] w fun e w' => e = .returned (.bool true) ∧ G w w' := by
  have i1 : ¬ (N : Int) < 1 := by omega
  have i2 : ¬ 300 < (N : Int) := by omega
  have i3 : ¬ (B : Int) < 0 := by omega
  have i4 : ¬ 100 < (B : Int) := by omega
  have HEE := xh hE
  have HOO := xh hO
  have HFF := xh hF
  have HH1 := xh h1
  have HH2 := xh h2
  have HH3 := xh h3
  clear hE hO hF h1 h2 h3
  go_enter Tryz.func3, Tryz.ntmps3
  go_wp2_with fail
  clear i1 i2 i3 i4
  go_loopw [7, 8] (fun d p W' => ∃ k : Nat, k ≤ B ∧ p = .int .i64 (k : Int) ∧ d = .string (sU (List.replicate k 32)) ∧ W' = w) (fun _ p _ => B - (RowKit.intOf p).toNat)
  case atStart => exact ⟨0, by omega, rfl, rfl, rfl⟩
  case round =>
    obtain ⟨k, hk, rfl, rfl, hw⟩ := hrel
    have hw' := hw.symm; subst hw'
    by_cases hlt : k < B
    · have hltI : (k : Int) < (B : Int) := by omega
      have hk3 : (k : Int) ≤ 100 := by have := HH3.out; omega
      have hss : (sU (List.replicate k 32)).size ≤ 100 := by have := HH3.out; rw [sU_size, List.length_replicate]; omega
      go_wp2
      exact ⟨⟨k + 1, by omega, rfl, by rw [bl_add], trivial⟩, by simp [RowKit.intOf]; omega⟩
    · have hltI : ¬ (k : Int) < (B : Int) := by omega
      obtain rfl : k = B := by omega
      obtain ⟨H, hH⟩ : ∃ H : List UInt8, H = List.replicate k 32 := ⟨_, rfl⟩
      rw [← hH]
      have HHH := xh hH
      have hsh : (sU H).size ≤ 100 := by have := HH3.out; rw [hH, sU_size, List.length_replicate]; omega
      clear hH hlt hk
      go_wp2_with fail
      clear hltI
      go_loopw [9, 10, 11] (fun t d p W' => ∃ j : Nat, j + 1 ≤ N ∧ p = .int .i64 ((j : Int) + 1) ∧ d = .int .i64 1 ∧ t = .string (sU (brL j j)) ∧ W' = w) (fun _ _ p _ => N - (RowKit.intOf p).toNat)
      case atStart => exact ⟨0, by have := HH1.out; omega, rfl, rfl, rfl, rfl⟩
      case round =>
        obtain ⟨j, hj, rfl, rfl, rfl, hw⟩ := hrel
        have hw' := hw.symm; subst hw'
        by_cases hlt : j + 1 < N
        · have hltI : (j : Int) + 1 < (N : Int) := by omega
          have hss : (sU (brL j j)).size ≤ 1300 := by have := HH2.out; rw [sU_size, brL_len]; omega
          have hsa : ∀ x y : ByteArray, (x ++ y).size = x.size + y.size := fun x y => ByteArray.size_append
          have hj3 : (j : Int) ≤ 300 := by have := HH2.out; omega
          go_wp2
          exact ⟨⟨j + 1, by omega, rfl, rfl, by rw [br_add], trivial⟩, by simp [RowKit.intOf]; omega⟩
        · have hltI : ¬ (j : Int) + 1 < (N : Int) := by omega
          have hss : (sU (brL j j)).size ≤ 1300 := by have := HH2.out; rw [sU_size, brL_len]; omega
          have hsa : ∀ x y : ByteArray, (x ++ y).size = x.size + y.size := fun x y => ByteArray.size_append
          have HJ : Hid (j < 300) := by have := HH2.out; unfold Hid; omega
          clear hlt hj HH1 HH2
          go_wp2_with (first | (go_at_call 5; refine Hid.out ?_) | fail)
          unfold Hid
          rw [s_app, HHH.out]
          refine (pe_br HEE.out HOO.out k j HH3.out HJ.out).mono ?_
          rintro e w3 ⟨hA, hg⟩
          have HA := xh hA
          have HG3 := xh hg
          clear hg hA hltI hss hsa hsh HHH
          by_cases hd : 1 ≤ 24
          · obtain ⟨oo, sub, q, a, b, kp, kl, kc, rfl, hoo⟩ := HA.out.1 hd
            have hdI : ¬ 24 < 1 := by omega
            have hob : (oo != 0) = true := by simpa using hoo
            clear HA hd
            simp only [exV]
            go_wp2
            go_ret
            exact ⟨by first | rfl | simp [hoo], HG3.out.alloc _⟩
          · exact absurd (show 1 ≤ 24 by decide) hd
set_option maxRecDepth 100000 in
set_option maxHeartbeats 1000000 in
theorem deep_re (kind : Int) (v : Int) (hK : bits .and .i64 kind 3 = v) (v0 : ¬ v = 0) (v1 : ¬ v = 1) (v2 : ¬ v = 2) (N B : Nat) (h1 : 1 ≤ N) (h2 : N ≤ 300) (h3 : B ≤ 100) (w : World) (hE : Lxe w) (hO : OpV w) (hF : FnV w) : Calls Tryz.prog 3 #[.int .i64 kind, .int .i64 (N : Int), .int .i64 (B : Int)] w fun e w' => e = .returned (.bool true) ∧ G w w' := by
  have i1 : ¬ (N : Int) < 1 := by omega
  have i2 : ¬ 300 < (N : Int) := by omega
  have i3 : ¬ (B : Int) < 0 := by omega
  have i4 : ¬ 100 < (B : Int) := by omega
  have HEE := xh hE
  have HOO := xh hO
  have HFF := xh hF
  have HH1 := xh h1
  have HH2 := xh h2
  have HH3 := xh h3
  clear hE hO hF h1 h2 h3
  go_enter Tryz.func3, Tryz.ntmps3
  go_wp2_with fail
  clear i1 i2 i3 i4
  go_loopw [7, 8] (fun d p W' => ∃ k : Nat, k ≤ B ∧ p = .int .i64 (k : Int) ∧ d = .string (sU (List.replicate k 32)) ∧ W' = w) (fun _ p _ => B - (RowKit.intOf p).toNat)
  case atStart => exact ⟨0, by omega, rfl, rfl, rfl⟩
  case round =>
    obtain ⟨k, hk, rfl, rfl, hw⟩ := hrel
    have hw' := hw.symm; subst hw'
    by_cases hlt : k < B
    · have hltI : (k : Int) < (B : Int) := by omega
      have hk3 : (k : Int) ≤ 100 := by have := HH3.out; omega
      have hss : (sU (List.replicate k 32)).size ≤ 100 := by have := HH3.out; rw [sU_size, List.length_replicate]; omega
      go_wp2
      exact ⟨⟨k + 1, by omega, rfl, by rw [bl_add], trivial⟩, by simp [RowKit.intOf]; omega⟩
    · have hltI : ¬ (k : Int) < (B : Int) := by omega
      obtain rfl : k = B := by omega
      obtain ⟨H, hH⟩ : ∃ H : List UInt8, H = List.replicate k 32 := ⟨_, rfl⟩
      rw [← hH]
      have HHH := xh hH
      have hsh : (sU H).size ≤ 100 := by have := HH3.out; rw [hH, sU_size, List.length_replicate]; omega
      clear hH hlt hk
      go_wp2_with fail
      clear hltI
      go_loopw [9, 10, 11] (fun t d p W' => ∃ j : Nat, j + 1 ≤ N ∧ p = .int .i64 ((j : Int) + 1) ∧ d = .int .i64 ((j : Int) + 1) ∧ t = .string (sU (reL j j)) ∧ W' = w) (fun _ _ p _ => N - (RowKit.intOf p).toNat)
      case atStart => exact ⟨0, by have := HH1.out; omega, rfl, rfl, rfl, rfl⟩
      case round =>
        obtain ⟨j, hj, rfl, rfl, rfl, hw⟩ := hrel
        have hw' := hw.symm; subst hw'
        by_cases hlt : j + 1 < N
        · have hltI : (j : Int) + 1 < (N : Int) := by omega
          have hss : (sU (reL j j)).size ≤ 1300 := by have := HH2.out; rw [sU_size, reL_len]; omega
          have hsa : ∀ x y : ByteArray, (x ++ y).size = x.size + y.size := fun x y => ByteArray.size_append
          have hj3 : (j : Int) ≤ 300 := by have := HH2.out; omega
          go_wp2
          exact ⟨⟨j + 1, by omega, rfl, rfl, by rw [re_add], trivial⟩, by simp [RowKit.intOf]; omega⟩
        · have hltI : ¬ (j : Int) + 1 < (N : Int) := by omega
          have hss : (sU (reL j j)).size ≤ 1300 := by have := HH2.out; rw [sU_size, reL_len]; omega
          have hsa : ∀ x y : ByteArray, (x ++ y).size = x.size + y.size := fun x y => ByteArray.size_append
          have HJ : Hid (j < 300) := by have := HH2.out; unfold Hid; omega
          clear hlt hj HH1 HH2
          go_wp2_with (first | (go_at_call 5; refine Hid.out ?_) | fail)
          unfold Hid
          rw [s_app, HHH.out]
          refine (pe_re HEE.out HOO.out HFF.out k j HH3.out HJ.out).mono ?_
          rintro e w3 ⟨hA, hg⟩
          have HA := xh hA
          have HG3 := xh hg
          clear hg hA hltI hss hsa hsh HHH
          by_cases hd : (j + 1) ≤ 24
          · obtain ⟨oo, sub, q, a, b, kp, kl, kc, rfl, hoo⟩ := HA.out.1 hd
            have hdI : ¬ 24 < ((j : Int) + 1) := by omega
            have hob : (oo != 0) = true := by simpa using hoo
            clear HA hd
            simp only [exV]
            go_wp2
            go_ret
            exact ⟨by first | rfl | simp [hoo], HG3.out.alloc _⟩
          · have hdI : 24 < ((j : Int) + 1) := by omega
            have he := HA.out.2 (by omega)
            subst he
            clear HA hd
            go_wp2
            go_ret
            exact ⟨rfl, HG3.out.alloc _⟩
set_option maxRecDepth 100000 in
set_option maxHeartbeats 1000000 in
theorem deep_q1 (kind n b : Int) (h : n < 1) (w : World) : Calls Tryz.prog 3 #[.int .i64 kind, .int .i64 n, .int .i64 b] w fun e w' => e = .returned (.bool true) ∧ G w w' := by
  go_enter Tryz.func3, Tryz.ntmps3
  go_wp2
  go_ret
  exact ⟨rfl, G.refl _⟩
set_option maxRecDepth 100000 in
set_option maxHeartbeats 1000000 in
theorem deep_q2 (kind n b : Int) (h : 300 < n) (w : World) : Calls Tryz.prog 3 #[.int .i64 kind, .int .i64 n, .int .i64 b] w fun e w' => e = .returned (.bool true) ∧ G w w' := by
  have h0 : ¬ n < 1 := by omega
  go_enter Tryz.func3, Tryz.ntmps3
  go_wp2
  go_ret
  exact ⟨rfl, G.refl _⟩
set_option maxRecDepth 100000 in
set_option maxHeartbeats 1000000 in
theorem deep_q3 (kind n b : Int) (h0 : ¬ n < 1) (h1 : ¬ 300 < n) (h : b < 0) (w : World) : Calls Tryz.prog 3 #[.int .i64 kind, .int .i64 n, .int .i64 b] w fun e w' => e = .returned (.bool true) ∧ G w w' := by
  go_enter Tryz.func3, Tryz.ntmps3
  go_wp2
  go_ret
  exact ⟨rfl, G.refl _⟩
set_option maxRecDepth 100000 in
set_option maxHeartbeats 1000000 in
theorem deep_q4 (kind n b : Int) (h0 : ¬ n < 1) (h1 : ¬ 300 < n) (h : 100 < b) (w : World) : Calls Tryz.prog 3 #[.int .i64 kind, .int .i64 n, .int .i64 b] w fun e w' => e = .returned (.bool true) ∧ G w w' := by
  have h2 : ¬ b < 0 := by omega
  go_enter Tryz.func3, Tryz.ntmps3
  go_wp2
  go_ret
  exact ⟨rfl, G.refl _⟩
theorem deep_law (kind n b : Int) (w : World) (hE : Lxe w) (hO : OpV w) (hF : FnV w) : Calls Tryz.prog 3 #[.int .i64 kind, .int .i64 n, .int .i64 b] w fun e w' => e = .returned (.bool true) ∧ G w w' := by
  by_cases h1 : n < 1
  · exact deep_q1 kind n b h1 w
  by_cases h2 : 300 < n
  · exact deep_q2 kind n b h2 w
  by_cases h3 : b < 0
  · exact deep_q3 kind n b h1 h2 h3 w
  by_cases h4 : 100 < b
  · exact deep_q4 kind n b h1 h2 h4 w
  obtain ⟨N, rfl⟩ : ∃ N : Nat, n = (N : Int) := ⟨n.toNat, by omega⟩
  obtain ⟨B, rfl⟩ : ∃ B : Nat, b = (B : Int) := ⟨b.toNat, by omega⟩
  by_cases k0 : bits .and .i64 kind 3 = 0
  · exact deep_sum kind k0 N B (by omega) (by omega) (by omega) w hE hO hF
  by_cases k1 : bits .and .i64 kind 3 = 1
  · exact deep_not kind k1 N B (by omega) (by omega) (by omega) w hE hO hF
  by_cases k2 : bits .and .i64 kind 3 = 2
  · exact deep_br kind k2 N B (by omega) (by omega) (by omega) w hE hO hF
  exact deep_re kind _ rfl k0 k1 k2 N B (by omega) (by omega) (by omega) w hE hO hF
end Go.Proofs.YthpflfkgbapbnaaGreatDoor
