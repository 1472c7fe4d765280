/- The reader: a chain of sums. -/
import Derived.Test.YthpflfkgbapbnaaGreatDoorRd7
import Derived.Test.YthpflfkgbapbnaaGreatDoorRd8
import Derived.Test.YthpflfkgbapbnaaGreatDoorRd11
namespace Go.Proofs.YthpflfkgbapbnaaGreatDoor
section
section
section
section
section
section
open Go.RowKit

/-- An expression without names: its kids lie in memory. -/
def exV (oo sub k a b : Int) (kp : Option Addr) (kl kc : Nat) : Value := .agg #[I oo, I sub, I k, I a, I b, .string E0, .string E0, .string E0, .bool false, .slice kp kl kc]
theorem exV_lit (k a b : Int) : litE k a b E0 = exV 1 0 k a b none 0 0 := rfl
set_option maxRecDepth 100000 in
set_option maxHeartbeats 1000000 in
theorem x_rk8 {w0 : World} {rb g : Nat} {ts : List Tok} {i j : Nat} {W : World} (h : Rd rb g ts i W) (g0 : G w0 W) {oo sub k a b : Int} {kp : Option Addr} {kl kc : Nat} (HC : ∀ W, Rd rb g ts i W → G w0 W → Calls Tryz.prog 63 #[ptr rb] W fun e W' => e = .returned (exV oo sub k a b kp kl kc) ∧ Rd rb g ts j W' ∧ Qr rb W W') : Calls Tryz.prog 34 #[ptr rb, .int .i64 8] W fun e W' => e = .returned (exV oo sub k a b kp kl kc) ∧ Rd rb g ts j W' ∧ Qr rb W W' := by
  have HX0 := xh (Rx.new (w := W) h.Q0.1)
  have HGN := xh h.Q0.2
  have HR0 := xh (h.G ((G.refl W).alloc (.cells #[I 0, I 0, I 0, I 0, I 0, .string E0, .string E0, .string E0, .bool false, .slice none 0 0] 26)))
  have HGW := xh g0
  have HCC := xh HC
  have HGA := xh (g0.trans ((G.refl W).alloc (.cells #[I 0, I 0, I 0, I 0, I 0, .string E0, .string E0, .string E0, .bool false, .slice none 0 0] 26)))
  clear h g0 HC
  go_enter Tryz.func34, Tryz.ntmps34
  go_wp2_with (first | (go_at_call 63; refine Hid.out ?_) | fail)
  unfold Hid
  generalize W.alloc (.cells #[I 0, I 0, I 0, I 0, I 0, .string E0, .string E0, .string E0, .bool false, .slice none 0 0] 26) = wa at HX0 HR0 HGA ⊢
  refine (HCC.out _ HR0.out HGA.out).mono ?_
  rintro e w1 ⟨rfl, hrd, hq⟩
  have HR1 := xh hrd
  have HX1 := xh (HX0.out.Q hq)
  clear hrd hq HR0 HX0
  have hcr := HX1.out.c
  have hfr := HX1.out.f
  simp only [exV]
  go_wp2
  refine bodyPost_ret (v := exV oo sub k a b kp kl kc) (by simp [results, Tryz.results34, go_sem, hcr, exV]) rfl ⟨rfl, HR1.out.ten HX1.out.n HGN.out _ _ _ _ _ _ _ _ _ _, HX1.out.q.ten (Nat.le_refl _) _ _ _ _ _ _ _ _ _ _⟩
set_option maxRecDepth 100000 in
set_option maxHeartbeats 1000000 in
theorem x_rk5 {w0 : World} {rb g : Nat} {ts : List Tok} {i j : Nat} {W : World} (h : Rd rb g ts i W) (g0 : G w0 W) {oo sub k a b : Int} {kp : Option Addr} {kl kc : Nat} (HC : ∀ W, Rd rb g ts i W → G w0 W → Calls Tryz.prog 62 #[ptr rb] W fun e W' => e = .returned (exV oo sub k a b kp kl kc) ∧ Rd rb g ts j W' ∧ Qr rb W W') : Calls Tryz.prog 34 #[ptr rb, .int .i64 5] W fun e W' => e = .returned (exV oo sub k a b kp kl kc) ∧ Rd rb g ts j W' ∧ Qr rb W W' := by
  have HX0 := xh (Rx.new (w := W) h.Q0.1)
  have HGN := xh h.Q0.2
  have HR0 := xh (h.G ((G.refl W).alloc (.cells #[I 0, I 0, I 0, I 0, I 0, .string E0, .string E0, .string E0, .bool false, .slice none 0 0] 26)))
  have HGW := xh g0
  have HCC := xh HC
  have HGA := xh (g0.trans ((G.refl W).alloc (.cells #[I 0, I 0, I 0, I 0, I 0, .string E0, .string E0, .string E0, .bool false, .slice none 0 0] 26)))
  clear h g0 HC
  go_enter Tryz.func34, Tryz.ntmps34
  go_wp2_with (first | (go_at_call 62; refine Hid.out ?_) | fail)
  unfold Hid
  generalize W.alloc (.cells #[I 0, I 0, I 0, I 0, I 0, .string E0, .string E0, .string E0, .bool false, .slice none 0 0] 26) = wa at HX0 HR0 HGA ⊢
  refine (HCC.out _ HR0.out HGA.out).mono ?_
  rintro e w1 ⟨rfl, hrd, hq⟩
  have HR1 := xh hrd
  have HX1 := xh (HX0.out.Q hq)
  clear hrd hq HR0 HX0
  have hcr := HX1.out.c
  have hfr := HX1.out.f
  simp only [exV]
  go_wp2
  refine bodyPost_ret (v := exV oo sub k a b kp kl kc) (by simp [results, Tryz.results34, go_sem, hcr, exV]) rfl ⟨rfl, HR1.out.ten HX1.out.n HGN.out _ _ _ _ _ _ _ _ _ _, HX1.out.q.ten (Nat.le_refl _) _ _ _ _ _ _ _ _ _ _⟩
set_option maxRecDepth 100000 in
set_option maxHeartbeats 1000000 in
theorem x_rk4 {w0 : World} {rb g : Nat} {ts : List Tok} {i j : Nat} {W : World} (h : Rd rb g ts i W) (g0 : G w0 W) {oo sub k a b : Int} {kp : Option Addr} {kl kc : Nat} (HC : ∀ W, Rd rb g ts i W → G w0 W → Calls Tryz.prog 61 #[ptr rb] W fun e W' => e = .returned (exV oo sub k a b kp kl kc) ∧ Rd rb g ts j W' ∧ Qr rb W W') : Calls Tryz.prog 34 #[ptr rb, .int .i64 4] W fun e W' => e = .returned (exV oo sub k a b kp kl kc) ∧ Rd rb g ts j W' ∧ Qr rb W W' := by
  have HX0 := xh (Rx.new (w := W) h.Q0.1)
  have HGN := xh h.Q0.2
  have HR0 := xh (h.G ((G.refl W).alloc (.cells #[I 0, I 0, I 0, I 0, I 0, .string E0, .string E0, .string E0, .bool false, .slice none 0 0] 26)))
  have HGW := xh g0
  have HCC := xh HC
  have HGA := xh (g0.trans ((G.refl W).alloc (.cells #[I 0, I 0, I 0, I 0, I 0, .string E0, .string E0, .string E0, .bool false, .slice none 0 0] 26)))
  clear h g0 HC
  go_enter Tryz.func34, Tryz.ntmps34
  go_wp2_with (first | (go_at_call 61; refine Hid.out ?_) | fail)
  unfold Hid
  generalize W.alloc (.cells #[I 0, I 0, I 0, I 0, I 0, .string E0, .string E0, .string E0, .bool false, .slice none 0 0] 26) = wa at HX0 HR0 HGA ⊢
  refine (HCC.out _ HR0.out HGA.out).mono ?_
  rintro e w1 ⟨rfl, hrd, hq⟩
  have HR1 := xh hrd
  have HX1 := xh (HX0.out.Q hq)
  clear hrd hq HR0 HX0
  have hcr := HX1.out.c
  have hfr := HX1.out.f
  simp only [exV]
  go_wp2
  refine bodyPost_ret (v := exV oo sub k a b kp kl kc) (by simp [results, Tryz.results34, go_sem, hcr, exV]) rfl ⟨rfl, HR1.out.ten HX1.out.n HGN.out _ _ _ _ _ _ _ _ _ _, HX1.out.q.ten (Nat.le_refl _) _ _ _ _ _ _ _ _ _ _⟩
set_option maxRecDepth 100000 in
set_option maxHeartbeats 1000000 in
theorem x_ex1 {w0 : World} {rb g : Nat} {ts : List Tok} {i j : Nat} {W : World} (h : Rd rb g ts i W) (g0 : G w0 W) {oo sub k a b : Int} {kp : Option Addr} {kl kc : Nat} (HC : ∀ W, Rd rb g ts i W → G w0 W → Calls Tryz.prog 34 #[ptr rb, .int .i64 1] W fun e W' => e = .returned (exV oo sub k a b kp kl kc) ∧ Rd rb g ts j W' ∧ Qr rb W W') : Calls Tryz.prog 17 #[ptr rb] W fun e W' => e = .returned (exV oo sub k a b kp kl kc) ∧ Rd rb g ts j W' ∧ Qr rb W W' := by
  have HX0 := xh (Rx.new (w := W) h.Q0.1)
  have HGN := xh h.Q0.2
  have HR0 := xh (h.G ((G.refl W).alloc (.cells #[I 0, I 0, I 0, I 0, I 0, .string E0, .string E0, .string E0, .bool false, .slice none 0 0] 26)))
  have HGW := xh g0
  have HCC := xh HC
  have HGA := xh (g0.trans ((G.refl W).alloc (.cells #[I 0, I 0, I 0, I 0, I 0, .string E0, .string E0, .string E0, .bool false, .slice none 0 0] 26)))
  clear h g0 HC
  go_enter Tryz.func17, Tryz.ntmps17
  go_wp2_with (first | (go_at_call 34; refine Hid.out ?_) | fail)
  unfold Hid
  generalize W.alloc (.cells #[I 0, I 0, I 0, I 0, I 0, .string E0, .string E0, .string E0, .bool false, .slice none 0 0] 26) = wa at HX0 HR0 HGA ⊢
  refine (HCC.out _ HR0.out HGA.out).mono ?_
  rintro e w1 ⟨rfl, hrd, hq⟩
  have HR1 := xh hrd
  have HX1 := xh (HX0.out.Q hq)
  clear hrd hq HR0 HX0
  have hcr := HX1.out.c
  have hfr := HX1.out.f
  simp only [exV]
  go_wp2
  refine bodyPost_ret (v := exV oo sub k a b kp kl kc) (by simp [results, Tryz.results17, go_sem, hcr, exV]) rfl ⟨rfl, HR1.out.ten HX1.out.n HGN.out _ _ _ _ _ _ _ _ _ _, HX1.out.q.ten (Nat.le_refl _) _ _ _ _ _ _ _ _ _ _⟩
set_option maxRecDepth 100000 in
set_option maxHeartbeats 1000000 in
theorem x_not_any {w0 : World} {rb g : Nat} {ts : List Tok} {i j : Nat} {W : World} (h : Rd rb g ts i W) (g0 : G w0 W) {oo sub k a b : Int} {kp : Option Addr} {kl kc : Nat} {y : Tok} (hy : ts[i]? = some y) (hn : seB y ⟨#[110, 111, 116]⟩ = false) (HC : ∀ W, Rd rb g ts i W → G w0 W → Calls Tryz.prog 34 #[ptr rb, .int .i64 5] W fun e W' => e = .returned (exV oo sub k a b kp kl kc) ∧ Rd rb g ts j W' ∧ Qr rb W W') : Calls Tryz.prog 61 #[ptr rb] W fun e W' => e = .returned (exV oo sub k a b kp kl kc) ∧ Rd rb g ts j W' ∧ Qr rb W W' := by
  have HX0 := xh (Rx.new (w := W) h.Q0.1)
  have HGN := xh h.Q0.2
  have HR0 := xh (h.G ((G.refl W).alloc (.cells #[I 0, I 0, I 0, I 0, I 0, .string E0, .string E0, .string E0, .bool false, .slice none 0 0] 26)))
  have HGW := xh g0
  have HCC := xh HC
  have HGA := xh (g0.trans ((G.refl W).alloc (.cells #[I 0, I 0, I 0, I 0, I 0, .string E0, .string E0, .string E0, .bool false, .slice none 0 0] 26)))
  have HYY := xh hy
  have HNN := xh hn
  clear hy hn
  clear h g0 HC
  go_enter Tryz.func61, Tryz.ntmps61
  go_wp2_with (first | (go_at_call 44; refine Hid.out ?_) | fail)
  unfold Hid
  generalize W.alloc (.cells #[I 0, I 0, I 0, I 0, I 0, .string E0, .string E0, .string E0, .bool false, .slice none 0 0] 26) = wa at HX0 HR0 HGA ⊢
  refine (took_no HR0.out HYY.out ⟨#[110, 111, 116]⟩ HNN.out).mono ?_
  rintro e w1 ⟨rfl, hg⟩
  have HR1 := xh (HR0.out.G hg)
  have HX1 := xh (HX0.out.G hg)
  have HGB := xh (HGA.out.trans hg)
  clear hg HR0 HX0 HGA
  go_wp2_with (first | (go_at_call 34; refine Hid.out ?_) | fail)
  unfold Hid
  refine (HCC.out _ HR1.out HGB.out).mono ?_
  rintro e w2 ⟨rfl, hrd, hq⟩
  have HR2 := xh hrd
  have HX2 := xh (HX1.out.Q hq)
  clear hrd hq HR1 HX1
  have hcr := HX2.out.c
  have hfr := HX2.out.f
  simp only [exV]
  go_wp2
  refine bodyPost_ret (v := exV oo sub k a b kp kl kc) (by simp [results, Tryz.results61, go_sem, hcr, exV]) rfl ⟨rfl, HR2.out.ten HX2.out.n HGN.out _ _ _ _ _ _ _ _ _ _, HX2.out.q.ten (Nat.le_refl _) _ _ _ _ _ _ _ _ _ _⟩
set_option maxRecDepth 100000 in
set_option maxHeartbeats 1000000 in
theorem x_rk7 {w0 : World} (hO : OpV w0) {rb g : Nat} {ts : List Tok} {i j : Nat} {W : World} (h : Rd rb g ts i W) (g0 : G w0 W) (hr : w0.heap.size ≤ rb) {oo sub k a b : Int} {kp : Option Addr} {kl kc : Nat} {x : Tok} (hx : ts[j]? = some x) (hst : StopT x) (HC : ∀ W, Rd rb g ts i W → G w0 W → Calls Tryz.prog 34 #[ptr rb, .int .i64 8] W fun e W' => e = .returned (exV oo sub k a b kp kl kc) ∧ Rd rb g ts j W' ∧ Qr rb W W') : Calls Tryz.prog 34 #[ptr rb, .int .i64 7] W fun e W' => e = .returned (exV oo sub k a b kp kl kc) ∧ Rd rb g ts j W' ∧ Qr rb W W' := by
  have HX0 := xh (Rx.new (w := W) h.Q0.1)
  have HGN := xh h.Q0.2
  have HR0 := xh (h.G ((G.refl W).alloc (.cells #[I 0, I 0, I 0, I 0, I 0, .string E0, .string E0, .string E0, .bool false, .slice none 0 0] 26)))
  have HO := xh hO
  have HXX := xh hx
  have HST := xh hst
  have HCC := xh HC
  have HRB := xh hr
  have HGA := xh (g0.trans ((G.refl W).alloc (.cells #[I 0, I 0, I 0, I 0, I 0, .string E0, .string E0, .string E0, .bool false, .slice none 0 0] 26)))
  clear h g0 HC hO hx hst hr
  go_enter Tryz.func34, Tryz.ntmps34
  go_wp2_with (first | (go_at_call 34; refine Hid.out ?_) | fail)
  unfold Hid
  generalize W.alloc (.cells #[I 0, I 0, I 0, I 0, I 0, .string E0, .string E0, .string E0, .bool false, .slice none 0 0] 26) = wa at HX0 HR0 HGA ⊢
  refine (HCC.out _ HR0.out HGA.out).mono ?_
  rintro e w1 ⟨rfl, hrd, hq⟩
  have HG1 := xh ((hq.G HGA.out HRB.out).trans ((G.refl w1).alloc (.cells #[I oo, I sub, I k, I a, I b, .string E0, .string E0, .string E0, .bool false, .slice kp kl kc] 26)))
  have HR1 := xh (hrd.G ((G.refl w1).alloc (.cells #[I oo, I sub, I k, I a, I b, .string E0, .string E0, .string E0, .bool false, .slice kp kl kc] 26)))
  have HX1 := xh ((HX0.out.Q hq).G ((G.refl w1).alloc (.cells #[I oo, I sub, I k, I a, I b, .string E0, .string E0, .string E0, .bool false, .slice kp kl kc] 26)))
  have HL1 : Hid (Lf rb w1.heap.size [I oo, I sub, I k, I a, I b, .string E0, .string E0, .string E0, .bool false, .slice kp kl kc] (w1.alloc (.cells #[I oo, I sub, I k, I a, I b, .string E0, .string E0, .string E0, .bool false, .slice kp kl kc] 26))) := ⟨fun o => by simp, by simp, by have := blk_lt hrd.c; omega⟩
  obtain ⟨lb, hlb⟩ : ∃ lb, lb = w1.heap.size := ⟨_, rfl⟩
  rw [← hlb] at HL1
  have HLB := xh hlb
  clear hrd hq HR0 HX0 HCC HGA hlb
  simp only [exV]
  go_wp2_with (first | (go_at_call 64; refine Hid.out ?_) | fail)
  unfold Hid
  rw [← HLB.out]
  generalize w1.alloc (.cells #[I oo, I sub, I k, I a, I b, .string E0, .string E0, .string E0, .bool false, .slice kp kl kc] 26) = w2 at HG1 HR1 HX1 HL1 ⊢
  refine (op_none HO.out HR1.out HG1.out HXX.out 7 (HST.out.o 7)).mono ?_
  rintro e w3 ⟨rfl, hg⟩
  have HR3 := xh (HR1.out.G hg)
  have HX3 := xh (HX1.out.G hg)
  have HL3 := xh (HL1.out.G hg)
  clear hg HR1 HX1 HL1 HG1
  go_wp2_with fail
  go_loopw [6] (fun p W => p = .int .i64 0 ∧ W = w3) (fun _ _ => 0)
  case atStart => exact ⟨rfl, rfl⟩
  case round =>
    obtain ⟨rfl, hw3⟩ := hrel
    subst hw3
    have hcl := HL3.out.c
    have hcr := HX3.out.c
    have hfr := HX3.out.f
    skip
    go_wp2
    refine bodyPost_ret (v := exV oo sub k a b kp kl kc) (by simp [results, Tryz.results34, go_sem, hcr, exV]) rfl ⟨rfl, HR3.out.ten HX3.out.n HGN.out _ _ _ _ _ _ _ _ _ _, HX3.out.q.ten (Nat.le_refl _) _ _ _ _ _ _ _ _ _ _⟩
set_option maxRecDepth 100000 in
set_option maxHeartbeats 1000000 in
theorem x_rk6 {w0 : World} (hO : OpV w0) {rb g : Nat} {ts : List Tok} {i j : Nat} {W : World} (h : Rd rb g ts i W) (g0 : G w0 W) (hr : w0.heap.size ≤ rb) {oo sub k a b : Int} {kp : Option Addr} {kl kc : Nat} {x : Tok} (hx : ts[j]? = some x) (hst : StopT x) (HC : ∀ W, Rd rb g ts i W → G w0 W → Calls Tryz.prog 34 #[ptr rb, .int .i64 7] W fun e W' => e = .returned (exV oo sub k a b kp kl kc) ∧ Rd rb g ts j W' ∧ Qr rb W W') : Calls Tryz.prog 34 #[ptr rb, .int .i64 6] W fun e W' => e = .returned (exV oo sub k a b kp kl kc) ∧ Rd rb g ts j W' ∧ Qr rb W W' := by
  have HX0 := xh (Rx.new (w := W) h.Q0.1)
  have HGN := xh h.Q0.2
  have HR0 := xh (h.G ((G.refl W).alloc (.cells #[I 0, I 0, I 0, I 0, I 0, .string E0, .string E0, .string E0, .bool false, .slice none 0 0] 26)))
  have HO := xh hO
  have HXX := xh hx
  have HST := xh hst
  have HCC := xh HC
  have HRB := xh hr
  have HGA := xh (g0.trans ((G.refl W).alloc (.cells #[I 0, I 0, I 0, I 0, I 0, .string E0, .string E0, .string E0, .bool false, .slice none 0 0] 26)))
  clear h g0 HC hO hx hst hr
  go_enter Tryz.func34, Tryz.ntmps34
  go_wp2_with (first | (go_at_call 34; refine Hid.out ?_) | fail)
  unfold Hid
  generalize W.alloc (.cells #[I 0, I 0, I 0, I 0, I 0, .string E0, .string E0, .string E0, .bool false, .slice none 0 0] 26) = wa at HX0 HR0 HGA ⊢
  refine (HCC.out _ HR0.out HGA.out).mono ?_
  rintro e w1 ⟨rfl, hrd, hq⟩
  have HG1 := xh ((hq.G HGA.out HRB.out).trans ((G.refl w1).alloc (.cells #[I oo, I sub, I k, I a, I b, .string E0, .string E0, .string E0, .bool false, .slice kp kl kc] 26)))
  have HR1 := xh (hrd.G ((G.refl w1).alloc (.cells #[I oo, I sub, I k, I a, I b, .string E0, .string E0, .string E0, .bool false, .slice kp kl kc] 26)))
  have HX1 := xh ((HX0.out.Q hq).G ((G.refl w1).alloc (.cells #[I oo, I sub, I k, I a, I b, .string E0, .string E0, .string E0, .bool false, .slice kp kl kc] 26)))
  have HL1 : Hid (Lf rb w1.heap.size [I oo, I sub, I k, I a, I b, .string E0, .string E0, .string E0, .bool false, .slice kp kl kc] (w1.alloc (.cells #[I oo, I sub, I k, I a, I b, .string E0, .string E0, .string E0, .bool false, .slice kp kl kc] 26))) := ⟨fun o => by simp, by simp, by have := blk_lt hrd.c; omega⟩
  obtain ⟨lb, hlb⟩ : ∃ lb, lb = w1.heap.size := ⟨_, rfl⟩
  rw [← hlb] at HL1
  have HLB := xh hlb
  clear hrd hq HR0 HX0 HCC HGA hlb
  simp only [exV]
  go_wp2_with (first | (go_at_call 64; refine Hid.out ?_) | fail)
  unfold Hid
  rw [← HLB.out]
  generalize w1.alloc (.cells #[I oo, I sub, I k, I a, I b, .string E0, .string E0, .string E0, .bool false, .slice kp kl kc] 26) = w2 at HG1 HR1 HX1 HL1 ⊢
  refine (op_none HO.out HR1.out HG1.out HXX.out 6 (HST.out.o 6)).mono ?_
  rintro e w3 ⟨rfl, hg⟩
  have HR3 := xh (HR1.out.G hg)
  have HX3 := xh (HX1.out.G hg)
  have HL3 := xh (HL1.out.G hg)
  clear hg HR1 HX1 HL1 HG1
  go_wp2_with fail
  go_loopw [6] (fun p W => p = .int .i64 0 ∧ W = w3) (fun _ _ => 0)
  case atStart => exact ⟨rfl, rfl⟩
  case round =>
    obtain ⟨rfl, hw3⟩ := hrel
    subst hw3
    have hcl := HL3.out.c
    have hcr := HX3.out.c
    have hfr := HX3.out.f
    skip
    go_wp2
    refine bodyPost_ret (v := exV oo sub k a b kp kl kc) (by simp [results, Tryz.results34, go_sem, hcr, exV]) rfl ⟨rfl, HR3.out.ten HX3.out.n HGN.out _ _ _ _ _ _ _ _ _ _, HX3.out.q.ten (Nat.le_refl _) _ _ _ _ _ _ _ _ _ _⟩
set_option maxRecDepth 100000 in
set_option maxHeartbeats 1000000 in
theorem x_rk3 {w0 : World} (hO : OpV w0) {rb g : Nat} {ts : List Tok} {i j : Nat} {W : World} (h : Rd rb g ts i W) (g0 : G w0 W) (hr : w0.heap.size ≤ rb) {oo sub k a b : Int} {kp : Option Addr} {kl kc : Nat} {x : Tok} (hx : ts[j]? = some x) (hst : StopT x) (HC : ∀ W, Rd rb g ts i W → G w0 W → Calls Tryz.prog 34 #[ptr rb, .int .i64 4] W fun e W' => e = .returned (exV oo sub k a b kp kl kc) ∧ Rd rb g ts j W' ∧ Qr rb W W') : Calls Tryz.prog 34 #[ptr rb, .int .i64 3] W fun e W' => e = .returned (exV oo sub k a b kp kl kc) ∧ Rd rb g ts j W' ∧ Qr rb W W' := by
  have HX0 := xh (Rx.new (w := W) h.Q0.1)
  have HGN := xh h.Q0.2
  have HR0 := xh (h.G ((G.refl W).alloc (.cells #[I 0, I 0, I 0, I 0, I 0, .string E0, .string E0, .string E0, .bool false, .slice none 0 0] 26)))
  have HO := xh hO
  have HXX := xh hx
  have HST := xh hst
  have HCC := xh HC
  have HRB := xh hr
  have HGA := xh (g0.trans ((G.refl W).alloc (.cells #[I 0, I 0, I 0, I 0, I 0, .string E0, .string E0, .string E0, .bool false, .slice none 0 0] 26)))
  clear h g0 HC hO hx hst hr
  go_enter Tryz.func34, Tryz.ntmps34
  go_wp2_with (first | (go_at_call 34; refine Hid.out ?_) | fail)
  unfold Hid
  generalize W.alloc (.cells #[I 0, I 0, I 0, I 0, I 0, .string E0, .string E0, .string E0, .bool false, .slice none 0 0] 26) = wa at HX0 HR0 HGA ⊢
  refine (HCC.out _ HR0.out HGA.out).mono ?_
  rintro e w1 ⟨rfl, hrd, hq⟩
  have HG1 := xh ((hq.G HGA.out HRB.out).trans ((G.refl w1).alloc (.cells #[I oo, I sub, I k, I a, I b, .string E0, .string E0, .string E0, .bool false, .slice kp kl kc] 26)))
  have HR1 := xh (hrd.G ((G.refl w1).alloc (.cells #[I oo, I sub, I k, I a, I b, .string E0, .string E0, .string E0, .bool false, .slice kp kl kc] 26)))
  have HX1 := xh ((HX0.out.Q hq).G ((G.refl w1).alloc (.cells #[I oo, I sub, I k, I a, I b, .string E0, .string E0, .string E0, .bool false, .slice kp kl kc] 26)))
  have HL1 : Hid (Lf rb w1.heap.size [I oo, I sub, I k, I a, I b, .string E0, .string E0, .string E0, .bool false, .slice kp kl kc] (w1.alloc (.cells #[I oo, I sub, I k, I a, I b, .string E0, .string E0, .string E0, .bool false, .slice kp kl kc] 26))) := ⟨fun o => by simp, by simp, by have := blk_lt hrd.c; omega⟩
  obtain ⟨lb, hlb⟩ : ∃ lb, lb = w1.heap.size := ⟨_, rfl⟩
  rw [← hlb] at HL1
  have HLB := xh hlb
  clear hrd hq HR0 HX0 HCC HGA hlb
  simp only [exV]
  go_wp2_with (first | (go_at_call 64; refine Hid.out ?_) | fail)
  unfold Hid
  rw [← HLB.out]
  generalize w1.alloc (.cells #[I oo, I sub, I k, I a, I b, .string E0, .string E0, .string E0, .bool false, .slice kp kl kc] 26) = w2 at HG1 HR1 HX1 HL1 ⊢
  refine (op_none HO.out HR1.out HG1.out HXX.out 3 (HST.out.o 3)).mono ?_
  rintro e w3 ⟨rfl, hg⟩
  have HR3 := xh (HR1.out.G hg)
  have HX3 := xh (HX1.out.G hg)
  have HL3 := xh (HL1.out.G hg)
  clear hg HR1 HX1 HL1 HG1
  go_wp2_with fail
  go_loopw [6] (fun p W => p = .int .i64 0 ∧ W = w3) (fun _ _ => 0)
  case atStart => exact ⟨rfl, rfl⟩
  case round =>
    obtain ⟨rfl, hw3⟩ := hrel
    subst hw3
    have hcl := HL3.out.c
    have hcr := HX3.out.c
    have hfr := HX3.out.f
    skip
    go_wp2
    refine bodyPost_ret (v := exV oo sub k a b kp kl kc) (by simp [results, Tryz.results34, go_sem, hcr, exV]) rfl ⟨rfl, HR3.out.ten HX3.out.n HGN.out _ _ _ _ _ _ _ _ _ _, HX3.out.q.ten (Nat.le_refl _) _ _ _ _ _ _ _ _ _ _⟩
set_option maxRecDepth 100000 in
set_option maxHeartbeats 1000000 in
theorem x_rk2 {w0 : World} (hO : OpV w0) {rb g : Nat} {ts : List Tok} {i j : Nat} {W : World} (h : Rd rb g ts i W) (g0 : G w0 W) (hr : w0.heap.size ≤ rb) {oo sub k a b : Int} {kp : Option Addr} {kl kc : Nat} {x : Tok} (hx : ts[j]? = some x) (hst : StopT x) (HC : ∀ W, Rd rb g ts i W → G w0 W → Calls Tryz.prog 34 #[ptr rb, .int .i64 3] W fun e W' => e = .returned (exV oo sub k a b kp kl kc) ∧ Rd rb g ts j W' ∧ Qr rb W W') : Calls Tryz.prog 34 #[ptr rb, .int .i64 2] W fun e W' => e = .returned (exV oo sub k a b kp kl kc) ∧ Rd rb g ts j W' ∧ Qr rb W W' := by
  have HX0 := xh (Rx.new (w := W) h.Q0.1)
  have HGN := xh h.Q0.2
  have HR0 := xh (h.G ((G.refl W).alloc (.cells #[I 0, I 0, I 0, I 0, I 0, .string E0, .string E0, .string E0, .bool false, .slice none 0 0] 26)))
  have HO := xh hO
  have HXX := xh hx
  have HST := xh hst
  have HCC := xh HC
  have HRB := xh hr
  have HGA := xh (g0.trans ((G.refl W).alloc (.cells #[I 0, I 0, I 0, I 0, I 0, .string E0, .string E0, .string E0, .bool false, .slice none 0 0] 26)))
  clear h g0 HC hO hx hst hr
  go_enter Tryz.func34, Tryz.ntmps34
  go_wp2_with (first | (go_at_call 34; refine Hid.out ?_) | fail)
  unfold Hid
  generalize W.alloc (.cells #[I 0, I 0, I 0, I 0, I 0, .string E0, .string E0, .string E0, .bool false, .slice none 0 0] 26) = wa at HX0 HR0 HGA ⊢
  refine (HCC.out _ HR0.out HGA.out).mono ?_
  rintro e w1 ⟨rfl, hrd, hq⟩
  have HG1 := xh ((hq.G HGA.out HRB.out).trans ((G.refl w1).alloc (.cells #[I oo, I sub, I k, I a, I b, .string E0, .string E0, .string E0, .bool false, .slice kp kl kc] 26)))
  have HR1 := xh (hrd.G ((G.refl w1).alloc (.cells #[I oo, I sub, I k, I a, I b, .string E0, .string E0, .string E0, .bool false, .slice kp kl kc] 26)))
  have HX1 := xh ((HX0.out.Q hq).G ((G.refl w1).alloc (.cells #[I oo, I sub, I k, I a, I b, .string E0, .string E0, .string E0, .bool false, .slice kp kl kc] 26)))
  have HL1 : Hid (Lf rb w1.heap.size [I oo, I sub, I k, I a, I b, .string E0, .string E0, .string E0, .bool false, .slice kp kl kc] (w1.alloc (.cells #[I oo, I sub, I k, I a, I b, .string E0, .string E0, .string E0, .bool false, .slice kp kl kc] 26))) := ⟨fun o => by simp, by simp, by have := blk_lt hrd.c; omega⟩
  obtain ⟨lb, hlb⟩ : ∃ lb, lb = w1.heap.size := ⟨_, rfl⟩
  rw [← hlb] at HL1
  have HLB := xh hlb
  clear hrd hq HR0 HX0 HCC HGA hlb
  simp only [exV]
  go_wp2_with (first | (go_at_call 64; refine Hid.out ?_) | fail)
  unfold Hid
  rw [← HLB.out]
  generalize w1.alloc (.cells #[I oo, I sub, I k, I a, I b, .string E0, .string E0, .string E0, .bool false, .slice kp kl kc] 26) = w2 at HG1 HR1 HX1 HL1 ⊢
  refine (op_none HO.out HR1.out HG1.out HXX.out 2 (HST.out.o 2)).mono ?_
  rintro e w3 ⟨rfl, hg⟩
  have HR3 := xh (HR1.out.G hg)
  have HX3 := xh (HX1.out.G hg)
  have HL3 := xh (HL1.out.G hg)
  clear hg HR1 HX1 HL1 HG1
  go_wp2_with fail
  go_loopw [6] (fun p W => p = .int .i64 0 ∧ W = w3) (fun _ _ => 0)
  case atStart => exact ⟨rfl, rfl⟩
  case round =>
    obtain ⟨rfl, hw3⟩ := hrel
    subst hw3
    have hcl := HL3.out.c
    have hcr := HX3.out.c
    have hfr := HX3.out.f
    skip
    go_wp2
    refine bodyPost_ret (v := exV oo sub k a b kp kl kc) (by simp [results, Tryz.results34, go_sem, hcr, exV]) rfl ⟨rfl, HR3.out.ten HX3.out.n HGN.out _ _ _ _ _ _ _ _ _ _, HX3.out.q.ten (Nat.le_refl _) _ _ _ _ _ _ _ _ _ _⟩
set_option maxRecDepth 100000 in
set_option maxHeartbeats 1000000 in
theorem x_rk1 {w0 : World} (hO : OpV w0) {rb g : Nat} {ts : List Tok} {i j : Nat} {W : World} (h : Rd rb g ts i W) (g0 : G w0 W) (hr : w0.heap.size ≤ rb) {oo sub k a b : Int} {kp : Option Addr} {kl kc : Nat} {x : Tok} (hx : ts[j]? = some x) (hst : StopT x) (HC : ∀ W, Rd rb g ts i W → G w0 W → Calls Tryz.prog 34 #[ptr rb, .int .i64 2] W fun e W' => e = .returned (exV oo sub k a b kp kl kc) ∧ Rd rb g ts j W' ∧ Qr rb W W') : Calls Tryz.prog 34 #[ptr rb, .int .i64 1] W fun e W' => e = .returned (exV oo sub k a b kp kl kc) ∧ Rd rb g ts j W' ∧ Qr rb W W' := by
  have HX0 := xh (Rx.new (w := W) h.Q0.1)
  have HGN := xh h.Q0.2
  have HR0 := xh (h.G ((G.refl W).alloc (.cells #[I 0, I 0, I 0, I 0, I 0, .string E0, .string E0, .string E0, .bool false, .slice none 0 0] 26)))
  have HO := xh hO
  have HXX := xh hx
  have HST := xh hst
  have HCC := xh HC
  have HRB := xh hr
  have HGA := xh (g0.trans ((G.refl W).alloc (.cells #[I 0, I 0, I 0, I 0, I 0, .string E0, .string E0, .string E0, .bool false, .slice none 0 0] 26)))
  clear h g0 HC hO hx hst hr
  go_enter Tryz.func34, Tryz.ntmps34
  go_wp2_with (first | (go_at_call 34; refine Hid.out ?_) | fail)
  unfold Hid
  generalize W.alloc (.cells #[I 0, I 0, I 0, I 0, I 0, .string E0, .string E0, .string E0, .bool false, .slice none 0 0] 26) = wa at HX0 HR0 HGA ⊢
  refine (HCC.out _ HR0.out HGA.out).mono ?_
  rintro e w1 ⟨rfl, hrd, hq⟩
  have HG1 := xh ((hq.G HGA.out HRB.out).trans ((G.refl w1).alloc (.cells #[I oo, I sub, I k, I a, I b, .string E0, .string E0, .string E0, .bool false, .slice kp kl kc] 26)))
  have HR1 := xh (hrd.G ((G.refl w1).alloc (.cells #[I oo, I sub, I k, I a, I b, .string E0, .string E0, .string E0, .bool false, .slice kp kl kc] 26)))
  have HX1 := xh ((HX0.out.Q hq).G ((G.refl w1).alloc (.cells #[I oo, I sub, I k, I a, I b, .string E0, .string E0, .string E0, .bool false, .slice kp kl kc] 26)))
  have HL1 : Hid (Lf rb w1.heap.size [I oo, I sub, I k, I a, I b, .string E0, .string E0, .string E0, .bool false, .slice kp kl kc] (w1.alloc (.cells #[I oo, I sub, I k, I a, I b, .string E0, .string E0, .string E0, .bool false, .slice kp kl kc] 26))) := ⟨fun o => by simp, by simp, by have := blk_lt hrd.c; omega⟩
  obtain ⟨lb, hlb⟩ : ∃ lb, lb = w1.heap.size := ⟨_, rfl⟩
  rw [← hlb] at HL1
  have HLB := xh hlb
  clear hrd hq HR0 HX0 HCC HGA hlb
  simp only [exV]
  go_wp2_with (first | (go_at_call 64; refine Hid.out ?_) | fail)
  unfold Hid
  rw [← HLB.out]
  generalize w1.alloc (.cells #[I oo, I sub, I k, I a, I b, .string E0, .string E0, .string E0, .bool false, .slice kp kl kc] 26) = w2 at HG1 HR1 HX1 HL1 ⊢
  refine (op_none HO.out HR1.out HG1.out HXX.out 1 (HST.out.o 1)).mono ?_
  rintro e w3 ⟨rfl, hg⟩
  have HR3 := xh (HR1.out.G hg)
  have HX3 := xh (HX1.out.G hg)
  have HL3 := xh (HL1.out.G hg)
  clear hg HR1 HX1 HL1 HG1
  go_wp2_with fail
  go_loopw [6] (fun p W => p = .int .i64 0 ∧ W = w3) (fun _ _ => 0)
  case atStart => exact ⟨rfl, rfl⟩
  case round =>
    obtain ⟨rfl, hw3⟩ := hrel
    subst hw3
    have hcl := HL3.out.c
    have hcr := HX3.out.c
    have hfr := HX3.out.f
    skip
    go_wp2
    refine bodyPost_ret (v := exV oo sub k a b kp kl kc) (by simp [results, Tryz.results34, go_sem, hcr, exV]) rfl ⟨rfl, HR3.out.ten HX3.out.n HGN.out _ _ _ _ _ _ _ _ _ _, HX3.out.q.ten (Nat.le_refl _) _ _ _ _ _ _ _ _ _ _⟩
set_option maxRecDepth 100000 in
set_option maxHeartbeats 1000000 in
theorem x_test_any {w0 : World} (hO : OpV w0) {rb g : Nat} {ts : List Tok} {i j : Nat} {W : World} (h : Rd rb g ts i W) (g0 : G w0 W) (hr : w0.heap.size ≤ rb) {oo sub k a b : Int} {kp : Option Addr} {kl kc : Nat} {x : Tok} (hx : ts[j]? = some x) (hst : StopT x) (HC : ∀ W, Rd rb g ts i W → G w0 W → Calls Tryz.prog 34 #[ptr rb, .int .i64 6] W fun e W' => e = .returned (exV oo sub k a b kp kl kc) ∧ Rd rb g ts j W' ∧ Qr rb W W') : Calls Tryz.prog 62 #[ptr rb] W fun e W' => e = .returned (exV oo sub k a b kp kl kc) ∧ Rd rb g ts j W' ∧ Qr rb W W' := by
  have HX0 := xh (Rx.new (w := W) h.Q0.1)
  have HGN := xh h.Q0.2
  have HR0 := xh (h.G ((G.refl W).alloc (.cells #[I 0, I 0, I 0, I 0, I 0, .string E0, .string E0, .string E0, .bool false, .slice none 0 0] 26)))
  have HO := xh hO
  have HXX := xh hx
  have HST := xh hst
  have HCC := xh HC
  have HRB := xh hr
  have HGA := xh (g0.trans ((G.refl W).alloc (.cells #[I 0, I 0, I 0, I 0, I 0, .string E0, .string E0, .string E0, .bool false, .slice none 0 0] 26)))
  clear h g0 HC hO hx hst hr
  go_enter Tryz.func62, Tryz.ntmps62
  go_wp2_with (first | (go_at_call 34; refine Hid.out ?_) | fail)
  unfold Hid
  generalize W.alloc (.cells #[I 0, I 0, I 0, I 0, I 0, .string E0, .string E0, .string E0, .bool false, .slice none 0 0] 26) = wa at HX0 HR0 HGA ⊢
  refine (HCC.out _ HR0.out HGA.out).mono ?_
  rintro e w1 ⟨rfl, hrd, hq⟩
  have HG1 := xh ((hq.G HGA.out HRB.out).trans ((G.refl w1).alloc (.cells #[I oo, I sub, I k, I a, I b, .string E0, .string E0, .string E0, .bool false, .slice kp kl kc] 26)))
  have HR1 := xh (hrd.G ((G.refl w1).alloc (.cells #[I oo, I sub, I k, I a, I b, .string E0, .string E0, .string E0, .bool false, .slice kp kl kc] 26)))
  have HX1 := xh ((HX0.out.Q hq).G ((G.refl w1).alloc (.cells #[I oo, I sub, I k, I a, I b, .string E0, .string E0, .string E0, .bool false, .slice kp kl kc] 26)))
  have HL1 : Hid (Lf rb w1.heap.size [I oo, I sub, I k, I a, I b, .string E0, .string E0, .string E0, .bool false, .slice kp kl kc] (w1.alloc (.cells #[I oo, I sub, I k, I a, I b, .string E0, .string E0, .string E0, .bool false, .slice kp kl kc] 26))) := ⟨fun o => by simp, by simp, by have := blk_lt hrd.c; omega⟩
  obtain ⟨lb, hlb⟩ : ∃ lb, lb = w1.heap.size := ⟨_, rfl⟩
  rw [← hlb] at HL1
  have HLB := xh hlb
  clear hrd hq HR0 HX0 HCC HGA hlb
  simp only [exV]
  go_wp2_with (first | (go_at_call 64; refine Hid.out ?_) | fail)
  unfold Hid
  rw [← HLB.out]
  generalize w1.alloc (.cells #[I oo, I sub, I k, I a, I b, .string E0, .string E0, .string E0, .bool false, .slice kp kl kc] 26) = w2 at HG1 HR1 HX1 HL1 ⊢
  refine (op_none HO.out HR1.out HG1.out HXX.out 5 (HST.out.o 5)).mono ?_
  rintro e w3 ⟨rfl, hg⟩
  have HR3 := xh (HR1.out.G hg)
  have HX3 := xh (HX1.out.G hg)
  have HL3 := xh (HL1.out.G hg)
  clear hg HR1 HX1 HL1 HG1
  go_wp2_with (first | (go_at_call 44; refine Hid.out ?_) | fail)
  unfold Hid
  refine (took_no HR3.out HXX.out ⟨#[105, 115]⟩ HST.out.s).mono ?_
  rintro e w4 ⟨rfl, hg⟩
  have HR4 := xh (HR3.out.G hg)
  have HX4 := xh (HX3.out.G hg)
  have HL4 := xh (HL3.out.G hg)
  clear hg HR3 HX3 HL3
  go_wp2_with (first | (go_at_call 44; refine Hid.out ?_) | fail)
  unfold Hid
  refine (took_no HR4.out HXX.out ⟨#[105, 110]⟩ HST.out.n).mono ?_
  rintro e w5 ⟨rfl, hg⟩
  have HR5 := xh (HR4.out.G hg)
  have HX5 := xh (HX4.out.G hg)
  have HL5 := xh (HL4.out.G hg)
  clear hg HR4 HX4 HL4
  have hcl := HL5.out.c
  have hcr := HX5.out.c
  have hfr := HX5.out.f
  skip
  go_wp2
  refine bodyPost_ret (v := exV oo sub k a b kp kl kc) (by simp [results, Tryz.results62, go_sem, hcr, exV]) rfl ⟨rfl, HR5.out.ten HX5.out.n HGN.out _ _ _ _ _ _ _ _ _ _, HX5.out.q.ten (Nat.le_refl _) _ _ _ _ _ _ _ _ _ _⟩
end
open Go.RowKit

/-- Cells at a block's beginning. -/
def Kd (kb : Nat) (vs : List Value) (W : World) : Prop := ∀ o v, vs[o]? = some v → W.cell? ⟨kb, o, none⟩ = some v
theorem Kd.keep {kb : Nat} {vs : List Value} {W W' : World} (h : Kd kb vs W) (hb : W'.heap[kb]? = W.heap[kb]?) : Kd kb vs W' := fun o v hv => (World.cell?_of_block hb).trans (h o v hv)
theorem Kd.new' {vs : List Value} {w : World} {t kb : Nat} (h : w.heap.size = kb) : Kd kb vs (w.alloc (.cells vs.toArray t)) := fun o v hv => by
  subst h
  have h1 : (w.alloc (.cells vs.toArray t)).cell? ⟨w.heap.size, o, none⟩ = vs[o]? := by simp
  rw [h1, hv]
set_option maxRecDepth 100000 in
set_option maxHeartbeats 1000000 in
theorem un_any (s1 : Int) (oo sub k a b : Int) (kp : Option Addr) (kl kc : Nat) (w : World) : Calls Tryz.prog 96 #[.int .i64 s1, exV oo sub k a b kp kl kc] w fun e W' => ∃ kb, e = .returned (exV 4 s1 0 0 0 (some ⟨kb, 0, none⟩) 1 1) ∧ Kd kb [I oo, I sub, I k, I a, I b, .string E0, .string E0, .string E0, .bool false, .slice kp kl kc] W' ∧ w.heap.size ≤ kb ∧ G w W' := by
  simp only [exV]
  go_enter Tryz.func96, Tryz.ntmps96
  go_wp2
  refine bodyPost_ret (v := .agg #[I 4, I s1, I 0, I 0, I 0, .string E0, .string E0, .string E0, .bool false, .slice (some ⟨w.heap.size + 1 + 1, 0, none⟩) 1 1]) (by simp [results, Tryz.results96, go_sem]) rfl ⟨w.heap.size + 1 + 1, rfl, ?_, by omega, (((G.refl w).alloc _).alloc _).alloc _⟩
  refine Kd.new' ?_
  simp
set_option maxRecDepth 100000 in
set_option maxHeartbeats 1000000 in
theorem bi_any (s1 : Int) (oo1 sub1 k1 a1 b1 : Int) (kp1 : Option Addr) (kl1 kc1 : Nat) (oo2 sub2 k2 a2 b2 : Int) (kp2 : Option Addr) (kl2 kc2 : Nat) (w : World) : Calls Tryz.prog 66 #[.int .i64 s1, exV oo1 sub1 k1 a1 b1 kp1 kl1 kc1, exV oo2 sub2 k2 a2 b2 kp2 kl2 kc2] w fun e W' => ∃ kb, e = .returned (exV 5 s1 0 0 0 (some ⟨kb, 0, none⟩) 2 2) ∧ Kd kb ([I oo1, I sub1, I k1, I a1, I b1, .string E0, .string E0, .string E0, .bool false, .slice kp1 kl1 kc1] ++ [I oo2, I sub2, I k2, I a2, I b2, .string E0, .string E0, .string E0, .bool false, .slice kp2 kl2 kc2]) W' ∧ w.heap.size ≤ kb ∧ G w W' := by
  simp only [exV]
  go_enter Tryz.func66, Tryz.ntmps66
  go_wp2
  refine bodyPost_ret (v := .agg #[I 5, I s1, I 0, I 0, I 0, .string E0, .string E0, .string E0, .bool false, .slice (some ⟨w.heap.size + 1 + 1 + 1, 0, none⟩) 2 2]) (by simp [results, Tryz.results66, go_sem]) rfl ⟨w.heap.size + 1 + 1 + 1, rfl, ?_, by omega, ((((G.refl w).alloc _).alloc _).alloc _).alloc _⟩
  refine Kd.new' ?_
  simp
/-- An expression so deep, in memory. -/
inductive Dp (lo : Nat) (W : World) : Nat → Value → Prop where
  | lit (k a b : Int) : Dp lo W 1 (exV 1 0 k a b none 0 0)
  | un {d : Nat} {o1 s1 : Int} {kb kc : Nat} {oo sub k a b : Int} {kp : Option Addr} {kl kc' : Nat} : Kd kb [I oo, I sub, I k, I a, I b, .string E0, .string E0, .string E0, .bool false, .slice kp kl kc'] W → lo ≤ kb → 1 ≤ kc → ¬ o1 = 0 → Dp lo W d (exV oo sub k a b kp kl kc') → Dp lo W (d + 1) (exV o1 s1 0 0 0 (some ⟨kb, 0, none⟩) 1 kc)
  | bi {d : Nat} {o1 s1 : Int} {kb kc : Nat} {oo sub k a b : Int} {kp : Option Addr} {kl kc' : Nat} {k2 a2 b2 : Int} : Kd kb ([I oo, I sub, I k, I a, I b, .string E0, .string E0, .string E0, .bool false, .slice kp kl kc'] ++ [I 1, I 0, I k2, I a2, I b2, .string E0, .string E0, .string E0, .bool false, .slice none 0 0]) W → lo ≤ kb → 2 ≤ kc → ¬ o1 = 0 → Dp lo W d (exV oo sub k a b kp kl kc') → Dp lo W (d + 1) (exV o1 s1 0 0 0 (some ⟨kb, 0, none⟩) 2 kc)
theorem Dp.keep {lo : Nat} {W W' : World} {d : Nat} {v : Value} (h : Dp lo W d v) (q : ∀ k, lo ≤ k → k < W.heap.size → W'.heap[k]? = W.heap[k]?) : Dp lo W' d v := by
  induction h with
  | lit k a b => exact .lit k a b
  | un hk hn hc ho _ ih => exact .un (hk.keep (q _ hn (cell_lt (hk 0 _ rfl)))) hn hc ho ih
  | bi hk hn hc ho _ ih => exact .bi (hk.keep (q _ hn (cell_lt (hk 0 _ rfl)))) hn hc ho ih
theorem Dp.low {lo lo' : Nat} {W : World} {d : Nat} {v : Value} (h : Dp lo W d v) (hl : lo' ≤ lo) : Dp lo' W d v := by
  induction h with
  | lit k a b => exact .lit k a b
  | un hk hn hc ho _ ih => exact .un hk (by omega) hc ho ih
  | bi hk hn hc ho _ ih => exact .bi hk (by omega) hc ho ih
theorem Dp.G {lo : Nat} {W W' : World} {d : Nat} {v : Value} (h : Dp lo W d v) (g : G W W') : Dp lo W' d v := h.keep fun k _ hk => g.block k hk
theorem Dp.Q {lo rb : Nat} {W W' : World} {d : Nat} {v : Value} (h : Dp lo W d v) (q : Qr rb W W') (hr : rb < lo) : Dp lo W' d v := h.keep fun k h1 hk => q.block k hk (by omega)
theorem Dp.set {lo : Nat} {W : World} {d : Nat} {v : Value} (h : Dp lo W d v) {n : Nat} (o : Nat) (u : Value) (hn : n < lo) : Dp lo (W.setCell ⟨n, o, none⟩ u) d v := h.keep fun k h1 _ => set_other W n o k u (by omega)
theorem Dp.ten {lo : Nat} {W : World} {d : Nat} {v : Value} (h : Dp lo W d v) {n : Nat} (hn : n < lo) (v0 v1 v2 v3 v4 v5 v6 v7 v8 v9 : Value) : Dp lo ((((((((((W.setCell ⟨n, 0, none⟩ v0).setCell ⟨n, 1, none⟩ v1).setCell ⟨n, 2, none⟩ v2).setCell ⟨n, 3, none⟩ v3).setCell ⟨n, 4, none⟩ v4).setCell ⟨n, 5, none⟩ v5).setCell ⟨n, 6, none⟩ v6).setCell ⟨n, 7, none⟩ v7).setCell ⟨n, 8, none⟩ v8).setCell ⟨n, 9, none⟩ v9) d v :=
  (((((((((h.set 0 v0 hn).set 1 v1 hn).set 2 v2 hn).set 3 v3 hn).set 4 v4 hn).set 5 v5 hn).set 6 v6 hn).set 7 v7 hn).set 8 v8 hn).set 9 v9 hn
theorem Dp.pos {rb : Nat} {W : World} {d : Nat} {v : Value} (h : Dp rb W d v) : 1 ≤ d := by cases h <;> omega
set_option maxRecDepth 100000 in
set_option maxHeartbeats 1000000 in
theorem deep_0 (rb : Nat) {d : Nat} {v : Value} {W : World} (h : Dp rb W d v) : Calls Tryz.prog 18 #[v, .int .i64 0] W fun e W' => e = .returned (.bool true) ∧ G W W' := by
  obtain ⟨oo, sub, k, a, b, kp, kl, kc, rfl⟩ : ∃ oo sub k a b kp kl kc, v = exV oo sub k a b kp kl kc := by
    cases h <;> exact ⟨_, _, _, _, _, _, _, _, rfl⟩
  simp only [exV]
  go_enter Tryz.func18, Tryz.ntmps18
  go_wp2
  go_ret
  exact ⟨rfl, (G.refl W).alloc _⟩
set_option maxRecDepth 100000 in
set_option maxHeartbeats 1000000 in
theorem deep_lit1 {k a b : Int} (m : Nat) (h1 : 1 ≤ m) (h2 : m ≤ 100) (W : World) : Calls Tryz.prog 18 #[exV 1 0 k a b none 0 0, .int .i64 (m : Int)] W fun e W' => e = .returned (.bool false) ∧ G W W' := by
  have hne : ¬ ((m : Int) = 0) := by omega
  have HG := xh ((G.refl W).alloc (.cells #[I 1, I 0, I k, I a, I b, .string E0, .string E0, .string E0, .bool false, .slice none 0 0] 26))
  simp only [exV]
  go_enter Tryz.func18, Tryz.ntmps18
  go_wp2_with fail
  generalize W.alloc (.cells #[I 1, I 0, I k, I a, I b, .string E0, .string E0, .string E0, .bool false, .slice none 0 0] 26) = wa at HG ⊢
  go_loopw [12] (fun p W => p = .int .i64 0 ∧ W = wa) (fun _ _ => 0)
  case atStart => exact ⟨rfl, rfl⟩
  case round =>
    obtain ⟨rfl, hw⟩ := hrel
    subst hw
    go_wp2
    go_ret
    exact ⟨rfl, HG.out⟩
set_option maxRecDepth 100000 in
set_option maxHeartbeats 1000000 in
theorem deep_un (rb m : Nat) (hm : m ≤ 100) {d : Nat} (hd1 : 1 ≤ d) {o1 s1 : Int} {kb kc0 : Nat} {oo sub k a b : Int} {kp : Option Addr} {kl kc : Nat} {W : World} (hk : Kd kb [I oo, I sub, I k, I a, I b, .string E0, .string E0, .string E0, .bool false, .slice kp kl kc] W) (hcp : 1 ≤ kc0) (HC : ∀ W, Dp rb W d (exV oo sub k a b kp kl kc) → Calls Tryz.prog 18 #[exV oo sub k a b kp kl kc, .int .i64 (m : Int)] W fun e W' => e = .returned (.bool (decide (m < d))) ∧ G W W') (hd : Dp rb W d (exV oo sub k a b kp kl kc)) : Calls Tryz.prog 18 #[exV o1 s1 0 0 0 (some ⟨kb, 0, none⟩) 1 kc0, .int .i64 ((m + 1 : Nat) : Int)] W fun e W' => e = .returned (.bool (decide (m + 1 < d + 1))) ∧ G W W' := by
  obtain ⟨M, hM⟩ : ∃ M : Int, M = ((m + 1 : Nat) : Int) := ⟨_, rfl⟩
  rw [← hM]
  have hms : wrap64 (M - 1) = (m : Int) := by unfold wrap64; omega
  have hne : (M == 0) = false := beq_false_of_ne (by omega)
  clear hM
  have hcI : (1 : Int) ≤ (kc0 : Int) := by omega
  have hga : G W (W.alloc (.cells #[I o1, I s1, I 0, I 0, I 0, .string E0, .string E0, .string E0, .bool false, .slice (some ⟨kb, 0, none⟩) 1 kc0] 26)) := (G.refl W).alloc _
  have HK := xh (hk.keep (hga.block kb (cell_lt (hk 0 _ rfl))))
  have HD := xh (hd.G hga)
  have HGA := xh hga
  have HCC := xh HC
  have HM := xh hm
  have HD1 := xh hd1
  clear hk hd HC hga hcp hm hd1
  simp only [exV] at HD HCC ⊢
  go_enter Tryz.func18, Tryz.ntmps18
  go_wp2_with fail
  generalize W.alloc (.cells #[I o1, I s1, I 0, I 0, I 0, .string E0, .string E0, .string E0, .bool false, .slice (some ⟨kb, 0, none⟩) 1 kc0] 26) = wa at HK HD HGA ⊢
  go_loopw [12] (fun p W' => ∃ j : Nat, j ≤ 1 ∧ p = .int .i64 (j : Int) ∧ G wa W' ∧ (0 < j → decide (m < d) = false)) (fun p _ => 1 - (RowKit.intOf p).toNat)
  case atStart => exact ⟨0, by omega, rfl, G.refl _, fun h => by omega⟩
  case round =>
    obtain ⟨j, hj, rfl, hg, hf⟩ := hrel
    have HGR := xh hg
    have HKR := xh (HK.out.keep (hg.block kb (cell_lt (HK.out 0 _ rfl))))
    have HDR := xh (HD.out.G ((hg.alloc (.cells #[I oo, I sub, I k, I a, I b, .string E0, .string E0, .string E0, .bool false, .slice kp kl kc] 26))))
    have HF := xh hf
    clear hg hf
    by_cases h0 : j = 0
    · subst h0
      clear HF hj
      have c0 := (HKR.out) 0 _ rfl
      have c1 := (HKR.out) 1 _ rfl
      have c2 := (HKR.out) 2 _ rfl
      have c3 := (HKR.out) 3 _ rfl
      have c4 := (HKR.out) 4 _ rfl
      have c5 := (HKR.out) 5 _ rfl
      have c6 := (HKR.out) 6 _ rfl
      have c7 := (HKR.out) 7 _ rfl
      have c8 := (HKR.out) 8 _ rfl
      have c9 := (HKR.out) 9 _ rfl
      go_wp2_with (first | (go_at_call 18; refine Hid.out ?_) | fail)
      unfold Hid
      try rw [hms]
      refine (HCC.out _ HDR.out).mono ?_
      rintro e w4 ⟨rfl, hg⟩
      have HG4 := xh ((HGR.out.alloc (.cells #[I oo, I sub, I k, I a, I b, .string E0, .string E0, .string E0, .bool false, .slice kp kl kc] 26)).trans hg)
      clear hg c0 c1 c2 c3 c4 c5 c6 c7 c8 c9
      by_cases hmd : m < d
      · rw [decide_eq_true hmd]
        have hfin : decide (m + 1 < d + 1) = true := decide_eq_true (by omega)
        go_wp2
        go_ret
        exact ⟨by rw [hfin]; rfl, HGA.out.trans HG4.out⟩
      · rw [decide_eq_false hmd]
        go_wp2
        go_roundw
        case rel => exact ⟨1, by omega, by go_num, HG4.out, fun _ => decide_eq_false hmd⟩
        case measure => simp [RowKit.intOf]
    obtain rfl : j = 1 := by omega
    have hmd := of_decide_eq_false (HF.out (by omega))
    have hfin : decide (m + 1 < d + 1) = false := decide_eq_false (by omega)
    go_wp2
    go_ret
    exact ⟨by rw [hfin]; rfl, HGA.out.trans HGR.out⟩
set_option maxRecDepth 100000 in
set_option maxHeartbeats 1000000 in
theorem deep_bi (rb m : Nat) (hm : m ≤ 100) {d : Nat} (hd1 : 1 ≤ d) {o1 s1 : Int} {kb kc0 : Nat} {oo sub k a b : Int} {kp : Option Addr} {kl kc : Nat} {k2 a2 b2 : Int} {W : World} (hk : Kd kb ([I oo, I sub, I k, I a, I b, .string E0, .string E0, .string E0, .bool false, .slice kp kl kc] ++ [I 1, I 0, I k2, I a2, I b2, .string E0, .string E0, .string E0, .bool false, .slice none 0 0]) W) (hcp : 2 ≤ kc0) (HC : ∀ W, Dp rb W d (exV oo sub k a b kp kl kc) → Calls Tryz.prog 18 #[exV oo sub k a b kp kl kc, .int .i64 (m : Int)] W fun e W' => e = .returned (.bool (decide (m < d))) ∧ G W W') (hd : Dp rb W d (exV oo sub k a b kp kl kc)) : Calls Tryz.prog 18 #[exV o1 s1 0 0 0 (some ⟨kb, 0, none⟩) 2 kc0, .int .i64 ((m + 1 : Nat) : Int)] W fun e W' => e = .returned (.bool (decide (m + 1 < d + 1))) ∧ G W W' := by
  obtain ⟨M, hM⟩ : ∃ M : Int, M = ((m + 1 : Nat) : Int) := ⟨_, rfl⟩
  rw [← hM]
  have hms : wrap64 (M - 1) = (m : Int) := by unfold wrap64; omega
  have hne : (M == 0) = false := beq_false_of_ne (by omega)
  clear hM
  have hcI : (2 : Int) ≤ (kc0 : Int) := by omega
  have hga : G W (W.alloc (.cells #[I o1, I s1, I 0, I 0, I 0, .string E0, .string E0, .string E0, .bool false, .slice (some ⟨kb, 0, none⟩) 2 kc0] 26)) := (G.refl W).alloc _
  have HK := xh (hk.keep (hga.block kb (cell_lt (hk 0 _ rfl))))
  have HD := xh (hd.G hga)
  have HGA := xh hga
  have HCC := xh HC
  have HM := xh hm
  have HD1 := xh hd1
  clear hk hd HC hga hcp hm hd1
  simp only [exV] at HD HCC ⊢
  go_enter Tryz.func18, Tryz.ntmps18
  go_wp2_with fail
  generalize W.alloc (.cells #[I o1, I s1, I 0, I 0, I 0, .string E0, .string E0, .string E0, .bool false, .slice (some ⟨kb, 0, none⟩) 2 kc0] 26) = wa at HK HD HGA ⊢
  go_loopw [12] (fun p W' => ∃ j : Nat, j ≤ 2 ∧ p = .int .i64 (j : Int) ∧ G wa W' ∧ (0 < j → decide (m < d) = false)) (fun p _ => 2 - (RowKit.intOf p).toNat)
  case atStart => exact ⟨0, by omega, rfl, G.refl _, fun h => by omega⟩
  case round =>
    obtain ⟨j, hj, rfl, hg, hf⟩ := hrel
    have HGR := xh hg
    have HKR := xh (HK.out.keep (hg.block kb (cell_lt (HK.out 0 _ rfl))))
    have HDR := xh (HD.out.G ((hg.alloc (.cells #[I oo, I sub, I k, I a, I b, .string E0, .string E0, .string E0, .bool false, .slice kp kl kc] 26))))
    have HF := xh hf
    clear hg hf
    by_cases h0 : j = 0
    · subst h0
      clear HF hj
      have c0 := (HKR.out) 0 _ rfl
      have c1 := (HKR.out) 1 _ rfl
      have c2 := (HKR.out) 2 _ rfl
      have c3 := (HKR.out) 3 _ rfl
      have c4 := (HKR.out) 4 _ rfl
      have c5 := (HKR.out) 5 _ rfl
      have c6 := (HKR.out) 6 _ rfl
      have c7 := (HKR.out) 7 _ rfl
      have c8 := (HKR.out) 8 _ rfl
      have c9 := (HKR.out) 9 _ rfl
      go_wp2_with (first | (go_at_call 18; refine Hid.out ?_) | fail)
      unfold Hid
      try rw [hms]
      refine (HCC.out _ HDR.out).mono ?_
      rintro e w4 ⟨rfl, hg⟩
      have HG4 := xh ((HGR.out.alloc (.cells #[I oo, I sub, I k, I a, I b, .string E0, .string E0, .string E0, .bool false, .slice kp kl kc] 26)).trans hg)
      clear hg c0 c1 c2 c3 c4 c5 c6 c7 c8 c9
      by_cases hmd : m < d
      · rw [decide_eq_true hmd]
        have hfin : decide (m + 1 < d + 1) = true := decide_eq_true (by omega)
        go_wp2
        go_ret
        exact ⟨by rw [hfin]; rfl, HGA.out.trans HG4.out⟩
      · rw [decide_eq_false hmd]
        go_wp2
        go_roundw
        case rel => exact ⟨1, by omega, by go_num, HG4.out, fun _ => decide_eq_false hmd⟩
        case measure => simp [RowKit.intOf]
    by_cases h1 : j = 1
    · subst h1
      have hmd : decide (m < d) = false := HF.out (by omega)
      have HM1 : Hid (1 ≤ m) := by have := of_decide_eq_false hmd; have := HD1.out; unfold Hid; omega
      have HDL := xh (deep_lit1 (k := k2) (a := a2) (b := b2) m HM1.out HM.out)
      simp only [exV] at HDL
      clear HF hj HDR
      have c0 := (HKR.out) 10 _ rfl
      have c1 := (HKR.out) 11 _ rfl
      have c2 := (HKR.out) 12 _ rfl
      have c3 := (HKR.out) 13 _ rfl
      have c4 := (HKR.out) 14 _ rfl
      have c5 := (HKR.out) 15 _ rfl
      have c6 := (HKR.out) 16 _ rfl
      have c7 := (HKR.out) 17 _ rfl
      have c8 := (HKR.out) 18 _ rfl
      have c9 := (HKR.out) 19 _ rfl
      go_wp2_with (first | (go_at_call 18; refine Hid.out ?_) | fail)
      unfold Hid
      try rw [hms]
      refine (HDL.out _).mono ?_
      rintro e w4 ⟨rfl, hg⟩
      have HG4 := xh ((HGR.out.alloc (.cells #[I 1, I 0, I k2, I a2, I b2, .string E0, .string E0, .string E0, .bool false, .slice none 0 0] 26)).trans hg)
      clear hg c0 c1 c2 c3 c4 c5 c6 c7 c8 c9
      go_wp2
      go_roundw
      case rel => exact ⟨2, by omega, by go_num, HG4.out, fun _ => hmd⟩
      case measure => simp [RowKit.intOf]
    obtain rfl : j = 2 := by omega
    have hmd := of_decide_eq_false (HF.out (by omega))
    have hfin : decide (m + 1 < d + 1) = false := decide_eq_false (by omega)
    go_wp2
    go_ret
    exact ⟨by rw [hfin]; rfl, HGA.out.trans HGR.out⟩
theorem deep_any (rb : Nat) : ∀ (m : Nat), m ≤ 100 → ∀ (d : Nat) (v : Value) (W : World), Dp rb W d v → Calls Tryz.prog 18 #[v, .int .i64 (m : Int)] W fun e W' => e = .returned (.bool (decide (m < d))) ∧ G W W'
  | 0, _, d, v, W, h => by
    rw [decide_eq_true (by have := h.pos; omega)]
    exact deep_0 rb h
  | m + 1, hm, d, v, W, h => by
    cases h with
    | lit k a b =>
      rw [decide_eq_false (by omega)]
      exact deep_lit1 (m + 1) (by omega) hm W
    | un hk hn hc ho hd => exact deep_un rb m (by omega) hd.pos hk hc (fun W h => deep_any rb m (by omega) _ _ W h) hd
    | bi hk hn hc ho hd => exact deep_bi rb m (by omega) hd.pos hk hc (fun W h => deep_any rb m (by omega) _ _ W h) hd
end
open Go.RowKit

set_option maxRecDepth 100000 in
set_option maxHeartbeats 1000000 in
theorem y_rk8 {w0 : World} {rb g : Nat} {ts : List Tok} {i j : Nat} {W : World} (h : Rd rb g ts i W) (g0 : G w0 W) {d : Nat} (HC : ∀ W, Rd rb g ts i W → G w0 W → Calls Tryz.prog 63 #[ptr rb] W fun e W' => (∃ oo sub k a b kp kl kc, e = .returned (exV oo sub k a b kp kl kc) ∧ ¬ oo = 0 ∧ Dp W.heap.size W' d (exV oo sub k a b kp kl kc)) ∧ Rd rb g ts j W' ∧ Qr rb W W') : Calls Tryz.prog 34 #[ptr rb, .int .i64 8] W fun e W' => (∃ oo sub k a b kp kl kc, e = .returned (exV oo sub k a b kp kl kc) ∧ ¬ oo = 0 ∧ Dp W.heap.size W' d (exV oo sub k a b kp kl kc)) ∧ Rd rb g ts j W' ∧ Qr rb W W' := by
  have HX0 := xh (Rx.new (w := W) h.Q0.1)
  have HGN := xh h.Q0.2
  have HR0 := xh (h.G ((G.refl W).alloc (.cells #[I 0, I 0, I 0, I 0, I 0, .string E0, .string E0, .string E0, .bool false, .slice none 0 0] 26)))
  have HNA : Hid (W.heap.size < (W.alloc (.cells #[I 0, I 0, I 0, I 0, I 0, .string E0, .string E0, .string E0, .bool false, .slice none 0 0] 26)).heap.size) := by unfold Hid; simp
  have HCC := xh HC
  have HGA := xh (g0.trans ((G.refl W).alloc (.cells #[I 0, I 0, I 0, I 0, I 0, .string E0, .string E0, .string E0, .bool false, .slice none 0 0] 26)))
  clear h g0 HC
  go_enter Tryz.func34, Tryz.ntmps34
  go_wp2_with (first | (go_at_call 63; refine Hid.out ?_) | fail)
  unfold Hid
  generalize W.alloc (.cells #[I 0, I 0, I 0, I 0, I 0, .string E0, .string E0, .string E0, .bool false, .slice none 0 0] 26) = wa at HX0 HR0 HGA HNA ⊢
  refine (HCC.out _ HR0.out HGA.out).mono ?_
  rintro e w1 ⟨⟨oo, sub, k, a, b, kp, kl, kc, rfl, hoo, hdp⟩, hrd, hq⟩
  have HR1 := xh hrd
  have HX1 := xh (HX0.out.Q hq)
  have HD1 := xh (hdp.low (Nat.succ_le_of_lt HNA.out))
  have HOO := xh hoo
  clear hrd hq HR0 HX0 hdp hoo
  have hcr := HX1.out.c
  have hfr := HX1.out.f
  simp only [exV]
  go_wp2
  refine bodyPost_ret (v := exV oo sub k a b kp kl kc) (by simp [results, Tryz.results34, go_sem, hcr, exV]) rfl ⟨⟨oo, sub, k, a, b, kp, kl, kc, rfl, HOO.out, (HD1.out.ten (Nat.lt_succ_self _) _ _ _ _ _ _ _ _ _ _).low (Nat.le_succ _)⟩, HR1.out.ten HX1.out.n HGN.out _ _ _ _ _ _ _ _ _ _, HX1.out.q.ten (Nat.le_refl _) _ _ _ _ _ _ _ _ _ _⟩
set_option maxRecDepth 100000 in
set_option maxHeartbeats 1000000 in
theorem y_rk5 {w0 : World} {rb g : Nat} {ts : List Tok} {i j : Nat} {W : World} (h : Rd rb g ts i W) (g0 : G w0 W) {d : Nat} (HC : ∀ W, Rd rb g ts i W → G w0 W → Calls Tryz.prog 62 #[ptr rb] W fun e W' => (∃ oo sub k a b kp kl kc, e = .returned (exV oo sub k a b kp kl kc) ∧ ¬ oo = 0 ∧ Dp W.heap.size W' d (exV oo sub k a b kp kl kc)) ∧ Rd rb g ts j W' ∧ Qr rb W W') : Calls Tryz.prog 34 #[ptr rb, .int .i64 5] W fun e W' => (∃ oo sub k a b kp kl kc, e = .returned (exV oo sub k a b kp kl kc) ∧ ¬ oo = 0 ∧ Dp W.heap.size W' d (exV oo sub k a b kp kl kc)) ∧ Rd rb g ts j W' ∧ Qr rb W W' := by
  have HX0 := xh (Rx.new (w := W) h.Q0.1)
  have HGN := xh h.Q0.2
  have HR0 := xh (h.G ((G.refl W).alloc (.cells #[I 0, I 0, I 0, I 0, I 0, .string E0, .string E0, .string E0, .bool false, .slice none 0 0] 26)))
  have HNA : Hid (W.heap.size < (W.alloc (.cells #[I 0, I 0, I 0, I 0, I 0, .string E0, .string E0, .string E0, .bool false, .slice none 0 0] 26)).heap.size) := by unfold Hid; simp
  have HCC := xh HC
  have HGA := xh (g0.trans ((G.refl W).alloc (.cells #[I 0, I 0, I 0, I 0, I 0, .string E0, .string E0, .string E0, .bool false, .slice none 0 0] 26)))
  clear h g0 HC
  go_enter Tryz.func34, Tryz.ntmps34
  go_wp2_with (first | (go_at_call 62; refine Hid.out ?_) | fail)
  unfold Hid
  generalize W.alloc (.cells #[I 0, I 0, I 0, I 0, I 0, .string E0, .string E0, .string E0, .bool false, .slice none 0 0] 26) = wa at HX0 HR0 HGA HNA ⊢
  refine (HCC.out _ HR0.out HGA.out).mono ?_
  rintro e w1 ⟨⟨oo, sub, k, a, b, kp, kl, kc, rfl, hoo, hdp⟩, hrd, hq⟩
  have HR1 := xh hrd
  have HX1 := xh (HX0.out.Q hq)
  have HD1 := xh (hdp.low (Nat.succ_le_of_lt HNA.out))
  have HOO := xh hoo
  clear hrd hq HR0 HX0 hdp hoo
  have hcr := HX1.out.c
  have hfr := HX1.out.f
  simp only [exV]
  go_wp2
  refine bodyPost_ret (v := exV oo sub k a b kp kl kc) (by simp [results, Tryz.results34, go_sem, hcr, exV]) rfl ⟨⟨oo, sub, k, a, b, kp, kl, kc, rfl, HOO.out, (HD1.out.ten (Nat.lt_succ_self _) _ _ _ _ _ _ _ _ _ _).low (Nat.le_succ _)⟩, HR1.out.ten HX1.out.n HGN.out _ _ _ _ _ _ _ _ _ _, HX1.out.q.ten (Nat.le_refl _) _ _ _ _ _ _ _ _ _ _⟩
set_option maxRecDepth 100000 in
set_option maxHeartbeats 1000000 in
theorem y_rk4 {w0 : World} {rb g : Nat} {ts : List Tok} {i j : Nat} {W : World} (h : Rd rb g ts i W) (g0 : G w0 W) {d : Nat} (HC : ∀ W, Rd rb g ts i W → G w0 W → Calls Tryz.prog 61 #[ptr rb] W fun e W' => (∃ oo sub k a b kp kl kc, e = .returned (exV oo sub k a b kp kl kc) ∧ ¬ oo = 0 ∧ Dp W.heap.size W' d (exV oo sub k a b kp kl kc)) ∧ Rd rb g ts j W' ∧ Qr rb W W') : Calls Tryz.prog 34 #[ptr rb, .int .i64 4] W fun e W' => (∃ oo sub k a b kp kl kc, e = .returned (exV oo sub k a b kp kl kc) ∧ ¬ oo = 0 ∧ Dp W.heap.size W' d (exV oo sub k a b kp kl kc)) ∧ Rd rb g ts j W' ∧ Qr rb W W' := by
  have HX0 := xh (Rx.new (w := W) h.Q0.1)
  have HGN := xh h.Q0.2
  have HR0 := xh (h.G ((G.refl W).alloc (.cells #[I 0, I 0, I 0, I 0, I 0, .string E0, .string E0, .string E0, .bool false, .slice none 0 0] 26)))
  have HNA : Hid (W.heap.size < (W.alloc (.cells #[I 0, I 0, I 0, I 0, I 0, .string E0, .string E0, .string E0, .bool false, .slice none 0 0] 26)).heap.size) := by unfold Hid; simp
  have HCC := xh HC
  have HGA := xh (g0.trans ((G.refl W).alloc (.cells #[I 0, I 0, I 0, I 0, I 0, .string E0, .string E0, .string E0, .bool false, .slice none 0 0] 26)))
  clear h g0 HC
  go_enter Tryz.func34, Tryz.ntmps34
  go_wp2_with (first | (go_at_call 61; refine Hid.out ?_) | fail)
  unfold Hid
  generalize W.alloc (.cells #[I 0, I 0, I 0, I 0, I 0, .string E0, .string E0, .string E0, .bool false, .slice none 0 0] 26) = wa at HX0 HR0 HGA HNA ⊢
  refine (HCC.out _ HR0.out HGA.out).mono ?_
  rintro e w1 ⟨⟨oo, sub, k, a, b, kp, kl, kc, rfl, hoo, hdp⟩, hrd, hq⟩
  have HR1 := xh hrd
  have HX1 := xh (HX0.out.Q hq)
  have HD1 := xh (hdp.low (Nat.succ_le_of_lt HNA.out))
  have HOO := xh hoo
  clear hrd hq HR0 HX0 hdp hoo
  have hcr := HX1.out.c
  have hfr := HX1.out.f
  simp only [exV]
  go_wp2
  refine bodyPost_ret (v := exV oo sub k a b kp kl kc) (by simp [results, Tryz.results34, go_sem, hcr, exV]) rfl ⟨⟨oo, sub, k, a, b, kp, kl, kc, rfl, HOO.out, (HD1.out.ten (Nat.lt_succ_self _) _ _ _ _ _ _ _ _ _ _).low (Nat.le_succ _)⟩, HR1.out.ten HX1.out.n HGN.out _ _ _ _ _ _ _ _ _ _, HX1.out.q.ten (Nat.le_refl _) _ _ _ _ _ _ _ _ _ _⟩
set_option maxRecDepth 100000 in
set_option maxHeartbeats 1000000 in
theorem y_ex1 {w0 : World} {rb g : Nat} {ts : List Tok} {i j : Nat} {W : World} (h : Rd rb g ts i W) (g0 : G w0 W) {d : Nat} (HC : ∀ W, Rd rb g ts i W → G w0 W → Calls Tryz.prog 34 #[ptr rb, .int .i64 1] W fun e W' => (∃ oo sub k a b kp kl kc, e = .returned (exV oo sub k a b kp kl kc) ∧ ¬ oo = 0 ∧ Dp W.heap.size W' d (exV oo sub k a b kp kl kc)) ∧ Rd rb g ts j W' ∧ Qr rb W W') : Calls Tryz.prog 17 #[ptr rb] W fun e W' => (∃ oo sub k a b kp kl kc, e = .returned (exV oo sub k a b kp kl kc) ∧ ¬ oo = 0 ∧ Dp W.heap.size W' d (exV oo sub k a b kp kl kc)) ∧ Rd rb g ts j W' ∧ Qr rb W W' := by
  have HX0 := xh (Rx.new (w := W) h.Q0.1)
  have HGN := xh h.Q0.2
  have HR0 := xh (h.G ((G.refl W).alloc (.cells #[I 0, I 0, I 0, I 0, I 0, .string E0, .string E0, .string E0, .bool false, .slice none 0 0] 26)))
  have HNA : Hid (W.heap.size < (W.alloc (.cells #[I 0, I 0, I 0, I 0, I 0, .string E0, .string E0, .string E0, .bool false, .slice none 0 0] 26)).heap.size) := by unfold Hid; simp
  have HCC := xh HC
  have HGA := xh (g0.trans ((G.refl W).alloc (.cells #[I 0, I 0, I 0, I 0, I 0, .string E0, .string E0, .string E0, .bool false, .slice none 0 0] 26)))
  clear h g0 HC
  go_enter Tryz.func17, Tryz.ntmps17
  go_wp2_with (first | (go_at_call 34; refine Hid.out ?_) | fail)
  unfold Hid
  generalize W.alloc (.cells #[I 0, I 0, I 0, I 0, I 0, .string E0, .string E0, .string E0, .bool false, .slice none 0 0] 26) = wa at HX0 HR0 HGA HNA ⊢
  refine (HCC.out _ HR0.out HGA.out).mono ?_
  rintro e w1 ⟨⟨oo, sub, k, a, b, kp, kl, kc, rfl, hoo, hdp⟩, hrd, hq⟩
  have HR1 := xh hrd
  have HX1 := xh (HX0.out.Q hq)
  have HD1 := xh (hdp.low (Nat.succ_le_of_lt HNA.out))
  have HOO := xh hoo
  clear hrd hq HR0 HX0 hdp hoo
  have hcr := HX1.out.c
  have hfr := HX1.out.f
  simp only [exV]
  go_wp2
  refine bodyPost_ret (v := exV oo sub k a b kp kl kc) (by simp [results, Tryz.results17, go_sem, hcr, exV]) rfl ⟨⟨oo, sub, k, a, b, kp, kl, kc, rfl, HOO.out, (HD1.out.ten (Nat.lt_succ_self _) _ _ _ _ _ _ _ _ _ _).low (Nat.le_succ _)⟩, HR1.out.ten HX1.out.n HGN.out _ _ _ _ _ _ _ _ _ _, HX1.out.q.ten (Nat.le_refl _) _ _ _ _ _ _ _ _ _ _⟩
set_option maxRecDepth 100000 in
set_option maxHeartbeats 1000000 in
theorem y_not_any {w0 : World} {rb g : Nat} {ts : List Tok} {i j : Nat} {W : World} (h : Rd rb g ts i W) (g0 : G w0 W) {d : Nat} {y : Tok} (hy : ts[i]? = some y) (hn : seB y ⟨#[110, 111, 116]⟩ = false) (HC : ∀ W, Rd rb g ts i W → G w0 W → Calls Tryz.prog 34 #[ptr rb, .int .i64 5] W fun e W' => (∃ oo sub k a b kp kl kc, e = .returned (exV oo sub k a b kp kl kc) ∧ ¬ oo = 0 ∧ Dp W.heap.size W' d (exV oo sub k a b kp kl kc)) ∧ Rd rb g ts j W' ∧ Qr rb W W') : Calls Tryz.prog 61 #[ptr rb] W fun e W' => (∃ oo sub k a b kp kl kc, e = .returned (exV oo sub k a b kp kl kc) ∧ ¬ oo = 0 ∧ Dp W.heap.size W' d (exV oo sub k a b kp kl kc)) ∧ Rd rb g ts j W' ∧ Qr rb W W' := by
  have HX0 := xh (Rx.new (w := W) h.Q0.1)
  have HGN := xh h.Q0.2
  have HR0 := xh (h.G ((G.refl W).alloc (.cells #[I 0, I 0, I 0, I 0, I 0, .string E0, .string E0, .string E0, .bool false, .slice none 0 0] 26)))
  have HNA : Hid (W.heap.size < (W.alloc (.cells #[I 0, I 0, I 0, I 0, I 0, .string E0, .string E0, .string E0, .bool false, .slice none 0 0] 26)).heap.size) := by unfold Hid; simp
  have HCC := xh HC
  have HGA := xh (g0.trans ((G.refl W).alloc (.cells #[I 0, I 0, I 0, I 0, I 0, .string E0, .string E0, .string E0, .bool false, .slice none 0 0] 26)))
  have HYY := xh hy
  have HNN := xh hn
  clear hy hn
  clear h g0 HC
  go_enter Tryz.func61, Tryz.ntmps61
  go_wp2_with (first | (go_at_call 44; refine Hid.out ?_) | fail)
  unfold Hid
  generalize W.alloc (.cells #[I 0, I 0, I 0, I 0, I 0, .string E0, .string E0, .string E0, .bool false, .slice none 0 0] 26) = wa at HX0 HR0 HGA HNA ⊢
  refine (took_no HR0.out HYY.out ⟨#[110, 111, 116]⟩ HNN.out).mono ?_
  rintro e w1 ⟨rfl, hg⟩
  have HR1 := xh (HR0.out.G hg)
  have HX1 := xh (HX0.out.G hg)
  have HGB := xh (HGA.out.trans hg)
  have HGS := xh hg.size
  clear hg HR0 HX0 HGA
  go_wp2_with (first | (go_at_call 34; refine Hid.out ?_) | fail)
  unfold Hid
  refine (HCC.out _ HR1.out HGB.out).mono ?_
  rintro e w2 ⟨⟨oo, sub, k, a, b, kp, kl, kc, rfl, hoo, hdp⟩, hrd, hq⟩
  have HR2 := xh hrd
  have HX2 := xh (HX1.out.Q hq)
  have HD2 := xh (hdp.low (Nat.le_trans (Nat.succ_le_of_lt HNA.out) HGS.out))
  have HOO := xh hoo
  clear hrd hq HR1 HX1 hdp hoo
  have hcr := HX2.out.c
  have hfr := HX2.out.f
  simp only [exV]
  go_wp2
  refine bodyPost_ret (v := exV oo sub k a b kp kl kc) (by simp [results, Tryz.results61, go_sem, hcr, exV]) rfl ⟨⟨oo, sub, k, a, b, kp, kl, kc, rfl, HOO.out, (HD2.out.ten (Nat.lt_succ_self _) _ _ _ _ _ _ _ _ _ _).low (Nat.le_succ _)⟩, HR2.out.ten HX2.out.n HGN.out _ _ _ _ _ _ _ _ _ _, HX2.out.q.ten (Nat.le_refl _) _ _ _ _ _ _ _ _ _ _⟩
set_option maxRecDepth 100000 in
set_option maxHeartbeats 1000000 in
theorem y_rk7 {w0 : World} (hO : OpV w0) {rb g : Nat} {ts : List Tok} {i j : Nat} {W : World} (h : Rd rb g ts i W) (g0 : G w0 W) (hr : w0.heap.size ≤ rb) {d : Nat} {x : Tok} (hx : ts[j]? = some x) (hst : StopT x) (HC : ∀ W, Rd rb g ts i W → G w0 W → Calls Tryz.prog 34 #[ptr rb, .int .i64 8] W fun e W' => (∃ oo sub k a b kp kl kc, e = .returned (exV oo sub k a b kp kl kc) ∧ ¬ oo = 0 ∧ Dp W.heap.size W' d (exV oo sub k a b kp kl kc)) ∧ Rd rb g ts j W' ∧ Qr rb W W') : Calls Tryz.prog 34 #[ptr rb, .int .i64 7] W fun e W' => (∃ oo sub k a b kp kl kc, e = .returned (exV oo sub k a b kp kl kc) ∧ ¬ oo = 0 ∧ Dp W.heap.size W' d (exV oo sub k a b kp kl kc)) ∧ Rd rb g ts j W' ∧ Qr rb W W' := by
  have HX0 := xh (Rx.new (w := W) h.Q0.1)
  have HGN := xh h.Q0.2
  have HR0 := xh (h.G ((G.refl W).alloc (.cells #[I 0, I 0, I 0, I 0, I 0, .string E0, .string E0, .string E0, .bool false, .slice none 0 0] 26)))
  have HO := xh hO
  have HXX := xh hx
  have HST := xh hst
  have HCC := xh HC
  have HRB := xh hr
  have HNA : Hid (W.heap.size < (W.alloc (.cells #[I 0, I 0, I 0, I 0, I 0, .string E0, .string E0, .string E0, .bool false, .slice none 0 0] 26)).heap.size) := by unfold Hid; simp
  have HGA := xh (g0.trans ((G.refl W).alloc (.cells #[I 0, I 0, I 0, I 0, I 0, .string E0, .string E0, .string E0, .bool false, .slice none 0 0] 26)))
  clear h g0 HC hO hx hst hr
  go_enter Tryz.func34, Tryz.ntmps34
  go_wp2_with (first | (go_at_call 34; refine Hid.out ?_) | fail)
  unfold Hid
  generalize W.alloc (.cells #[I 0, I 0, I 0, I 0, I 0, .string E0, .string E0, .string E0, .bool false, .slice none 0 0] 26) = wa at HX0 HR0 HGA HNA ⊢
  refine (HCC.out _ HR0.out HGA.out).mono ?_
  rintro e w1 ⟨⟨oo, sub, k, a, b, kp, kl, kc, rfl, hoo, hdp⟩, hrd, hq⟩
  have HD1 := xh ((hdp.low (Nat.succ_le_of_lt HNA.out)).G ((G.refl w1).alloc (.cells #[I oo, I sub, I k, I a, I b, .string E0, .string E0, .string E0, .bool false, .slice kp kl kc] 26)))
  have HOO := xh hoo
  have HG1 := xh ((hq.G HGA.out HRB.out).trans ((G.refl w1).alloc (.cells #[I oo, I sub, I k, I a, I b, .string E0, .string E0, .string E0, .bool false, .slice kp kl kc] 26)))
  have HR1 := xh (hrd.G ((G.refl w1).alloc (.cells #[I oo, I sub, I k, I a, I b, .string E0, .string E0, .string E0, .bool false, .slice kp kl kc] 26)))
  have HX1 := xh ((HX0.out.Q hq).G ((G.refl w1).alloc (.cells #[I oo, I sub, I k, I a, I b, .string E0, .string E0, .string E0, .bool false, .slice kp kl kc] 26)))
  have HL1 : Hid (Lf rb w1.heap.size [I oo, I sub, I k, I a, I b, .string E0, .string E0, .string E0, .bool false, .slice kp kl kc] (w1.alloc (.cells #[I oo, I sub, I k, I a, I b, .string E0, .string E0, .string E0, .bool false, .slice kp kl kc] 26))) := ⟨fun o => by simp, by simp, by have := blk_lt hrd.c; omega⟩
  obtain ⟨lb, hlb⟩ : ∃ lb, lb = w1.heap.size := ⟨_, rfl⟩
  rw [← hlb] at HL1
  have HLB := xh hlb
  clear hrd hq HR0 HX0 HCC HGA hlb hdp hoo
  simp only [exV]
  go_wp2_with (first | (go_at_call 64; refine Hid.out ?_) | fail)
  unfold Hid
  rw [← HLB.out]
  generalize w1.alloc (.cells #[I oo, I sub, I k, I a, I b, .string E0, .string E0, .string E0, .bool false, .slice kp kl kc] 26) = w2 at HG1 HR1 HX1 HL1 HD1 ⊢
  refine (op_none HO.out HR1.out HG1.out HXX.out 7 (HST.out.o 7)).mono ?_
  rintro e w3 ⟨rfl, hg⟩
  have HR3 := xh (HR1.out.G hg)
  have HX3 := xh (HX1.out.G hg)
  have HL3 := xh (HL1.out.G hg)
  have HD3 := xh (HD1.out.G hg)
  clear hg HR1 HX1 HL1 HG1 HD1
  go_wp2_with fail
  go_loopw [6] (fun p W => p = .int .i64 0 ∧ W = w3) (fun _ _ => 0)
  case atStart => exact ⟨rfl, rfl⟩
  case round =>
    obtain ⟨rfl, hw3⟩ := hrel
    subst hw3
    have hcl := HL3.out.c
    have hcr := HX3.out.c
    have hfr := HX3.out.f
    skip
    go_wp2
    refine bodyPost_ret (v := exV oo sub k a b kp kl kc) (by simp [results, Tryz.results34, go_sem, hcr, exV]) rfl ⟨⟨oo, sub, k, a, b, kp, kl, kc, rfl, HOO.out, (HD3.out.ten (Nat.lt_succ_self _) _ _ _ _ _ _ _ _ _ _).low (Nat.le_succ _)⟩, HR3.out.ten HX3.out.n HGN.out _ _ _ _ _ _ _ _ _ _, HX3.out.q.ten (Nat.le_refl _) _ _ _ _ _ _ _ _ _ _⟩
set_option maxRecDepth 100000 in
set_option maxHeartbeats 1000000 in
theorem y_rk6 {w0 : World} (hO : OpV w0) {rb g : Nat} {ts : List Tok} {i j : Nat} {W : World} (h : Rd rb g ts i W) (g0 : G w0 W) (hr : w0.heap.size ≤ rb) {d : Nat} {x : Tok} (hx : ts[j]? = some x) (hst : StopT x) (HC : ∀ W, Rd rb g ts i W → G w0 W → Calls Tryz.prog 34 #[ptr rb, .int .i64 7] W fun e W' => (∃ oo sub k a b kp kl kc, e = .returned (exV oo sub k a b kp kl kc) ∧ ¬ oo = 0 ∧ Dp W.heap.size W' d (exV oo sub k a b kp kl kc)) ∧ Rd rb g ts j W' ∧ Qr rb W W') : Calls Tryz.prog 34 #[ptr rb, .int .i64 6] W fun e W' => (∃ oo sub k a b kp kl kc, e = .returned (exV oo sub k a b kp kl kc) ∧ ¬ oo = 0 ∧ Dp W.heap.size W' d (exV oo sub k a b kp kl kc)) ∧ Rd rb g ts j W' ∧ Qr rb W W' := by
  have HX0 := xh (Rx.new (w := W) h.Q0.1)
  have HGN := xh h.Q0.2
  have HR0 := xh (h.G ((G.refl W).alloc (.cells #[I 0, I 0, I 0, I 0, I 0, .string E0, .string E0, .string E0, .bool false, .slice none 0 0] 26)))
  have HO := xh hO
  have HXX := xh hx
  have HST := xh hst
  have HCC := xh HC
  have HRB := xh hr
  have HNA : Hid (W.heap.size < (W.alloc (.cells #[I 0, I 0, I 0, I 0, I 0, .string E0, .string E0, .string E0, .bool false, .slice none 0 0] 26)).heap.size) := by unfold Hid; simp
  have HGA := xh (g0.trans ((G.refl W).alloc (.cells #[I 0, I 0, I 0, I 0, I 0, .string E0, .string E0, .string E0, .bool false, .slice none 0 0] 26)))
  clear h g0 HC hO hx hst hr
  go_enter Tryz.func34, Tryz.ntmps34
  go_wp2_with (first | (go_at_call 34; refine Hid.out ?_) | fail)
  unfold Hid
  generalize W.alloc (.cells #[I 0, I 0, I 0, I 0, I 0, .string E0, .string E0, .string E0, .bool false, .slice none 0 0] 26) = wa at HX0 HR0 HGA HNA ⊢
  refine (HCC.out _ HR0.out HGA.out).mono ?_
  rintro e w1 ⟨⟨oo, sub, k, a, b, kp, kl, kc, rfl, hoo, hdp⟩, hrd, hq⟩
  have HD1 := xh ((hdp.low (Nat.succ_le_of_lt HNA.out)).G ((G.refl w1).alloc (.cells #[I oo, I sub, I k, I a, I b, .string E0, .string E0, .string E0, .bool false, .slice kp kl kc] 26)))
  have HOO := xh hoo
  have HG1 := xh ((hq.G HGA.out HRB.out).trans ((G.refl w1).alloc (.cells #[I oo, I sub, I k, I a, I b, .string E0, .string E0, .string E0, .bool false, .slice kp kl kc] 26)))
  have HR1 := xh (hrd.G ((G.refl w1).alloc (.cells #[I oo, I sub, I k, I a, I b, .string E0, .string E0, .string E0, .bool false, .slice kp kl kc] 26)))
  have HX1 := xh ((HX0.out.Q hq).G ((G.refl w1).alloc (.cells #[I oo, I sub, I k, I a, I b, .string E0, .string E0, .string E0, .bool false, .slice kp kl kc] 26)))
  have HL1 : Hid (Lf rb w1.heap.size [I oo, I sub, I k, I a, I b, .string E0, .string E0, .string E0, .bool false, .slice kp kl kc] (w1.alloc (.cells #[I oo, I sub, I k, I a, I b, .string E0, .string E0, .string E0, .bool false, .slice kp kl kc] 26))) := ⟨fun o => by simp, by simp, by have := blk_lt hrd.c; omega⟩
  obtain ⟨lb, hlb⟩ : ∃ lb, lb = w1.heap.size := ⟨_, rfl⟩
  rw [← hlb] at HL1
  have HLB := xh hlb
  clear hrd hq HR0 HX0 HCC HGA hlb hdp hoo
  simp only [exV]
  go_wp2_with (first | (go_at_call 64; refine Hid.out ?_) | fail)
  unfold Hid
  rw [← HLB.out]
  generalize w1.alloc (.cells #[I oo, I sub, I k, I a, I b, .string E0, .string E0, .string E0, .bool false, .slice kp kl kc] 26) = w2 at HG1 HR1 HX1 HL1 HD1 ⊢
  refine (op_none HO.out HR1.out HG1.out HXX.out 6 (HST.out.o 6)).mono ?_
  rintro e w3 ⟨rfl, hg⟩
  have HR3 := xh (HR1.out.G hg)
  have HX3 := xh (HX1.out.G hg)
  have HL3 := xh (HL1.out.G hg)
  have HD3 := xh (HD1.out.G hg)
  clear hg HR1 HX1 HL1 HG1 HD1
  go_wp2_with fail
  go_loopw [6] (fun p W => p = .int .i64 0 ∧ W = w3) (fun _ _ => 0)
  case atStart => exact ⟨rfl, rfl⟩
  case round =>
    obtain ⟨rfl, hw3⟩ := hrel
    subst hw3
    have hcl := HL3.out.c
    have hcr := HX3.out.c
    have hfr := HX3.out.f
    skip
    go_wp2
    refine bodyPost_ret (v := exV oo sub k a b kp kl kc) (by simp [results, Tryz.results34, go_sem, hcr, exV]) rfl ⟨⟨oo, sub, k, a, b, kp, kl, kc, rfl, HOO.out, (HD3.out.ten (Nat.lt_succ_self _) _ _ _ _ _ _ _ _ _ _).low (Nat.le_succ _)⟩, HR3.out.ten HX3.out.n HGN.out _ _ _ _ _ _ _ _ _ _, HX3.out.q.ten (Nat.le_refl _) _ _ _ _ _ _ _ _ _ _⟩
set_option maxRecDepth 100000 in
set_option maxHeartbeats 1000000 in
theorem y_rk3 {w0 : World} (hO : OpV w0) {rb g : Nat} {ts : List Tok} {i j : Nat} {W : World} (h : Rd rb g ts i W) (g0 : G w0 W) (hr : w0.heap.size ≤ rb) {d : Nat} {x : Tok} (hx : ts[j]? = some x) (hst : StopT x) (HC : ∀ W, Rd rb g ts i W → G w0 W → Calls Tryz.prog 34 #[ptr rb, .int .i64 4] W fun e W' => (∃ oo sub k a b kp kl kc, e = .returned (exV oo sub k a b kp kl kc) ∧ ¬ oo = 0 ∧ Dp W.heap.size W' d (exV oo sub k a b kp kl kc)) ∧ Rd rb g ts j W' ∧ Qr rb W W') : Calls Tryz.prog 34 #[ptr rb, .int .i64 3] W fun e W' => (∃ oo sub k a b kp kl kc, e = .returned (exV oo sub k a b kp kl kc) ∧ ¬ oo = 0 ∧ Dp W.heap.size W' d (exV oo sub k a b kp kl kc)) ∧ Rd rb g ts j W' ∧ Qr rb W W' := by
  have HX0 := xh (Rx.new (w := W) h.Q0.1)
  have HGN := xh h.Q0.2
  have HR0 := xh (h.G ((G.refl W).alloc (.cells #[I 0, I 0, I 0, I 0, I 0, .string E0, .string E0, .string E0, .bool false, .slice none 0 0] 26)))
  have HO := xh hO
  have HXX := xh hx
  have HST := xh hst
  have HCC := xh HC
  have HRB := xh hr
  have HNA : Hid (W.heap.size < (W.alloc (.cells #[I 0, I 0, I 0, I 0, I 0, .string E0, .string E0, .string E0, .bool false, .slice none 0 0] 26)).heap.size) := by unfold Hid; simp
  have HGA := xh (g0.trans ((G.refl W).alloc (.cells #[I 0, I 0, I 0, I 0, I 0, .string E0, .string E0, .string E0, .bool false, .slice none 0 0] 26)))
  clear h g0 HC hO hx hst hr
  go_enter Tryz.func34, Tryz.ntmps34
  go_wp2_with (first | (go_at_call 34; refine Hid.out ?_) | fail)
  unfold Hid
  generalize W.alloc (.cells #[I 0, I 0, I 0, I 0, I 0, .string E0, .string E0, .string E0, .bool false, .slice none 0 0] 26) = wa at HX0 HR0 HGA HNA ⊢
  refine (HCC.out _ HR0.out HGA.out).mono ?_
  rintro e w1 ⟨⟨oo, sub, k, a, b, kp, kl, kc, rfl, hoo, hdp⟩, hrd, hq⟩
  have HD1 := xh ((hdp.low (Nat.succ_le_of_lt HNA.out)).G ((G.refl w1).alloc (.cells #[I oo, I sub, I k, I a, I b, .string E0, .string E0, .string E0, .bool false, .slice kp kl kc] 26)))
  have HOO := xh hoo
  have HG1 := xh ((hq.G HGA.out HRB.out).trans ((G.refl w1).alloc (.cells #[I oo, I sub, I k, I a, I b, .string E0, .string E0, .string E0, .bool false, .slice kp kl kc] 26)))
  have HR1 := xh (hrd.G ((G.refl w1).alloc (.cells #[I oo, I sub, I k, I a, I b, .string E0, .string E0, .string E0, .bool false, .slice kp kl kc] 26)))
  have HX1 := xh ((HX0.out.Q hq).G ((G.refl w1).alloc (.cells #[I oo, I sub, I k, I a, I b, .string E0, .string E0, .string E0, .bool false, .slice kp kl kc] 26)))
  have HL1 : Hid (Lf rb w1.heap.size [I oo, I sub, I k, I a, I b, .string E0, .string E0, .string E0, .bool false, .slice kp kl kc] (w1.alloc (.cells #[I oo, I sub, I k, I a, I b, .string E0, .string E0, .string E0, .bool false, .slice kp kl kc] 26))) := ⟨fun o => by simp, by simp, by have := blk_lt hrd.c; omega⟩
  obtain ⟨lb, hlb⟩ : ∃ lb, lb = w1.heap.size := ⟨_, rfl⟩
  rw [← hlb] at HL1
  have HLB := xh hlb
  clear hrd hq HR0 HX0 HCC HGA hlb hdp hoo
  simp only [exV]
  go_wp2_with (first | (go_at_call 64; refine Hid.out ?_) | fail)
  unfold Hid
  rw [← HLB.out]
  generalize w1.alloc (.cells #[I oo, I sub, I k, I a, I b, .string E0, .string E0, .string E0, .bool false, .slice kp kl kc] 26) = w2 at HG1 HR1 HX1 HL1 HD1 ⊢
  refine (op_none HO.out HR1.out HG1.out HXX.out 3 (HST.out.o 3)).mono ?_
  rintro e w3 ⟨rfl, hg⟩
  have HR3 := xh (HR1.out.G hg)
  have HX3 := xh (HX1.out.G hg)
  have HL3 := xh (HL1.out.G hg)
  have HD3 := xh (HD1.out.G hg)
  clear hg HR1 HX1 HL1 HG1 HD1
  go_wp2_with fail
  go_loopw [6] (fun p W => p = .int .i64 0 ∧ W = w3) (fun _ _ => 0)
  case atStart => exact ⟨rfl, rfl⟩
  case round =>
    obtain ⟨rfl, hw3⟩ := hrel
    subst hw3
    have hcl := HL3.out.c
    have hcr := HX3.out.c
    have hfr := HX3.out.f
    skip
    go_wp2
    refine bodyPost_ret (v := exV oo sub k a b kp kl kc) (by simp [results, Tryz.results34, go_sem, hcr, exV]) rfl ⟨⟨oo, sub, k, a, b, kp, kl, kc, rfl, HOO.out, (HD3.out.ten (Nat.lt_succ_self _) _ _ _ _ _ _ _ _ _ _).low (Nat.le_succ _)⟩, HR3.out.ten HX3.out.n HGN.out _ _ _ _ _ _ _ _ _ _, HX3.out.q.ten (Nat.le_refl _) _ _ _ _ _ _ _ _ _ _⟩
set_option maxRecDepth 100000 in
set_option maxHeartbeats 1000000 in
theorem y_rk2 {w0 : World} (hO : OpV w0) {rb g : Nat} {ts : List Tok} {i j : Nat} {W : World} (h : Rd rb g ts i W) (g0 : G w0 W) (hr : w0.heap.size ≤ rb) {d : Nat} {x : Tok} (hx : ts[j]? = some x) (hst : StopT x) (HC : ∀ W, Rd rb g ts i W → G w0 W → Calls Tryz.prog 34 #[ptr rb, .int .i64 3] W fun e W' => (∃ oo sub k a b kp kl kc, e = .returned (exV oo sub k a b kp kl kc) ∧ ¬ oo = 0 ∧ Dp W.heap.size W' d (exV oo sub k a b kp kl kc)) ∧ Rd rb g ts j W' ∧ Qr rb W W') : Calls Tryz.prog 34 #[ptr rb, .int .i64 2] W fun e W' => (∃ oo sub k a b kp kl kc, e = .returned (exV oo sub k a b kp kl kc) ∧ ¬ oo = 0 ∧ Dp W.heap.size W' d (exV oo sub k a b kp kl kc)) ∧ Rd rb g ts j W' ∧ Qr rb W W' := by
  have HX0 := xh (Rx.new (w := W) h.Q0.1)
  have HGN := xh h.Q0.2
  have HR0 := xh (h.G ((G.refl W).alloc (.cells #[I 0, I 0, I 0, I 0, I 0, .string E0, .string E0, .string E0, .bool false, .slice none 0 0] 26)))
  have HO := xh hO
  have HXX := xh hx
  have HST := xh hst
  have HCC := xh HC
  have HRB := xh hr
  have HNA : Hid (W.heap.size < (W.alloc (.cells #[I 0, I 0, I 0, I 0, I 0, .string E0, .string E0, .string E0, .bool false, .slice none 0 0] 26)).heap.size) := by unfold Hid; simp
  have HGA := xh (g0.trans ((G.refl W).alloc (.cells #[I 0, I 0, I 0, I 0, I 0, .string E0, .string E0, .string E0, .bool false, .slice none 0 0] 26)))
  clear h g0 HC hO hx hst hr
  go_enter Tryz.func34, Tryz.ntmps34
  go_wp2_with (first | (go_at_call 34; refine Hid.out ?_) | fail)
  unfold Hid
  generalize W.alloc (.cells #[I 0, I 0, I 0, I 0, I 0, .string E0, .string E0, .string E0, .bool false, .slice none 0 0] 26) = wa at HX0 HR0 HGA HNA ⊢
  refine (HCC.out _ HR0.out HGA.out).mono ?_
  rintro e w1 ⟨⟨oo, sub, k, a, b, kp, kl, kc, rfl, hoo, hdp⟩, hrd, hq⟩
  have HD1 := xh ((hdp.low (Nat.succ_le_of_lt HNA.out)).G ((G.refl w1).alloc (.cells #[I oo, I sub, I k, I a, I b, .string E0, .string E0, .string E0, .bool false, .slice kp kl kc] 26)))
  have HOO := xh hoo
  have HG1 := xh ((hq.G HGA.out HRB.out).trans ((G.refl w1).alloc (.cells #[I oo, I sub, I k, I a, I b, .string E0, .string E0, .string E0, .bool false, .slice kp kl kc] 26)))
  have HR1 := xh (hrd.G ((G.refl w1).alloc (.cells #[I oo, I sub, I k, I a, I b, .string E0, .string E0, .string E0, .bool false, .slice kp kl kc] 26)))
  have HX1 := xh ((HX0.out.Q hq).G ((G.refl w1).alloc (.cells #[I oo, I sub, I k, I a, I b, .string E0, .string E0, .string E0, .bool false, .slice kp kl kc] 26)))
  have HL1 : Hid (Lf rb w1.heap.size [I oo, I sub, I k, I a, I b, .string E0, .string E0, .string E0, .bool false, .slice kp kl kc] (w1.alloc (.cells #[I oo, I sub, I k, I a, I b, .string E0, .string E0, .string E0, .bool false, .slice kp kl kc] 26))) := ⟨fun o => by simp, by simp, by have := blk_lt hrd.c; omega⟩
  obtain ⟨lb, hlb⟩ : ∃ lb, lb = w1.heap.size := ⟨_, rfl⟩
  rw [← hlb] at HL1
  have HLB := xh hlb
  clear hrd hq HR0 HX0 HCC HGA hlb hdp hoo
  simp only [exV]
  go_wp2_with (first | (go_at_call 64; refine Hid.out ?_) | fail)
  unfold Hid
  rw [← HLB.out]
  generalize w1.alloc (.cells #[I oo, I sub, I k, I a, I b, .string E0, .string E0, .string E0, .bool false, .slice kp kl kc] 26) = w2 at HG1 HR1 HX1 HL1 HD1 ⊢
  refine (op_none HO.out HR1.out HG1.out HXX.out 2 (HST.out.o 2)).mono ?_
  rintro e w3 ⟨rfl, hg⟩
  have HR3 := xh (HR1.out.G hg)
  have HX3 := xh (HX1.out.G hg)
  have HL3 := xh (HL1.out.G hg)
  have HD3 := xh (HD1.out.G hg)
  clear hg HR1 HX1 HL1 HG1 HD1
  go_wp2_with fail
  go_loopw [6] (fun p W => p = .int .i64 0 ∧ W = w3) (fun _ _ => 0)
  case atStart => exact ⟨rfl, rfl⟩
  case round =>
    obtain ⟨rfl, hw3⟩ := hrel
    subst hw3
    have hcl := HL3.out.c
    have hcr := HX3.out.c
    have hfr := HX3.out.f
    skip
    go_wp2
    refine bodyPost_ret (v := exV oo sub k a b kp kl kc) (by simp [results, Tryz.results34, go_sem, hcr, exV]) rfl ⟨⟨oo, sub, k, a, b, kp, kl, kc, rfl, HOO.out, (HD3.out.ten (Nat.lt_succ_self _) _ _ _ _ _ _ _ _ _ _).low (Nat.le_succ _)⟩, HR3.out.ten HX3.out.n HGN.out _ _ _ _ _ _ _ _ _ _, HX3.out.q.ten (Nat.le_refl _) _ _ _ _ _ _ _ _ _ _⟩
set_option maxRecDepth 100000 in
set_option maxHeartbeats 1000000 in
theorem y_rk1 {w0 : World} (hO : OpV w0) {rb g : Nat} {ts : List Tok} {i j : Nat} {W : World} (h : Rd rb g ts i W) (g0 : G w0 W) (hr : w0.heap.size ≤ rb) {d : Nat} {x : Tok} (hx : ts[j]? = some x) (hst : StopT x) (HC : ∀ W, Rd rb g ts i W → G w0 W → Calls Tryz.prog 34 #[ptr rb, .int .i64 2] W fun e W' => (∃ oo sub k a b kp kl kc, e = .returned (exV oo sub k a b kp kl kc) ∧ ¬ oo = 0 ∧ Dp W.heap.size W' d (exV oo sub k a b kp kl kc)) ∧ Rd rb g ts j W' ∧ Qr rb W W') : Calls Tryz.prog 34 #[ptr rb, .int .i64 1] W fun e W' => (∃ oo sub k a b kp kl kc, e = .returned (exV oo sub k a b kp kl kc) ∧ ¬ oo = 0 ∧ Dp W.heap.size W' d (exV oo sub k a b kp kl kc)) ∧ Rd rb g ts j W' ∧ Qr rb W W' := by
  have HX0 := xh (Rx.new (w := W) h.Q0.1)
  have HGN := xh h.Q0.2
  have HR0 := xh (h.G ((G.refl W).alloc (.cells #[I 0, I 0, I 0, I 0, I 0, .string E0, .string E0, .string E0, .bool false, .slice none 0 0] 26)))
  have HO := xh hO
  have HXX := xh hx
  have HST := xh hst
  have HCC := xh HC
  have HRB := xh hr
  have HNA : Hid (W.heap.size < (W.alloc (.cells #[I 0, I 0, I 0, I 0, I 0, .string E0, .string E0, .string E0, .bool false, .slice none 0 0] 26)).heap.size) := by unfold Hid; simp
  have HGA := xh (g0.trans ((G.refl W).alloc (.cells #[I 0, I 0, I 0, I 0, I 0, .string E0, .string E0, .string E0, .bool false, .slice none 0 0] 26)))
  clear h g0 HC hO hx hst hr
  go_enter Tryz.func34, Tryz.ntmps34
  go_wp2_with (first | (go_at_call 34; refine Hid.out ?_) | fail)
  unfold Hid
  generalize W.alloc (.cells #[I 0, I 0, I 0, I 0, I 0, .string E0, .string E0, .string E0, .bool false, .slice none 0 0] 26) = wa at HX0 HR0 HGA HNA ⊢
  refine (HCC.out _ HR0.out HGA.out).mono ?_
  rintro e w1 ⟨⟨oo, sub, k, a, b, kp, kl, kc, rfl, hoo, hdp⟩, hrd, hq⟩
  have HD1 := xh ((hdp.low (Nat.succ_le_of_lt HNA.out)).G ((G.refl w1).alloc (.cells #[I oo, I sub, I k, I a, I b, .string E0, .string E0, .string E0, .bool false, .slice kp kl kc] 26)))
  have HOO := xh hoo
  have HG1 := xh ((hq.G HGA.out HRB.out).trans ((G.refl w1).alloc (.cells #[I oo, I sub, I k, I a, I b, .string E0, .string E0, .string E0, .bool false, .slice kp kl kc] 26)))
  have HR1 := xh (hrd.G ((G.refl w1).alloc (.cells #[I oo, I sub, I k, I a, I b, .string E0, .string E0, .string E0, .bool false, .slice kp kl kc] 26)))
  have HX1 := xh ((HX0.out.Q hq).G ((G.refl w1).alloc (.cells #[I oo, I sub, I k, I a, I b, .string E0, .string E0, .string E0, .bool false, .slice kp kl kc] 26)))
  have HL1 : Hid (Lf rb w1.heap.size [I oo, I sub, I k, I a, I b, .string E0, .string E0, .string E0, .bool false, .slice kp kl kc] (w1.alloc (.cells #[I oo, I sub, I k, I a, I b, .string E0, .string E0, .string E0, .bool false, .slice kp kl kc] 26))) := ⟨fun o => by simp, by simp, by have := blk_lt hrd.c; omega⟩
  obtain ⟨lb, hlb⟩ : ∃ lb, lb = w1.heap.size := ⟨_, rfl⟩
  rw [← hlb] at HL1
  have HLB := xh hlb
  clear hrd hq HR0 HX0 HCC HGA hlb hdp hoo
  simp only [exV]
  go_wp2_with (first | (go_at_call 64; refine Hid.out ?_) | fail)
  unfold Hid
  rw [← HLB.out]
  generalize w1.alloc (.cells #[I oo, I sub, I k, I a, I b, .string E0, .string E0, .string E0, .bool false, .slice kp kl kc] 26) = w2 at HG1 HR1 HX1 HL1 HD1 ⊢
  refine (op_none HO.out HR1.out HG1.out HXX.out 1 (HST.out.o 1)).mono ?_
  rintro e w3 ⟨rfl, hg⟩
  have HR3 := xh (HR1.out.G hg)
  have HX3 := xh (HX1.out.G hg)
  have HL3 := xh (HL1.out.G hg)
  have HD3 := xh (HD1.out.G hg)
  clear hg HR1 HX1 HL1 HG1 HD1
  go_wp2_with fail
  go_loopw [6] (fun p W => p = .int .i64 0 ∧ W = w3) (fun _ _ => 0)
  case atStart => exact ⟨rfl, rfl⟩
  case round =>
    obtain ⟨rfl, hw3⟩ := hrel
    subst hw3
    have hcl := HL3.out.c
    have hcr := HX3.out.c
    have hfr := HX3.out.f
    skip
    go_wp2
    refine bodyPost_ret (v := exV oo sub k a b kp kl kc) (by simp [results, Tryz.results34, go_sem, hcr, exV]) rfl ⟨⟨oo, sub, k, a, b, kp, kl, kc, rfl, HOO.out, (HD3.out.ten (Nat.lt_succ_self _) _ _ _ _ _ _ _ _ _ _).low (Nat.le_succ _)⟩, HR3.out.ten HX3.out.n HGN.out _ _ _ _ _ _ _ _ _ _, HX3.out.q.ten (Nat.le_refl _) _ _ _ _ _ _ _ _ _ _⟩
set_option maxRecDepth 100000 in
set_option maxHeartbeats 1000000 in
theorem y_test {w0 : World} (hO : OpV w0) {rb g : Nat} {ts : List Tok} {i j : Nat} {W : World} (h : Rd rb g ts i W) (g0 : G w0 W) (hr : w0.heap.size ≤ rb) {d : Nat} {x : Tok} (hx : ts[j]? = some x) (hst : StopT x) (HC : ∀ W, Rd rb g ts i W → G w0 W → Calls Tryz.prog 34 #[ptr rb, .int .i64 6] W fun e W' => (∃ oo sub k a b kp kl kc, e = .returned (exV oo sub k a b kp kl kc) ∧ ¬ oo = 0 ∧ Dp W.heap.size W' d (exV oo sub k a b kp kl kc)) ∧ Rd rb g ts j W' ∧ Qr rb W W') : Calls Tryz.prog 62 #[ptr rb] W fun e W' => (∃ oo sub k a b kp kl kc, e = .returned (exV oo sub k a b kp kl kc) ∧ ¬ oo = 0 ∧ Dp W.heap.size W' d (exV oo sub k a b kp kl kc)) ∧ Rd rb g ts j W' ∧ Qr rb W W' := by
  have HX0 := xh (Rx.new (w := W) h.Q0.1)
  have HGN := xh h.Q0.2
  have HR0 := xh (h.G ((G.refl W).alloc (.cells #[I 0, I 0, I 0, I 0, I 0, .string E0, .string E0, .string E0, .bool false, .slice none 0 0] 26)))
  have HO := xh hO
  have HXX := xh hx
  have HST := xh hst
  have HCC := xh HC
  have HRB := xh hr
  have HNA : Hid (W.heap.size < (W.alloc (.cells #[I 0, I 0, I 0, I 0, I 0, .string E0, .string E0, .string E0, .bool false, .slice none 0 0] 26)).heap.size) := by unfold Hid; simp
  have HGA := xh (g0.trans ((G.refl W).alloc (.cells #[I 0, I 0, I 0, I 0, I 0, .string E0, .string E0, .string E0, .bool false, .slice none 0 0] 26)))
  clear h g0 HC hO hx hst hr
  go_enter Tryz.func62, Tryz.ntmps62
  go_wp2_with (first | (go_at_call 34; refine Hid.out ?_) | fail)
  unfold Hid
  generalize W.alloc (.cells #[I 0, I 0, I 0, I 0, I 0, .string E0, .string E0, .string E0, .bool false, .slice none 0 0] 26) = wa at HX0 HR0 HGA HNA ⊢
  refine (HCC.out _ HR0.out HGA.out).mono ?_
  rintro e w1 ⟨⟨oo, sub, k, a, b, kp, kl, kc, rfl, hoo, hdp⟩, hrd, hq⟩
  have HD1 := xh ((hdp.low (Nat.succ_le_of_lt HNA.out)).G ((G.refl w1).alloc (.cells #[I oo, I sub, I k, I a, I b, .string E0, .string E0, .string E0, .bool false, .slice kp kl kc] 26)))
  have HOO := xh hoo
  have HG1 := xh ((hq.G HGA.out HRB.out).trans ((G.refl w1).alloc (.cells #[I oo, I sub, I k, I a, I b, .string E0, .string E0, .string E0, .bool false, .slice kp kl kc] 26)))
  have HR1 := xh (hrd.G ((G.refl w1).alloc (.cells #[I oo, I sub, I k, I a, I b, .string E0, .string E0, .string E0, .bool false, .slice kp kl kc] 26)))
  have HX1 := xh ((HX0.out.Q hq).G ((G.refl w1).alloc (.cells #[I oo, I sub, I k, I a, I b, .string E0, .string E0, .string E0, .bool false, .slice kp kl kc] 26)))
  have HL1 : Hid (Lf rb w1.heap.size [I oo, I sub, I k, I a, I b, .string E0, .string E0, .string E0, .bool false, .slice kp kl kc] (w1.alloc (.cells #[I oo, I sub, I k, I a, I b, .string E0, .string E0, .string E0, .bool false, .slice kp kl kc] 26))) := ⟨fun o => by simp, by simp, by have := blk_lt hrd.c; omega⟩
  obtain ⟨lb, hlb⟩ : ∃ lb, lb = w1.heap.size := ⟨_, rfl⟩
  rw [← hlb] at HL1
  have HLB := xh hlb
  clear hrd hq HR0 HX0 HCC HGA hlb hdp hoo
  simp only [exV]
  go_wp2_with (first | (go_at_call 64; refine Hid.out ?_) | fail)
  unfold Hid
  rw [← HLB.out]
  generalize w1.alloc (.cells #[I oo, I sub, I k, I a, I b, .string E0, .string E0, .string E0, .bool false, .slice kp kl kc] 26) = w2 at HG1 HR1 HX1 HL1 HD1 ⊢
  refine (op_none HO.out HR1.out HG1.out HXX.out 5 (HST.out.o 5)).mono ?_
  rintro e w3 ⟨rfl, hg⟩
  have HR3 := xh (HR1.out.G hg)
  have HX3 := xh (HX1.out.G hg)
  have HL3 := xh (HL1.out.G hg)
  have HD3 := xh (HD1.out.G hg)
  clear hg HR1 HX1 HL1 HG1 HD1
  go_wp2_with (first | (go_at_call 44; refine Hid.out ?_) | fail)
  unfold Hid
  refine (took_no HR3.out HXX.out ⟨#[105, 115]⟩ HST.out.s).mono ?_
  rintro e w4 ⟨rfl, hg⟩
  have HR4 := xh (HR3.out.G hg)
  have HX4 := xh (HX3.out.G hg)
  have HL4 := xh (HL3.out.G hg)
  have HD4 := xh (HD3.out.G hg)
  clear hg HR3 HX3 HL3 HD3
  go_wp2_with (first | (go_at_call 44; refine Hid.out ?_) | fail)
  unfold Hid
  refine (took_no HR4.out HXX.out ⟨#[105, 110]⟩ HST.out.n).mono ?_
  rintro e w5 ⟨rfl, hg⟩
  have HR5 := xh (HR4.out.G hg)
  have HX5 := xh (HX4.out.G hg)
  have HL5 := xh (HL4.out.G hg)
  have HD5 := xh (HD4.out.G hg)
  clear hg HR4 HX4 HL4 HD4
  have hcl := HL5.out.c
  have hcr := HX5.out.c
  have hfr := HX5.out.f
  skip
  go_wp2
  refine bodyPost_ret (v := exV oo sub k a b kp kl kc) (by simp [results, Tryz.results62, go_sem, hcr, exV]) rfl ⟨⟨oo, sub, k, a, b, kp, kl, kc, rfl, HOO.out, (HD5.out.ten (Nat.lt_succ_self _) _ _ _ _ _ _ _ _ _ _).low (Nat.le_succ _)⟩, HR5.out.ten HX5.out.n HGN.out _ _ _ _ _ _ _ _ _ _, HX5.out.q.ten (Nat.le_refl _) _ _ _ _ _ _ _ _ _ _⟩
end
open Go.RowKit

set_option maxRecDepth 100000 in
set_option maxHeartbeats 1000000 in
theorem whole_y {w0 : World} {rb g : Nat} {ts : List Tok} {i j d : Nat} (hd : d ≤ 24) {y : Tok} (hy : ts[i]? = some y) {W : World} (h : Rd rb g ts i W) (g0 : G w0 W) (HEX : ∀ W, Rd rb g ts i W → G w0 W → Calls Tryz.prog 17 #[ptr rb] W fun e W' => (∃ oo sub k a b kp kl kc, e = .returned (exV oo sub k a b kp kl kc) ∧ ¬ oo = 0 ∧ Dp W.heap.size W' d (exV oo sub k a b kp kl kc)) ∧ Rd rb g ts j W' ∧ Qr rb W W') : Calls Tryz.prog 9 #[ptr rb] W fun e W' => (∃ oo sub k a b kp kl kc, e = .returned (exV oo sub k a b kp kl kc) ∧ ¬ oo = 0 ∧ Dp W.heap.size W' d (exV oo sub k a b kp kl kc)) ∧ Rd rb g ts j W' ∧ Qr rb W W' := by
  have HX0 := xh (Rx.new (w := W) h.Q0.1)
  have HGN := xh h.Q0.2
  have HR0 := xh (h.G ((G.refl W).alloc (.cells #[I 0, I 0, I 0, I 0, I 0, .string E0, .string E0, .string E0, .bool false, .slice none 0 0] 26)))
  have HEE := xh HEX
  have HYY := xh hy
  have HDD := xh hd
  have HNA : Hid (W.heap.size < (W.alloc (.cells #[I 0, I 0, I 0, I 0, I 0, .string E0, .string E0, .string E0, .bool false, .slice none 0 0] 26)).heap.size) := by unfold Hid; simp
  have HGA := xh (g0.trans ((G.refl W).alloc (.cells #[I 0, I 0, I 0, I 0, I 0, .string E0, .string E0, .string E0, .bool false, .slice none 0 0] 26)))
  have HRB := xh h.Q0.1
  
  clear h g0 HEX hy hd
  go_enter Tryz.func9, Tryz.ntmps9
  go_wp2_with (first | (go_at_call 16; refine Hid.out ?_) | fail)
  unfold Hid
  generalize W.alloc (.cells #[I 0, I 0, I 0, I 0, I 0, .string E0, .string E0, .string E0, .bool false, .slice none 0 0] 26) = wa at HX0 HR0 HGA HNA ⊢
  refine (next_any HR0.out HYY.out).mono ?_
  rintro e w1 ⟨rfl, hg⟩
  have HR1 := xh (HR0.out.G (hg.trans ((G.refl w1).alloc (.cells #[I y.k, .string y.t, I y.p] 60))))
  have HX1 := xh (HX0.out.G (hg.trans ((G.refl w1).alloc (.cells #[I y.k, .string y.t, I y.p] 60))))
  have HG1 := xh (HGA.out.trans (hg.trans ((G.refl w1).alloc (.cells #[I y.k, .string y.t, I y.p] 60))))
  have HT1 : Hid (Lf rb w1.heap.size [I y.k, .string y.t, I y.p] (w1.alloc (.cells #[I y.k, .string y.t, I y.p] 60))) := ⟨fun o => by simp, by simp, by have := HRB.out; have := HNA.out; have := hg.size; omega⟩
  have HSZ : Hid (W.heap.size < (w1.alloc (.cells #[I y.k, .string y.t, I y.p] 60)).heap.size) := by have := HNA.out; have := hg.size; unfold Hid; simp; omega
  clear hg HR0 HX0 HGA
  simp only [tkA]
  go_wp2_with (first | (go_at_call 17; refine Hid.out ?_) | fail)
  unfold Hid
  obtain ⟨tb, htb⟩ : ∃ tb, tb = w1.heap.size := ⟨_, rfl⟩
  rw [← htb] at HT1 ⊢
  clear htb
  generalize w1.alloc (.cells #[I y.k, .string y.t, I y.p] 60) = w2 at HR1 HX1 HG1 HT1 HSZ ⊢
  refine (HEE.out _ HR1.out HG1.out).mono ?_
  rintro e w3 ⟨⟨oo, sub, k, a, b, kp, kl, kc, rfl, hoo, hdp⟩, hrd, hq⟩
  have HR3 := xh (hrd.G ((G.refl w3).alloc (.cells #[I oo, I sub, I k, I a, I b, .string E0, .string E0, .string E0, .bool false, .slice kp kl kc] 26)))
  have HX3 := xh ((HX1.out.Q hq).G ((G.refl w3).alloc (.cells #[I oo, I sub, I k, I a, I b, .string E0, .string E0, .string E0, .bool false, .slice kp kl kc] 26)))
  have HT3 := xh ((HT1.out.Q hq).G ((G.refl w3).alloc (.cells #[I oo, I sub, I k, I a, I b, .string E0, .string E0, .string E0, .bool false, .slice kp kl kc] 26)))
  have HD3 := xh ((hdp.low (Nat.succ_le_of_lt HSZ.out)).G ((G.refl w3).alloc (.cells #[I oo, I sub, I k, I a, I b, .string E0, .string E0, .string E0, .bool false, .slice kp kl kc] 26)))
  have HOO := xh hoo
  have HL3 : Hid (Lf rb w3.heap.size [I oo, I sub, I k, I a, I b, .string E0, .string E0, .string E0, .bool false, .slice kp kl kc] (w3.alloc (.cells #[I oo, I sub, I k, I a, I b, .string E0, .string E0, .string E0, .bool false, .slice kp kl kc] 26))) := ⟨fun o => by simp, by simp, by have := blk_lt hrd.c; omega⟩
  clear hrd hq HR1 HX1 HG1 HEE HT1 hdp hoo
  simp only [exV]
  go_wp2_with (first | (go_at_call 18; refine Hid.out ?_) | fail)
  unfold Hid
  obtain ⟨lb, hlb⟩ : ∃ lb, lb = w3.heap.size := ⟨_, rfl⟩
  rw [← hlb] at HL3 ⊢
  clear hlb
  generalize w3.alloc (.cells #[I oo, I sub, I k, I a, I b, .string E0, .string E0, .string E0, .bool false, .slice kp kl kc] 26) = w4 at HR3 HX3 HL3 HT3 HD3 ⊢
  refine (deep_any _ 24 (by omega) _ _ _ HD3.out).mono ?_
  rintro e w5 ⟨rfl, hg⟩
  have HR5 := xh (HR3.out.G hg)
  have HX5 := xh (HX3.out.G hg)
  have HD5 := xh (HD3.out.G hg)
  have hcl := (HL3.out.G hg).c
  have hct := (HT3.out.G hg).c
  clear hg HR3 HX3 HL3 HT3 HD3
  rw [decide_eq_false (Nat.not_lt.2 HDD.out)]
  have hcr := HX5.out.c
  have hfr := HX5.out.f
  go_wp2
  refine bodyPost_ret (v := exV oo sub k a b kp kl kc) (by simp [results, Tryz.results9, go_sem, hcr, exV]) rfl ⟨⟨oo, sub, k, a, b, kp, kl, kc, rfl, HOO.out, (HD5.out.ten (Nat.lt_succ_self _) _ _ _ _ _ _ _ _ _ _).low (Nat.le_succ _)⟩, HR5.out.ten HX5.out.n HGN.out _ _ _ _ _ _ _ _ _ _, HX5.out.q.ten (Nat.le_refl _) _ _ _ _ _ _ _ _ _ _⟩
set_option maxRecDepth 100000 in
set_option maxHeartbeats 1000000 in
theorem whole_n {w0 : World} {rb g : Nat} {ts : List Tok} {i j d : Nat} (hd : 24 < d) {y : Tok} (hy : ts[i]? = some y) {W : World} (h : Rd rb g ts i W) (g0 : G w0 W) (HEX : ∀ W, Rd rb g ts i W → G w0 W → Calls Tryz.prog 17 #[ptr rb] W fun e W' => (∃ oo sub k a b kp kl kc, e = .returned (exV oo sub k a b kp kl kc) ∧ ¬ oo = 0 ∧ Dp W.heap.size W' d (exV oo sub k a b kp kl kc)) ∧ Rd rb g ts j W' ∧ Qr rb W W') : Calls Tryz.prog 9 #[ptr rb] W fun e W' => e = .panicked [{ v := .iface 55 (.agg #[I 103, I y.p]), recovered := false }] ∧ Qr rb W W' := by
  have HX0 := xh (Rx.new (w := W) h.Q0.1)
  have HGN := xh h.Q0.2
  have HR0 := xh (h.G ((G.refl W).alloc (.cells #[I 0, I 0, I 0, I 0, I 0, .string E0, .string E0, .string E0, .bool false, .slice none 0 0] 26)))
  have HEE := xh HEX
  have HYY := xh hy
  have HDD := xh hd
  have HNA : Hid (W.heap.size < (W.alloc (.cells #[I 0, I 0, I 0, I 0, I 0, .string E0, .string E0, .string E0, .bool false, .slice none 0 0] 26)).heap.size) := by unfold Hid; simp
  have HGA := xh (g0.trans ((G.refl W).alloc (.cells #[I 0, I 0, I 0, I 0, I 0, .string E0, .string E0, .string E0, .bool false, .slice none 0 0] 26)))
  have HRB := xh h.Q0.1
  have hfd : ∀ w : World, (Instr.field 60 (.agg #[I y.k, .string y.t, I y.p]) 2).run Tryz.prog w = .ok (I y.p) w := fun _ => by kernel_rfl
  clear h g0 HEX hy hd
  go_enter Tryz.func9, Tryz.ntmps9
  go_wp2_with (first | (go_at_call 16; refine Hid.out ?_) | fail)
  unfold Hid
  generalize W.alloc (.cells #[I 0, I 0, I 0, I 0, I 0, .string E0, .string E0, .string E0, .bool false, .slice none 0 0] 26) = wa at HX0 HR0 HGA HNA ⊢
  refine (next_any HR0.out HYY.out).mono ?_
  rintro e w1 ⟨rfl, hg⟩
  have HR1 := xh (HR0.out.G (hg.trans ((G.refl w1).alloc (.cells #[I y.k, .string y.t, I y.p] 60))))
  have HX1 := xh (HX0.out.G (hg.trans ((G.refl w1).alloc (.cells #[I y.k, .string y.t, I y.p] 60))))
  have HG1 := xh (HGA.out.trans (hg.trans ((G.refl w1).alloc (.cells #[I y.k, .string y.t, I y.p] 60))))
  have HT1 : Hid (Lf rb w1.heap.size [I y.k, .string y.t, I y.p] (w1.alloc (.cells #[I y.k, .string y.t, I y.p] 60))) := ⟨fun o => by simp, by simp, by have := HRB.out; have := HNA.out; have := hg.size; omega⟩
  have HSZ : Hid (W.heap.size < (w1.alloc (.cells #[I y.k, .string y.t, I y.p] 60)).heap.size) := by have := HNA.out; have := hg.size; unfold Hid; simp; omega
  clear hg HR0 HX0 HGA
  simp only [tkA]
  go_wp2_with (first | (go_at_call 17; refine Hid.out ?_) | fail)
  unfold Hid
  obtain ⟨tb, htb⟩ : ∃ tb, tb = w1.heap.size := ⟨_, rfl⟩
  rw [← htb] at HT1 ⊢
  clear htb
  generalize w1.alloc (.cells #[I y.k, .string y.t, I y.p] 60) = w2 at HR1 HX1 HG1 HT1 HSZ ⊢
  refine (HEE.out _ HR1.out HG1.out).mono ?_
  rintro e w3 ⟨⟨oo, sub, k, a, b, kp, kl, kc, rfl, hoo, hdp⟩, hrd, hq⟩
  have HR3 := xh (hrd.G ((G.refl w3).alloc (.cells #[I oo, I sub, I k, I a, I b, .string E0, .string E0, .string E0, .bool false, .slice kp kl kc] 26)))
  have HX3 := xh ((HX1.out.Q hq).G ((G.refl w3).alloc (.cells #[I oo, I sub, I k, I a, I b, .string E0, .string E0, .string E0, .bool false, .slice kp kl kc] 26)))
  have HT3 := xh ((HT1.out.Q hq).G ((G.refl w3).alloc (.cells #[I oo, I sub, I k, I a, I b, .string E0, .string E0, .string E0, .bool false, .slice kp kl kc] 26)))
  have HD3 := xh ((hdp.low (Nat.succ_le_of_lt HSZ.out)).G ((G.refl w3).alloc (.cells #[I oo, I sub, I k, I a, I b, .string E0, .string E0, .string E0, .bool false, .slice kp kl kc] 26)))
  have HOO := xh hoo
  have HL3 : Hid (Lf rb w3.heap.size [I oo, I sub, I k, I a, I b, .string E0, .string E0, .string E0, .bool false, .slice kp kl kc] (w3.alloc (.cells #[I oo, I sub, I k, I a, I b, .string E0, .string E0, .string E0, .bool false, .slice kp kl kc] 26))) := ⟨fun o => by simp, by simp, by have := blk_lt hrd.c; omega⟩
  clear hrd hq HR1 HX1 HG1 HEE HT1 hdp hoo
  simp only [exV]
  go_wp2_with (first | (go_at_call 18; refine Hid.out ?_) | fail)
  unfold Hid
  obtain ⟨lb, hlb⟩ : ∃ lb, lb = w3.heap.size := ⟨_, rfl⟩
  rw [← hlb] at HL3 ⊢
  clear hlb
  generalize w3.alloc (.cells #[I oo, I sub, I k, I a, I b, .string E0, .string E0, .string E0, .bool false, .slice kp kl kc] 26) = w4 at HR3 HX3 HL3 HT3 HD3 ⊢
  refine (deep_any _ 24 (by omega) _ _ _ HD3.out).mono ?_
  rintro e w5 ⟨rfl, hg⟩
  have HR5 := xh (HR3.out.G hg)
  have HX5 := xh (HX3.out.G hg)
  have HD5 := xh (HD3.out.G hg)
  have hcl := (HL3.out.G hg).c
  have hct := (HT3.out.G hg).c
  clear hg HR3 HX3 HL3 HT3 HD3
  rw [decide_eq_true HDD.out]
  go_wp2
  exact ⟨rfl, rfl, HX5.out.q⟩
end
open Go.RowKit

set_option maxRecDepth 100000 in
set_option maxHeartbeats 1000000 in
theorem endx_y {rb g : Nat} {ts : List Tok} {i j d : Nat} {x : Tok} (hx : ts[j]? = some x) (hk : x.k = 7) {W : World} (h : Rd rb g ts i W) {w0 : World} (g0 : G w0 W) (HC : ∀ W, Rd rb g ts i W → G w0 W → Calls Tryz.prog 9 #[ptr rb] W fun e W' => (∃ oo sub k a b kp kl kc, e = .returned (exV oo sub k a b kp kl kc) ∧ ¬ oo = 0 ∧ Dp W.heap.size W' d (exV oo sub k a b kp kl kc)) ∧ Rd rb g ts j W' ∧ Qr rb W W') : Calls Tryz.prog 15 #[ptr rb, .func (.func 9) #[] #[]] W fun e W' => (∃ oo sub k a b kp kl kc, e = .returned (exV oo sub k a b kp kl kc) ∧ ¬ oo = 0) ∧ Rd rb g ts j W' ∧ Qr rb W W' := by
  have HX0 := xh (Rx.new (w := W) h.Q0.1)
  have HGN := xh h.Q0.2
  have HR0 := xh (h.G ((G.refl W).alloc (.cells #[I 0, I 0, I 0, I 0, I 0, .string E0, .string E0, .string E0, .bool false, .slice none 0 0] 26)))
  have HCC := xh HC
  have HXX := xh hx
  have HK := xh hk
  have HGA := xh (g0.trans ((G.refl W).alloc (.cells #[I 0, I 0, I 0, I 0, I 0, .string E0, .string E0, .string E0, .bool false, .slice none 0 0] 26)))
  clear h g0 HC hx hk
  go_enter Tryz.func15, Tryz.ntmps15
  go_wp2_with (first | (go_at_call 9; refine Hid.out ?_) | fail)
  unfold Hid
  generalize W.alloc (.cells #[I 0, I 0, I 0, I 0, I 0, .string E0, .string E0, .string E0, .bool false, .slice none 0 0] 26) = wa at HX0 HR0 HGA ⊢
  refine (HCC.out _ HR0.out HGA.out).mono ?_
  rintro e w3 ⟨⟨oo, sub, k, a, b, kp, kl, kc, rfl, hoo, hdp⟩, hrd, hq⟩
  have HR3 := xh (hrd.G ((G.refl w3).alloc (.cells #[I oo, I sub, I k, I a, I b, .string E0, .string E0, .string E0, .bool false, .slice kp kl kc] 26)))
  have HX3 := xh ((HX0.out.Q hq).G ((G.refl w3).alloc (.cells #[I oo, I sub, I k, I a, I b, .string E0, .string E0, .string E0, .bool false, .slice kp kl kc] 26)))
  have HL3 : Hid (Lf rb w3.heap.size [I oo, I sub, I k, I a, I b, .string E0, .string E0, .string E0, .bool false, .slice kp kl kc] (w3.alloc (.cells #[I oo, I sub, I k, I a, I b, .string E0, .string E0, .string E0, .bool false, .slice kp kl kc] 26))) := ⟨fun o => by simp, by simp, by have := blk_lt hrd.c; omega⟩
  have HOO := xh hoo
  clear hrd hq HR0 HX0 HGA HCC hdp hoo
  simp only [exV]
  go_wp2_with (first | (go_at_call 33; refine Hid.out ?_) | fail)
  unfold Hid
  obtain ⟨lb, hlb⟩ : ∃ lb, lb = w3.heap.size := ⟨_, rfl⟩
  rw [← hlb] at HL3 ⊢
  generalize w3.alloc (.cells #[I oo, I sub, I k, I a, I b, .string E0, .string E0, .string E0, .bool false, .slice kp kl kc] 26) = w4 at HR3 HX3 HL3 ⊢
  refine (atEnd_any HR3.out HXX.out).mono ?_
  rintro e w5 ⟨rfl, hg⟩
  have HR5 := xh (HR3.out.G hg)
  have HX5 := xh (HX3.out.G hg)
  have hcl := (HL3.out.G hg).c
  clear hg HR3 HX3 HL3 hlb
  rw [HK.out]
  go_wp2_with (first | (go_at_call 32; refine Hid.out ?_) | fail)
  unfold Hid
  refine (must_yes _).mono ?_
  rintro e ww ⟨rfl, rfl⟩
  have hcr := HX5.out.c
  have hfr := HX5.out.f
  go_wp2
  refine bodyPost_ret (v := exV oo sub k a b kp kl kc) (by simp [results, Tryz.results15, go_sem, hcr, exV]) rfl ⟨⟨oo, sub, k, a, b, kp, kl, kc, rfl, HOO.out⟩, HR5.out.ten HX5.out.n HGN.out _ _ _ _ _ _ _ _ _ _, HX5.out.q.ten (Nat.le_refl _) _ _ _ _ _ _ _ _ _ _⟩
set_option maxRecDepth 100000 in
set_option maxHeartbeats 1000000 in
theorem endx_n {rb g : Nat} {ts : List Tok} {i : Nat} {pp : Int} {W : World} (h : Rd rb g ts i W) {w0 : World} (g0 : G w0 W) (HC : ∀ W, Rd rb g ts i W → G w0 W → Calls Tryz.prog 9 #[ptr rb] W fun e W' => e = .panicked [{ v := .iface 55 (.agg #[I 103, I pp]), recovered := false }] ∧ Qr rb W W') : Calls Tryz.prog 15 #[ptr rb, .func (.func 9) #[] #[]] W fun e W' => e = .panicked [{ v := .iface 55 (.agg #[I 103, I pp]), recovered := false }] ∧ Qr rb W W' := by
  have HR0 := xh (h.G ((G.refl W).alloc (.cells #[I 0, I 0, I 0, I 0, I 0, .string E0, .string E0, .string E0, .bool false, .slice none 0 0] 26)))
  have HQ0 : Hid (Qr rb W (W.alloc (.cells #[I 0, I 0, I 0, I 0, I 0, .string E0, .string E0, .string E0, .bool false, .slice none 0 0] 26))) := Qr.of ((G.refl W).alloc _)
  have HGA := xh (g0.trans ((G.refl W).alloc (.cells #[I 0, I 0, I 0, I 0, I 0, .string E0, .string E0, .string E0, .bool false, .slice none 0 0] 26)))
  have HCC := xh HC
  clear h g0 HC
  go_enter Tryz.func15, Tryz.ntmps15
  go_wp2_with (first | (go_at_call 9; refine Hid.out ?_) | fail)
  unfold Hid
  refine (HCC.out _ HR0.out HGA.out).mono ?_
  rintro e w1 ⟨rfl, hq⟩
  have HQ1 := xh (HQ0.out.trans hq)
  clear hq
  go_wp2
  exact ⟨rfl, rfl, HQ1.out⟩
set_option maxRecDepth 100000 in
set_option maxHeartbeats 1000000 in
theorem caux_y {u : ByteArray} {ts : List Tok} {w0 w : World} (g0 : G w0 w) (hlx : LexOk u ts w0) (hl0 : 0 < ts.length) (hl5 : ts.length ≤ 5000) {j d : Nat} {x : Tok} (hx : ts[j]? = some x) (hk : x.k = 7)
    (HW : ∀ rb g W, w0.heap.size ≤ rb → Rd rb g ts 0 W → G w0 W → Calls Tryz.prog 9 #[ptr rb] W fun e W' => (∃ oo sub k a b kp kl kc, e = .returned (exV oo sub k a b kp kl kc) ∧ ¬ oo = 0 ∧ Dp W.heap.size W' d (exV oo sub k a b kp kl kc)) ∧ Rd rb g ts j W' ∧ Qr rb W W') :
    Calls Tryz.prog 8 #[.string u, .func (.func 9) #[] #[]] w fun e W' => (∃ oo sub k a b kp kl kc, e = .returned (.tuple #[exV oo sub k a b kp kl kc, I 0, I 0]) ∧ ¬ oo = 0) ∧ G w W' := by
  have hmf : ∀ (fn : Fn) (first cap : Array Value) (w : World), (Instr.makeFunc fn first cap).run Tryz.prog w = .ok (.func fn first cap) w := fun _ _ _ _ => rfl
  have HCZ := xh (Cz.new w 26 27 3 [I 0, I 0, I 0, I 0, I 0, .string E0, .string E0, .string E0, .bool false, .slice none 0 0] 0 0)
  have HGW := xh ((((G.refl w).alloc (.cells #[I 0, I 0, I 0, I 0, I 0, .string E0, .string E0, .string E0, .bool false, .slice none 0 0] 26)).alloc (.cells #[I 0] 27)).alloc (.cells #[I 0] 3))
  have HLX := xh hlx
  have HWW := xh HW
  have HXX := xh hx
  have HK := xh hk
  clear hx hk
  have HG0 := xh g0
  clear hlx HW g0
  go_enter_defers Tryz.func8, Tryz.ntmps8
  go_wp2_with (first | (go_at_call 13; refine Hid.out ?_) | fail)
  unfold Hid
  generalize (((w.alloc (.cells #[I 0, I 0, I 0, I 0, I 0, .string E0, .string E0, .string E0, .bool false, .slice none 0 0] 26)).alloc (.cells #[I 0] 27)).alloc (.cells #[I 0] 3)) = wa at HCZ HGW ⊢
  refine (HLX.out wa (HG0.out.trans HGW.out)).mono ?_
  rintro e w1 ⟨g, cp, rfl, hcap, htk, hgl, hg⟩
  have HC1 := xh (HCZ.out.G hg)
  have HG1 := xh (HGW.out.trans hg)
  have HTK := xh htk
  have hc1 := HC1.out.c1
  have hf1 := HC1.out.f1
  have hc2 := HC1.out.c2
  have hf2 := HC1.out.f2
  have hlI : (0 : Int) < (ts.length : Int) := by omega
  have hcI : (ts.length : Int) ≤ (cp : Int) := by omega
  have hz0 := HCZ.out.z
  clear hg htk HCZ HGW HLX
  go_wp2_with (first | (go_at_call 15; refine Hid.out ?_) | fail)
  unfold Hid
  have HC2 := xh ((HC1.out.set1 0).set2 0)
  have HG2 := xh ((HG1.out.set1 (I 0) 1).set1 (I 0) 2)
  have hz1 := HC1.out.z
  have HT2 : Hid (TkM g ts ((w1.setCell ⟨w.heap.size + 1, 0, none⟩ (I 0)).setCell ⟨w.heap.size + 2, 0, none⟩ (I 0))) := HTK.out.keep ((set_other _ _ _ _ _ (by omega)).trans (set_other _ _ _ _ _ (by omega)))
  have hsz : ((w1.setCell ⟨w.heap.size + 1, 0, none⟩ (I 0)).setCell ⟨w.heap.size + 2, 0, none⟩ (I 0)).heap.size = w1.heap.size := by simp [World.setCell]
  have hgl2 : g < w1.heap.size := by
    obtain ⟨y, hy⟩ : ∃ y, ts[0]? = some y := ⟨_, List.getElem?_eq_getElem hl0⟩
    exact cell_lt (HTK.out 0 y hy).1
  rw [show w.heap.size + 1 + 1 = w.heap.size + 2 from rfl, ← hsz]
  have HSZ : Hid (w.heap.size + 2 < ((w1.setCell ⟨w.heap.size + 1, 0, none⟩ (I 0)).setCell ⟨w.heap.size + 2, 0, none⟩ (I 0)).heap.size) := by rw [hsz]; exact hz1
  have HGL : Hid (g < ((w1.setCell ⟨w.heap.size + 1, 0, none⟩ (I 0)).setCell ⟨w.heap.size + 2, 0, none⟩ (I 0)).heap.size) := by rw [hsz]; exact hgl2
  clear HC1 HG1 HTK hc1 hf1 hc2 hf2 hsz hz1 hgl2
  generalize (w1.setCell ⟨w.heap.size + 1, 0, none⟩ (I 0)).setCell ⟨w.heap.size + 2, 0, none⟩ (I 0) = w2 at HC2 HG2 HT2 HSZ HGL ⊢
  have HRD := xh (Rd.new HT2.out HGL.out hl0 hl5)
  have HG3 := xh (HG2.out.trans ((G.refl w2).alloc (.cells #[.slice (some ⟨g, 0, none⟩) ts.length ts.length] 58)))
  have HC3 := xh (HC2.out.G ((G.refl w2).alloc (.cells #[.slice (some ⟨g, 0, none⟩) ts.length ts.length] 58)))
  have HWR : Hid (w0.heap.size ≤ w2.heap.size) := Nat.le_trans HG0.out.size HG2.out.size
  obtain ⟨rb, hrb⟩ : ∃ rb, rb = w2.heap.size := ⟨_, rfl⟩
  rw [← hrb] at HRD HSZ HWR ⊢
  generalize w2.alloc (.cells #[.slice (some ⟨g, 0, none⟩) ts.length ts.length] 58) = w3 at HRD HG3 HC3 ⊢
  clear HC2 HG2 HT2 HGL hrb
  refine (endx_y HXX.out HK.out HRD.out (HG0.out.trans HG3.out) (fun W h g0 => HWW.out rb g W HWR.out h g0)).mono ?_
  rintro e w4 ⟨⟨oo, sub, k, a, b, kp, kl, kc, rfl, hoo⟩, hrd, hq⟩
  have HC4 := xh (HC3.out.Q hq HSZ.out)
  have HG4 := xh (hq.G HG3.out (by have := HSZ.out; omega))
  have HOO := xh hoo
  clear hrd hq hoo HRD HG3 HC3 HWW
  have hc0 := HC4.out.c0
  have hf0 := HC4.out.f0
  have hc1 := HC4.out.c1
  have hf1 := HC4.out.f1
  have hc2 := HC4.out.c2
  have hf2 := HC4.out.f2
  simp only [exV]
  go_wp2
  refine leaves_cons (f := 14) (args := #[ptr (w.heap.size + 1), ptr (w.heap.size + 2)]) (by simp) (by simp [go_sem]) ?_
  refine (clE_idle _ _ _).mono ?_
  rintro e u' w'' ⟨rfl, rfl, rfl⟩
  simp [Leaves, settle, results, Tryz.results8, go_sem, hc0, hc1, hc2]
  exact ⟨⟨oo, ⟨sub, k, a, b, kp, kl, kc, rfl⟩, HOO.out⟩, ((HG4.out.ten _ _ _ _ _ _ _ _ _ _).set1 _ 1).set1 _ 2⟩
set_option maxRecDepth 100000 in
set_option maxHeartbeats 1000000 in
theorem caux_n {u : ByteArray} {ts : List Tok} {w0 w : World} (g0 : G w0 w) (hlx : LexOk u ts w0) (hl0 : 0 < ts.length) (hl5 : ts.length ≤ 5000) {pp : Int}
    (HW : ∀ rb g W, w0.heap.size ≤ rb → Rd rb g ts 0 W → G w0 W → Calls Tryz.prog 9 #[ptr rb] W fun e W' => e = .panicked [{ v := .iface 55 (.agg #[I 103, I pp]), recovered := false }] ∧ Qr rb W W') :
    Calls Tryz.prog 8 #[.string u, .func (.func 9) #[] #[]] w fun e W' => e = .returned (.tuple #[.agg #[I 0, I 0, I 0, I 0, I 0, .string E0, .string E0, .string E0, .bool false, .slice none 0 0], I 103, I pp]) ∧ G w W' := by
  have hmf : ∀ (fn : Fn) (first cap : Array Value) (w : World), (Instr.makeFunc fn first cap).run Tryz.prog w = .ok (.func fn first cap) w := fun _ _ _ _ => rfl
  have HCZ := xh (Cz.new w 26 27 3 [I 0, I 0, I 0, I 0, I 0, .string E0, .string E0, .string E0, .bool false, .slice none 0 0] 0 0)
  have HGW := xh ((((G.refl w).alloc (.cells #[I 0, I 0, I 0, I 0, I 0, .string E0, .string E0, .string E0, .bool false, .slice none 0 0] 26)).alloc (.cells #[I 0] 27)).alloc (.cells #[I 0] 3))
  have HLX := xh hlx
  have HWW := xh HW
  have HG0 := xh g0
  clear hlx HW g0
  go_enter_defers Tryz.func8, Tryz.ntmps8
  go_wp2_with (first | (go_at_call 13; refine Hid.out ?_) | fail)
  unfold Hid
  generalize (((w.alloc (.cells #[I 0, I 0, I 0, I 0, I 0, .string E0, .string E0, .string E0, .bool false, .slice none 0 0] 26)).alloc (.cells #[I 0] 27)).alloc (.cells #[I 0] 3)) = wa at HCZ HGW ⊢
  refine (HLX.out wa (HG0.out.trans HGW.out)).mono ?_
  rintro e w1 ⟨g, cp, rfl, hcap, htk, hgl, hg⟩
  have HC1 := xh (HCZ.out.G hg)
  have HG1 := xh (HGW.out.trans hg)
  have HTK := xh htk
  have hc1 := HC1.out.c1
  have hf1 := HC1.out.f1
  have hc2 := HC1.out.c2
  have hf2 := HC1.out.f2
  have hlI : (0 : Int) < (ts.length : Int) := by omega
  have hcI : (ts.length : Int) ≤ (cp : Int) := by omega
  have hz0 := HCZ.out.z
  clear hg htk HCZ HGW HLX
  go_wp2_with (first | (go_at_call 15; refine Hid.out ?_) | fail)
  unfold Hid
  have HC2 := xh ((HC1.out.set1 0).set2 0)
  have HG2 := xh ((HG1.out.set1 (I 0) 1).set1 (I 0) 2)
  have hz1 := HC1.out.z
  have HT2 : Hid (TkM g ts ((w1.setCell ⟨w.heap.size + 1, 0, none⟩ (I 0)).setCell ⟨w.heap.size + 2, 0, none⟩ (I 0))) := HTK.out.keep ((set_other _ _ _ _ _ (by omega)).trans (set_other _ _ _ _ _ (by omega)))
  have hsz : ((w1.setCell ⟨w.heap.size + 1, 0, none⟩ (I 0)).setCell ⟨w.heap.size + 2, 0, none⟩ (I 0)).heap.size = w1.heap.size := by simp [World.setCell]
  have hgl2 : g < w1.heap.size := by
    obtain ⟨y, hy⟩ : ∃ y, ts[0]? = some y := ⟨_, List.getElem?_eq_getElem hl0⟩
    exact cell_lt (HTK.out 0 y hy).1
  rw [show w.heap.size + 1 + 1 = w.heap.size + 2 from rfl, ← hsz]
  have HSZ : Hid (w.heap.size + 2 < ((w1.setCell ⟨w.heap.size + 1, 0, none⟩ (I 0)).setCell ⟨w.heap.size + 2, 0, none⟩ (I 0)).heap.size) := by rw [hsz]; exact hz1
  have HGL : Hid (g < ((w1.setCell ⟨w.heap.size + 1, 0, none⟩ (I 0)).setCell ⟨w.heap.size + 2, 0, none⟩ (I 0)).heap.size) := by rw [hsz]; exact hgl2
  clear HC1 HG1 HTK hc1 hf1 hc2 hf2 hsz hz1 hgl2
  generalize (w1.setCell ⟨w.heap.size + 1, 0, none⟩ (I 0)).setCell ⟨w.heap.size + 2, 0, none⟩ (I 0) = w2 at HC2 HG2 HT2 HSZ HGL ⊢
  have HRD := xh (Rd.new HT2.out HGL.out hl0 hl5)
  have HG3 := xh (HG2.out.trans ((G.refl w2).alloc (.cells #[.slice (some ⟨g, 0, none⟩) ts.length ts.length] 58)))
  have HC3 := xh (HC2.out.G ((G.refl w2).alloc (.cells #[.slice (some ⟨g, 0, none⟩) ts.length ts.length] 58)))
  have HWR : Hid (w0.heap.size ≤ w2.heap.size) := Nat.le_trans HG0.out.size HG2.out.size
  obtain ⟨rb, hrb⟩ : ∃ rb, rb = w2.heap.size := ⟨_, rfl⟩
  rw [← hrb] at HRD HSZ HWR ⊢
  generalize w2.alloc (.cells #[.slice (some ⟨g, 0, none⟩) ts.length ts.length] 58) = w3 at HRD HG3 HC3 ⊢
  clear HC2 HG2 HT2 HGL hrb
  refine (endx_n HRD.out (HG0.out.trans HG3.out) (fun W h g0 => HWW.out rb g W HWR.out h g0)).mono ?_
  rintro e w4 ⟨rfl, hq⟩
  have HC4 := xh (HC3.out.Q hq HSZ.out)
  have HG4 := xh (hq.G HG3.out (by have := HSZ.out; omega))
  clear hq HRD HG3 HC3 HWW
  go_wp2
  refine leaves_cons (f := 14) (args := #[ptr (w.heap.size + 1), ptr (w.heap.size + 2)]) (by simp) (by simp [go_sem]) ?_
  refine (clE_panic _ _ 103 pp 0 0 [] _ HC4.out.c1 HC4.out.f1 HC4.out.c2 HC4.out.f2 (by omega)).mono ?_
  rintro e u' w'' ⟨rfl, rfl, rfl⟩
  have HC5 := xh ((((HC4.out.set1 103).set2 pp).G ((G.refl _).alloc (.cells #[I 103, I pp] 55))).G (G.drew (G.refl _)))
  have HG5 : Hid (G w (((w4.setCell ⟨w.heap.size + 1, 0, none⟩ (I 103)).setCell ⟨w.heap.size + 2, 0, none⟩ (I pp)).alloc (.cells #[I 103, I pp] 55)).drew) := G.drew (G.alloc ((HG4.out.set1 (I 103) 1).set1 (I pp) 2) _)
  clear HC4 HG4
  generalize (((w4.setCell ⟨w.heap.size + 1, 0, none⟩ (I 103)).setCell ⟨w.heap.size + 2, 0, none⟩ (I pp)).alloc (.cells #[I 103, I pp] 55)).drew = w5 at HC5 HG5 ⊢
  have hc0 := HC5.out.c0
  have hc1 := HC5.out.c1
  have hc2 := HC5.out.c2
  simp [Leaves, settle, results, Tryz.results8, go_sem, hc0, hc1, hc2]
  exact HG5.out
set_option maxRecDepth 100000 in
set_option maxHeartbeats 1000000 in
theorem pe_y {u : ByteArray} {w : World} (hc : ∀ W, G w W → Calls Tryz.prog 8 #[.string u, .func (.func 9) #[] #[]] W fun e W' => (∃ oo sub k a b kp kl kc, e = .returned (.tuple #[exV oo sub k a b kp kl kc, I 0, I 0]) ∧ ¬ oo = 0) ∧ G W W') :
    Calls Tryz.prog 5 #[.string u] w fun e W' => (∃ oo sub k a b kp kl kc, e = .returned (.tuple #[exV oo sub k a b kp kl kc, I 0, I 0]) ∧ ¬ oo = 0) ∧ G w W' := by
  have HC := xh hc
  have HGW := xh ((G.refl w).alloc (.cells #[I 0, I 0, I 0, I 0, I 0, .string E0, .string E0, .string E0, .bool false, .slice none 0 0] 26))
  have HC0 : Hid (∀ o, (w.alloc (.cells #[I 0, I 0, I 0, I 0, I 0, .string E0, .string E0, .string E0, .bool false, .slice none 0 0] 26)).cell? ⟨w.heap.size, o, none⟩ = [I 0, I 0, I 0, I 0, I 0, .string E0, .string E0, .string E0, .bool false, .slice none 0 0][o]?) := fun o => by simp
  have HF0 : Hid (∀ o, (w.alloc (.cells #[I 0, I 0, I 0, I 0, I 0, .string E0, .string E0, .string E0, .bool false, .slice none 0 0] 26)).frozen? ⟨w.heap.size, o, none⟩ = false) := fun o => by simp
  have HZ0 : Hid (w.heap.size < (w.alloc (.cells #[I 0, I 0, I 0, I 0, I 0, .string E0, .string E0, .string E0, .bool false, .slice none 0 0] 26)).heap.size) := by unfold Hid; simp
  clear hc
  go_enter Tryz.func5, Tryz.ntmps5
  go_wp2_with (first | (go_at_call 8; refine Hid.out ?_) | fail)
  unfold Hid
  generalize w.alloc (.cells #[I 0, I 0, I 0, I 0, I 0, .string E0, .string E0, .string E0, .bool false, .slice none 0 0] 26) = wa at HGW HC0 HF0 HZ0 ⊢
  refine (HC.out wa HGW.out).mono ?_
  rintro e w1 ⟨⟨oo, sub, k, a, b, kp, kl, kc, rfl, hoo⟩, hg⟩
  have hc0 := G.cells hg HC0.out HZ0.out
  have hf0 := G.frozens hg HF0.out HZ0.out
  have HG1 := xh (HGW.out.trans hg)
  have HOO := xh hoo
  clear hg HC0 HF0 HZ0 HGW HC hoo
  simp only [exV]
  go_wp2
  refine bodyPost_ret (v := .tuple #[exV oo sub k a b kp kl kc, I 0, I 0]) (by simp [results, Tryz.results5, go_sem, hc0, exV]) rfl ⟨⟨oo, sub, k, a, b, kp, kl, kc, rfl, HOO.out⟩, HG1.out.ten _ _ _ _ _ _ _ _ _ _⟩
end
open Go.RowKit

set_option maxRecDepth 100000 in
set_option maxHeartbeats 1000000 in
theorem not_yes {w0 : World} {rb g : Nat} (hr : w0.heap.size ≤ rb) {ts : List Tok} {i j d : Nat} {y : Tok} (hy : ts[i]? = some y) (hn : seB y ⟨#[110, 111, 116]⟩ = true) (hl : i + 1 < ts.length) {W : World} (h : Rd rb g ts i W) (g0 : G w0 W) (HC : ∀ W, Rd rb g ts (i + 1) W → G w0 W → Calls Tryz.prog 34 #[ptr rb, .int .i64 4] W fun e W' => (∃ oo sub k a b kp kl kc, e = .returned (exV oo sub k a b kp kl kc) ∧ ¬ oo = 0 ∧ Dp W.heap.size W' d (exV oo sub k a b kp kl kc)) ∧ Rd rb g ts j W' ∧ Qr rb W W') : Calls Tryz.prog 61 #[ptr rb] W fun e W' => (∃ oo sub k a b kp kl kc, e = .returned (exV oo sub k a b kp kl kc) ∧ ¬ oo = 0 ∧ Dp W.heap.size W' (d + 1) (exV oo sub k a b kp kl kc)) ∧ Rd rb g ts j W' ∧ Qr rb W W' := by
  have HX0 := xh (Rx.new (w := W) h.Q0.1)
  have HGN := xh h.Q0.2
  have HR0 := xh (h.G ((G.refl W).alloc (.cells #[I 0, I 0, I 0, I 0, I 0, .string E0, .string E0, .string E0, .bool false, .slice none 0 0] 26)))
  have HYY := xh hy
  have HNN := xh hn
  have HCC := xh HC
  have HRB := xh hr
  have HNA : Hid (W.heap.size < (W.alloc (.cells #[I 0, I 0, I 0, I 0, I 0, .string E0, .string E0, .string E0, .bool false, .slice none 0 0] 26)).heap.size) := by unfold Hid; simp
  have HGA := xh (g0.trans ((G.refl W).alloc (.cells #[I 0, I 0, I 0, I 0, I 0, .string E0, .string E0, .string E0, .bool false, .slice none 0 0] 26)))
  clear h g0 HC hy hn hr
  go_enter Tryz.func61, Tryz.ntmps61
  go_wp2_with (first | (go_at_call 44; refine Hid.out ?_) | fail)
  unfold Hid
  generalize W.alloc (.cells #[I 0, I 0, I 0, I 0, I 0, .string E0, .string E0, .string E0, .bool false, .slice none 0 0] 26) = wa at HX0 HR0 HGA HNA ⊢
  refine (took_yes HR0.out HYY.out ⟨#[110, 111, 116]⟩ HNN.out hl).mono ?_
  rintro e w1 ⟨rfl, hrd, hq⟩
  have HR1 := xh hrd
  have HX1 := xh (HX0.out.Q hq)
  have HG1 : Hid (G w0 w1) := hq.G HGA.out HRB.out
  have HS1 : Hid (W.heap.size < w1.heap.size) := Nat.lt_of_lt_of_le HNA.out hq.size
  clear hrd hq HR0 HX0 HGA HNA
  go_wp2_with (first | (go_at_call 34; refine Hid.out ?_) | fail)
  unfold Hid
  refine (HCC.out _ HR1.out HG1.out).mono ?_
  rintro e w2 ⟨⟨oo, sub, k, a, b, kp, kl, kc, rfl, hoo, hdp⟩, hrd, hq⟩
  have HR2 := xh hrd
  have HX2 := xh (HX1.out.Q hq)
  have HD2 := xh (hdp.low (Nat.succ_le_of_lt HS1.out))
  have HS2 : Hid (W.heap.size < w2.heap.size) := Nat.lt_of_lt_of_le HS1.out hq.size
  clear hrd hq HR1 HX1 HG1 HS1 hdp hoo HCC
  go_wp2_with (first | (go_at_call 96; refine Hid.out ?_) | fail)
  unfold Hid
  refine (un_any 2 oo sub k a b kp kl kc _).mono ?_
  rintro e w3 ⟨kb, rfl, hkd, hkb, hg⟩
  have HR3 := xh (HR2.out.G hg)
  have HX3 := xh (HX2.out.G hg)
  have HD3 : Hid (Dp (W.heap.size + 1) w3 (d + 1) (exV 4 2 0 0 0 (some ⟨kb, 0, none⟩) 1 1)) := .un hkd (by have := HS2.out; omega) (Nat.le_refl _) (by decide) (HD2.out.G hg)
  clear hg hkd hkb HR2 HX2 HD2 HS2
  have hcr := HX3.out.c
  have hfr := HX3.out.f
  simp only [exV]
  go_wp2
  refine bodyPost_ret (v := exV 4 2 0 0 0 (some ⟨kb, 0, none⟩) 1 1) (by simp [results, Tryz.results61, go_sem, hcr, exV]) rfl ⟨⟨4, 2, 0, 0, 0, some ⟨kb, 0, none⟩, 1, 1, rfl, by decide, (HD3.out.ten (Nat.lt_succ_self _) _ _ _ _ _ _ _ _ _ _).low (Nat.le_succ _)⟩, HR3.out.ten HX3.out.n HGN.out _ _ _ _ _ _ _ _ _ _, HX3.out.q.ten (Nat.le_refl _) _ _ _ _ _ _ _ _ _ _⟩
set_option maxRecDepth 100000 in
set_option maxHeartbeats 1000000 in
theorem op_yes {w0 : World} (hO : OpV w0) {rb g : Nat} {ts : List Tok} {i : Nat} {W : World} (h : Rd rb g ts i W) (g0 : G w0 W) {x : Tok} (hx : ts[i]? = some x) (rank : Int) (k0 : Nat) (hk0 : k0 < 19) {t0 : List UInt8} {b0 : Bool} (h0 : opsL[k0]? = some (t0, rank, b0)) (hs : seB x (sU t0) = true) (hn : ∀ (k : Nat) (t : List UInt8) (r : Int) (b : Bool), k < k0 → opsL[k]? = some (t, r, b) → r = rank → seB x (sU t) = false) : Calls Tryz.prog 64 #[ptr rb, .int .i64 rank] W fun e W' => e = .returned (.int .i64 (k0 : Int)) ∧ G W W' := by
  have hr := hO.at g0
  have HR := xh h
  have HX := xh hx
  have HN := xh hn
  have H0 := xh h0
  have HS0 := xh hs
  have hi : (Tryz.prog.info? 144).map (·.size) = some opsA.toList.length := by kernel_rfl
  clear hO h g0 hx hn h0 hs
  go_enter Tryz.func64, Tryz.ntmps64
  go_wp2_with (first | (refine wpList_load_mid rfl 144 _ rfl 2 0 rfl opsA.toList _ hr Tryz.underlying144 rfl hi ?_) | fail)
  rw [Array.toArray_toList]
  have HIX := xh ix_op
  generalize opsA = OA at HIX ⊢
  clear hr hi
  go_loopw [8] (fun p W' => ∃ k : Nat, k ≤ k0 ∧ p = .int .i64 (k : Int) ∧ G W W') (fun p _ => 19 - (RowKit.intOf p).toNat)
  case atStart => exact ⟨0, by omega, rfl, G.refl _⟩
  case round =>
    obtain ⟨k, hk, rfl, hg⟩ := hrel
    have HG := xh hg
    clear hg
    by_cases hlt0 : k < k0
    · have hlt : k < 19 := by omega
      have hltI : (k : Int) < 19 := by omega
      obtain ⟨t, r, b, hl, hix⟩ := HIX.out k hlt
      have HL := xh hl
      clear hl
      by_cases hrr : r = rank
      · have hrB : (r == rank) = true := by simp [hrr]
        have HS := xh (fun W' (h : Rd rb g ts i W') => sees_any h HX.out (sU t))
        rw [HN.out k t r b hlt0 HL.out hrr] at HS
        have HGA := xh (HG.out.alloc (.cells #[.string (sU t), I r, .bool b] 143))
        subst hrr
        clear hrB
        go_wp2_with (first | (go_at_call 26; refine Hid.out ?_) | fail)
        unfold Hid
        refine (HS.out _ (HR.out.G HGA.out)).mono ?_
        rintro e w2 ⟨rfl, hg⟩
        have HG2 := xh (HGA.out.trans hg)
        clear hg HS HGA
        go_wp2
        go_roundw
        case rel => exact ⟨k + 1, by omega, by go_num, HG2.out⟩
        case measure => simp [RowKit.intOf]; omega
      · have hrB : (r == rank) = false := beq_false_of_ne hrr
        have HGA := xh (HG.out.alloc (.cells #[.string (sU t), I r, .bool b] 143))
        go_wp2
        go_roundw
        case rel => exact ⟨k + 1, by omega, by go_num, HGA.out⟩
        case measure => simp [RowKit.intOf]; omega
    · obtain rfl : k = k0 := by omega
      have hltI : (k : Int) < 19 := by omega
      obtain ⟨t, r, b, hl, hix⟩ := HIX.out k hk0
      have hq := hl.symm.trans H0.out
      simp only [Option.some.injEq, Prod.mk.injEq] at hq
      obtain ⟨rfl, rfl, rfl⟩ := hq
      have HS := xh (fun W' (h : Rd rb g ts i W') => sees_any h HX.out (sU t))
      rw [HS0.out] at HS
      have HGA := xh (HG.out.alloc (.cells #[.string (sU t), I r, .bool b] 143))
      clear hl hk hlt0
      go_wp2_with (first | (go_at_call 26; refine Hid.out ?_) | fail)
      unfold Hid
      refine (HS.out _ (HR.out.G HGA.out)).mono ?_
      rintro e w2 ⟨rfl, hg⟩
      have HG2 := xh (HGA.out.trans hg)
      clear hg HS HGA
      go_wp2
      go_ret
      exact ⟨rfl, HG2.out⟩
end
open Go.RowKit

theorem seB_t' (a : List UInt8) (k : Int) (p : Nat) (hk : (k == 2 || k == 6) = true) : seB ⟨k, sU a, p⟩ (sU a) = true := by
  show ((k == 2 || k == 6) && ((sU a).toList == (sU a).toList)) = true
  rw [hk, beq_self_eq_true]; rfl
/-- How many tokens the reader still has. -/
def rdLen (rb : Nat) (W : World) : Nat := match W.cell? ⟨rb, 0, none⟩ with | some (.slice _ n _) => n | _ => 0
theorem Rd.len {rb g : Nat} {ts : List Tok} {i : Nat} {W : World} (h : Rd rb g ts i W) : rdLen rb W = ts.length - i := by
  unfold rdLen; rw [h.cell]
def opN (n m : Nat) : Int := if m + 1 < n then 1 else 0
theorem op_at {w0 : World} (hO : OpV w0) {rb g : Nat} {ts : List Tok} {i n m : Nat} (hm : m < n)
    (HP : ∀ m, m + 1 < n → ∃ x p, ts[i + 2 * m + 1]? = some x ∧ x = ⟨6, sU [43], p⟩) (HS : ∃ x, ts[i + 2 * (n - 1) + 1]? = some x ∧ StopT x) (W : World) (h : Rd rb g ts (i + 2 * m + 1) W) (g0 : G w0 W) : Calls Tryz.prog 64 #[ptr rb, .int .i64 6] W fun e W' => e = .returned (.int .i64 (opN n m)) ∧ G W W' := by
  unfold opN
  by_cases hc : m + 1 < n
  · rw [if_pos hc]
    obtain ⟨x, p, hx, rfl⟩ := HP m hc
    exact op_yes hO h g0 hx 6 1 (by decide) (t0 := [43]) (b0 := false) rfl (seB_t' [43] 6 p rfl) (fun k t r b hk hl hr => by
      obtain rfl : k = 0 := by omega
      simp [opsL] at hl
      omega)
  · rw [if_neg hc]
    obtain rfl : m = n - 1 := by omega
    obtain ⟨x, hx, hst⟩ := HS
    exact op_none hO h g0 hx 6 (hst.o 6)
theorem Ry.low {rb n : Nat} {vs : List Value} {W : World} (h : Ry rb vs n W) : n < W.heap.size := h.z
theorem Ry.ten {rb n : Nat} {W : World} {u0 u1 u2 u3 u4 u5 u6 u7 u8 u9 : Value} (h : Ry rb [u0, u1, u2, u3, u4, u5, u6, u7, u8, u9] n W) (v0 v1 v2 v3 v4 v5 v6 v7 v8 v9 : Value) : Ry rb [v0, v1, v2, v3, v4, v5, v6, v7, v8, v9] n ((((((((((W.setCell ⟨n, 0, none⟩ v0).setCell ⟨n, 1, none⟩ v1).setCell ⟨n, 2, none⟩ v2).setCell ⟨n, 3, none⟩ v3).setCell ⟨n, 4, none⟩ v4).setCell ⟨n, 5, none⟩ v5).setCell ⟨n, 6, none⟩ v6).setCell ⟨n, 7, none⟩ v7).setCell ⟨n, 8, none⟩ v8).setCell ⟨n, 9, none⟩ v9) :=
  (((((((((h.set 0 v0 (by simp)).set 1 v1 (by simp)).set 2 v2 (by simp)).set 3 v3 (by simp)).set 4 v4 (by simp)).set 5 v5 (by simp)).set 6 v6 (by simp)).set 7 v7 (by simp)).set 8 v8 (by simp)).set 9 v9 (by simp)
theorem Ry.tenf {rb n b : Nat} {W : World} {vs : List Value} (h : Ry rb vs n W) (hb : b ≠ n) (v0 v1 v2 v3 v4 v5 v6 v7 v8 v9 : Value) : Ry rb vs n ((((((((((W.setCell ⟨b, 0, none⟩ v0).setCell ⟨b, 1, none⟩ v1).setCell ⟨b, 2, none⟩ v2).setCell ⟨b, 3, none⟩ v3).setCell ⟨b, 4, none⟩ v4).setCell ⟨b, 5, none⟩ v5).setCell ⟨b, 6, none⟩ v6).setCell ⟨b, 7, none⟩ v7).setCell ⟨b, 8, none⟩ v8).setCell ⟨b, 9, none⟩ v9) :=
  (((((((((h.far 0 v0 hb).far 1 v1 hb).far 2 v2 hb).far 3 v3 hb).far 4 v4 hb).far 5 v5 hb).far 6 v6 hb).far 7 v7 hb).far 8 v8 hb).far 9 v9 hb
/-- Between two terms of a sum. -/
structure Sm (rb g : Nat) (ts : List Tok) (i nb lb m : Nat) (W0 : World) (LCs : List Value) (v : Value) (W : World) : Prop where
  l : Ry rb LCs lb W
  x : Ry rb [I 0, I 0, I 0, I 0, I 0, .string E0, .string E0, .string E0, .bool false, .slice none 0 0] nb W
  d : Dp (lb + 1) W (m + 1) v
  r : Rd rb g ts (i + 2 * m + 1) W
  q : Qr rb W0 W
set_option maxRecDepth 100000 in
set_option maxHeartbeats 1000000 in
theorem sum_any {w0 : World} (hO : OpV w0) {rb g : Nat} (hr : w0.heap.size ≤ rb) {ts : List Tok} {i n : Nat} (hn : 1 ≤ n) {W : World} (h : Rd rb g ts i W) (g0 : G w0 W)
    (HC : ∀ m, m < n → ∀ W, Rd rb g ts (i + 2 * m) W → G w0 W → Calls Tryz.prog 34 #[ptr rb, .int .i64 7] W fun e W' => e = .returned (exV 1 0 2 1 0 none 0 0) ∧ Rd rb g ts (i + 2 * m + 1) W' ∧ Qr rb W W')
    (HP : ∀ m, m + 1 < n → ∃ x p, ts[i + 2 * m + 1]? = some x ∧ x = ⟨6, sU [43], p⟩) (HS : ∃ x, ts[i + 2 * (n - 1) + 1]? = some x ∧ StopT x) : Calls Tryz.prog 34 #[ptr rb, .int .i64 6] W fun e W' => (∃ oo sub k a b kp kl kc, e = .returned (exV oo sub k a b kp kl kc) ∧ ¬ oo = 0 ∧ Dp W.heap.size W' n (exV oo sub k a b kp kl kc)) ∧ Rd rb g ts (i + 2 * (n - 1) + 1) W' ∧ Qr rb W W' := by
  have HX0 := xh (Ry.new h.Q0.1 [I 0, I 0, I 0, I 0, I 0, .string E0, .string E0, .string E0, .bool false, .slice none 0 0] 26)
  have HGN := xh h.Q0.2
  have HRW := xh h.Q0.1
  have HR0 := xh (h.G ((G.refl W).alloc (.cells #[I 0, I 0, I 0, I 0, I 0, .string E0, .string E0, .string E0, .bool false, .slice none 0 0] 26)))
  have HQ0 : Hid (Qr rb W (W.alloc (.cells #[I 0, I 0, I 0, I 0, I 0, .string E0, .string E0, .string E0, .bool false, .slice none 0 0] 26))) := Qr.of ((G.refl W).alloc _)
  have HOA := xh (fun m (hm : m < n) => op_at hO (rb := rb) (g := g) (ts := ts) (i := i) hm HP HS)
  have HCC := xh HC
  have HPP := xh HP
  have HLN : Hid (i + 2 * (n - 1) + 1 < ts.length) := by
    obtain ⟨x, hx, -⟩ := HS
    exact (List.getElem?_eq_some_iff.1 hx).1
  have HRB := xh hr
  have HN1 := xh hn
  have HG0 := xh g0
  have HGA := xh (g0.trans ((G.refl W).alloc (.cells #[I 0, I 0, I 0, I 0, I 0, .string E0, .string E0, .string E0, .bool false, .slice none 0 0] 26)))
  clear h g0 HC hO hr HP HS hn
  go_enter Tryz.func34, Tryz.ntmps34
  go_wp2_with (first | (go_at_call 34; refine Hid.out ?_) | fail)
  unfold Hid
  obtain ⟨nb, hnb⟩ : ∃ nb, nb = W.heap.size := ⟨_, rfl⟩
  have HNB : Hid (W.heap.size = nb) := hnb.symm
  rw [← hnb] at HX0 HGN ⊢
  clear hnb
  generalize W.alloc (.cells #[I 0, I 0, I 0, I 0, I 0, .string E0, .string E0, .string E0, .bool false, .slice none 0 0] 26) = wa at HX0 HR0 HQ0 HGA ⊢
  refine (HCC.out 0 HN1.out _ HR0.out HGA.out).mono ?_
  rintro e w1 ⟨rfl, hrd, hq⟩
  have hga : G w1 (w1.alloc (.cells #[I 1, I 0, I 2, I 1, I 0, .string E0, .string E0, .string E0, .bool false, .slice none 0 0] 26)) := (G.refl _).alloc _
  have HY1 := xh (Ry.new hrd.Q0.1 [I 1, I 0, I 2, I 1, I 0, .string E0, .string E0, .string E0, .bool false, .slice none 0 0] 26)
  have HSM : Hid (Sm rb g ts i nb w1.heap.size 0 W [I 1, I 0, I 2, I 1, I 0, .string E0, .string E0, .string E0, .bool false, .slice none 0 0] (exV 1 0 2 1 0 none 0 0) (w1.alloc (.cells #[I 1, I 0, I 2, I 1, I 0, .string E0, .string E0, .string E0, .bool false, .slice none 0 0] 26))) := ⟨HY1.out, (HX0.out.Q hq).G hga, .lit _ _ _, hrd.G hga, (HQ0.out.trans hq).trans (Qr.of hga)⟩
  have HNL : Hid (nb < w1.heap.size) := by have := HX0.out.z; have := hq.size; unfold Hid; omega
  have HGL : Hid (w1.heap.size ≠ g) := by have := hrd.gl; unfold Hid; omega
  have HG1 : Hid (G w0 (w1.alloc (.cells #[I 1, I 0, I 2, I 1, I 0, .string E0, .string E0, .string E0, .bool false, .slice none 0 0] 26))) := (hq.G HGA.out HRB.out).trans hga
  clear hrd hq hga HY1 HX0 HR0 HQ0 HGA
  simp only [exV]
  go_wp2_with (first | (go_at_call 64; refine Hid.out ?_) | fail)
  unfold Hid
  obtain ⟨lb, hlb⟩ : ∃ lb, lb = w1.heap.size := ⟨_, rfl⟩
  rw [← hlb] at HSM HNL HGL ⊢
  clear hlb
  generalize w1.alloc (.cells #[I 1, I 0, I 2, I 1, I 0, .string E0, .string E0, .string E0, .bool false, .slice none 0 0] 26) = w2 at HSM HG1 ⊢
  refine (HOA.out 0 HN1.out w2 HSM.out.r HG1.out).mono ?_
  rintro e w3 ⟨rfl, hg⟩
  have HS3 : Hid (Sm rb g ts i nb lb 0 W [I 1, I 0, I 2, I 1, I 0, .string E0, .string E0, .string E0, .bool false, .slice none 0 0] (exV 1 0 2 1 0 none 0 0) w3) := ⟨HSM.out.l.G hg, HSM.out.x.G hg, HSM.out.d.G hg, HSM.out.r.G hg, HSM.out.q.trans (Qr.of hg)⟩
  clear hg HSM HG1
  go_wp2_with fail
  go_loopw [6] (fun p W' => ∃ m, m < n ∧ p = .int .i64 (opN n m) ∧ ∃ oo sub k a b kp kl kc, ¬ oo = 0 ∧ Sm rb g ts i nb lb m W [I oo, I sub, I k, I a, I b, .string E0, .string E0, .string E0, .bool false, .slice kp kl kc] (exV oo sub k a b kp kl kc) W') (fun _ W' => rdLen rb W')
  case atStart => exact ⟨0, HN1.out, rfl, 1, 0, 2, 1, 0, none, 0, 0, by decide, HS3.out⟩
  case round =>
    obtain ⟨m, hm, rfl, oo, sub, k, a, b, kp, kl, kc, hoo, hsm⟩ := hrel
    have HSM := xh hsm
    have HO1 := xh hoo
    clear hsm hoo HS3
    by_cases hc : m + 1 < n
    · have hop : opN n m = 1 := if_pos hc
      rw [hop]
      clear hop
      obtain ⟨x, p, hx, -⟩ := HPP.out m hc
      have HXX := xh hx
      clear hx
      go_wp2_with (first | (go_at_call 65; refine Hid.out ?_) | fail)
      unfold Hid
      refine (pass_any HSM.out.r HXX.out (by have := HLN.out; omega)).mono ?_
      rintro e w5 ⟨rfl, hrd, hq⟩
      have HR5 : Hid (Rd rb g ts (i + 2 * (m + 1)) w5) := hrd
      have HY5 := xh (HSM.out.l.Q hq)
      have HX5 := xh (HSM.out.x.Q hq)
      have HL5 : Hid (rb < lb + 1) := by have := HRW.out; have := HNB.out; have := HNL.out; unfold Hid; omega
      have HD5 := xh (HSM.out.d.Q hq HL5.out)
      have HQ5 := xh (HSM.out.q.trans hq)
      have HG5 : Hid (G w0 w5) := HQ5.out.G HG0.out HRB.out
      clear hrd hq
      simp only [tkA]
      go_wp2_with fail
      refine wp_region_noPanic ?_
      refine wp_region_L (S := (fun V => ∀ o, V.cell? ⟨lb, o, none⟩ = ([I oo, I sub, I k, I a, I b, .string E0, .string E0, .string E0, .bool false, .slice kp kl kc] : List Value)[o]?)) 7 (by kernel_rfl) ((HY5.out.G (G.drew (G.refl _))).c) (fun hHeld => ?_)
      refine wpAnyL_take (i := 0) (v := ?_) rfl (by kernel_rfl) (by kernel_rfl) (by kernel_rfl) (by kernel_rfl) (fun _ _ _ h => h) (Or.inl ⟨by rfl, ?_⟩) hHeld ?_
      rotate_left 1
      · (intro w hSw; (try dsimp only at hSw); go_simp; try with_reducible rfl)
      try simp only [Act.put, List.getElem_toArray, List.getElem_cons_zero, List.setIfInBounds_toArray, List.set_cons_zero, List.set_cons_succ]
      refine wpAnyL_take (i := 1) (v := ?_) rfl (by kernel_rfl) (by kernel_rfl) (by kernel_rfl) (by kernel_rfl) (fun _ _ _ h => h) (Or.inl ⟨by rfl, ?_⟩) hHeld ?_
      rotate_left 1
      · (intro w hSw; have q1 := hSw; go_simp; try with_reducible rfl)
      try simp only [Act.put, List.getElem_toArray, List.getElem_cons_zero, List.getElem_cons_succ, List.setIfInBounds_toArray, List.set_cons_zero, List.set_cons_succ]
      refine wpAnyL_take (i := 2) (v := ?_) rfl (by kernel_rfl) (by kernel_rfl) (by kernel_rfl) (by kernel_rfl) (fun _ _ _ h => h) (Or.inl ⟨by rfl, ?_⟩) hHeld ?_
      rotate_left 1
      · (intro w hSw; (try dsimp only at hSw); go_simp; try with_reducible rfl)
      try simp only [Act.put, List.getElem_toArray, List.getElem_cons_zero, List.getElem_cons_succ, List.setIfInBounds_toArray, List.set_cons_zero, List.set_cons_succ]
      refine wpAnyL_take (i := 3) (v := ?_) rfl (by kernel_rfl) (by kernel_rfl) (by kernel_rfl) (by kernel_rfl) (fun _ _ _ h => h) (Or.inl ⟨by rfl, ?_⟩) hHeld ?_
      rotate_left 1
      · (intro w hSw; (try dsimp only at hSw); go_simp; try with_reducible rfl)
      try simp only [Act.put, List.getElem_toArray, List.getElem_cons_zero, List.getElem_cons_succ, List.setIfInBounds_toArray, List.set_cons_zero, List.set_cons_succ]
      refine wpAnyL_take (i := 4) (v := ?_) rfl (by kernel_rfl) (by kernel_rfl) (by kernel_rfl) (by kernel_rfl) (fun _ _ _ h => h) (Or.inl ⟨by rfl, ?_⟩) hHeld ?_
      rotate_left 1
      · (intro w hSw; (try dsimp only at hSw); go_simp; try with_reducible rfl)
      try simp only [Act.put, List.getElem_toArray, List.getElem_cons_zero, List.getElem_cons_succ, List.setIfInBounds_toArray, List.set_cons_zero, List.set_cons_succ]
      refine wpAnyL_one (i := 5) (by kernel_rfl) rfl (by kernel_rfl) (fun K hK => ?_)
      clear hHeld
      refine (if_pos rfl).mpr ?_
      go_simp
      refine (HCC.out (m + 1) (by omega) _ (HR5.out.G (G.drew (G.refl _))) (G.drew HG5.out)).mono ?_
      rintro e w6 ⟨rfl, hrd, hq⟩
      have HR6 := xh hrd
      have HQ6 : Hid (Qr rb w5 w6) := (Qr.of (G.drew (G.refl _))).trans hq
      clear hrd hq
      simp only [exV]
      go_wp2_with fail
      refine hK.out _ _ ((HY5.out.Q HQ6.out).c) (fun hHeld => ?_)
      clear hK K
      try simp only [Act.put, List.getElem_toArray, List.getElem_cons_zero, List.getElem_cons_succ, List.setIfInBounds_toArray, List.set_cons_zero, List.set_cons_succ]
      refine wpAnyL_one (i := 6) (by kernel_rfl) rfl (by kernel_rfl) (fun K hK => ?_)
      clear hHeld
      refine (if_pos rfl).mpr ?_
      go_simp
      refine (bi_any 1 oo sub k a b kp kl kc 1 0 2 1 0 none 0 0 w6).mono ?_
      rintro e w7 ⟨kb, rfl, hkd, hkb, hg⟩
      have HG7 := xh hg
      have HKD := xh hkd
      have HKB := xh hkb
      clear hg hkd hkb
      simp only [exV]
      go_wp2_with fail
      refine hK.out _ _ (((HY5.out.Q HQ6.out).G HG7.out).c) (fun hHeld => ?_)
      clear hK K
      try simp only [Act.put, List.getElem_toArray, List.getElem_cons_zero, List.getElem_cons_succ, List.setIfInBounds_toArray, List.set_cons_zero, List.set_cons_succ]
      refine wpAnyL_last (by kernel_rfl) rfl (by kernel_rfl) (fun K hK => ?_)
      clear hHeld
      have hc8 := ((HY5.out.Q HQ6.out).G HG7.out).c
      have hz8 := ((HY5.out.Q HQ6.out).G HG7.out).f
      go_simp
      refine hK.out _ _ ?_
      clear hK K
      refine NoPanic.normal ?_
      have HKL : Hid (lb + 1 ≤ kb ∧ lb ≠ nb ∧ W.heap.size ≤ lb) := ⟨by have := HY5.out.z; have := HQ6.out.size; have := HKB.out; omega, by have := HNL.out; omega, by have := HNL.out; have := HNB.out; omega⟩
      have HY8 : Hid (Ry rb [I 5, I 1, I 0, I 0, I 0, .string E0, .string E0, .string E0, .bool false, .slice (some ⟨kb, 0, none⟩) 2 2] lb ((((((((((w7.setCell ⟨lb, 0, none⟩ (I 5)).setCell ⟨lb, 1, none⟩ (I 1)).setCell ⟨lb, 2, none⟩ (I 0)).setCell ⟨lb, 3, none⟩ (I 0)).setCell ⟨lb, 4, none⟩ (I 0)).setCell ⟨lb, 5, none⟩ (.string E0)).setCell ⟨lb, 6, none⟩ (.string E0)).setCell ⟨lb, 7, none⟩ (.string E0)).setCell ⟨lb, 8, none⟩ (.bool false)).setCell ⟨lb, 9, none⟩ (.slice (some ⟨kb, 0, none⟩) 2 2))) := ((HY5.out.Q HQ6.out).G HG7.out).ten _ _ _ _ _ _ _ _ _ _
      have HX8 : Hid (Ry rb [I 0, I 0, I 0, I 0, I 0, .string E0, .string E0, .string E0, .bool false, .slice none 0 0] nb ((((((((((w7.setCell ⟨lb, 0, none⟩ (I 5)).setCell ⟨lb, 1, none⟩ (I 1)).setCell ⟨lb, 2, none⟩ (I 0)).setCell ⟨lb, 3, none⟩ (I 0)).setCell ⟨lb, 4, none⟩ (I 0)).setCell ⟨lb, 5, none⟩ (.string E0)).setCell ⟨lb, 6, none⟩ (.string E0)).setCell ⟨lb, 7, none⟩ (.string E0)).setCell ⟨lb, 8, none⟩ (.bool false)).setCell ⟨lb, 9, none⟩ (.slice (some ⟨kb, 0, none⟩) 2 2))) := ((HX5.out.Q HQ6.out).G HG7.out).tenf HKL.out.2.1 _ _ _ _ _ _ _ _ _ _
      have HD8 : Hid (Dp (lb + 1) ((((((((((w7.setCell ⟨lb, 0, none⟩ (I 5)).setCell ⟨lb, 1, none⟩ (I 1)).setCell ⟨lb, 2, none⟩ (I 0)).setCell ⟨lb, 3, none⟩ (I 0)).setCell ⟨lb, 4, none⟩ (I 0)).setCell ⟨lb, 5, none⟩ (.string E0)).setCell ⟨lb, 6, none⟩ (.string E0)).setCell ⟨lb, 7, none⟩ (.string E0)).setCell ⟨lb, 8, none⟩ (.bool false)).setCell ⟨lb, 9, none⟩ (.slice (some ⟨kb, 0, none⟩) 2 2)) (m + 1 + 1) (exV 5 1 0 0 0 (some ⟨kb, 0, none⟩) 2 2)) := (Dp.bi HKD.out HKL.out.1 (Nat.le_refl _) (by decide) ((HD5.out.Q HQ6.out HL5.out).G HG7.out)).ten (Nat.lt_succ_self _) _ _ _ _ _ _ _ _ _ _
      have HR8 : Hid (Rd rb g ts (i + 2 * (m + 1) + 1) ((((((((((w7.setCell ⟨lb, 0, none⟩ (I 5)).setCell ⟨lb, 1, none⟩ (I 1)).setCell ⟨lb, 2, none⟩ (I 0)).setCell ⟨lb, 3, none⟩ (I 0)).setCell ⟨lb, 4, none⟩ (I 0)).setCell ⟨lb, 5, none⟩ (.string E0)).setCell ⟨lb, 6, none⟩ (.string E0)).setCell ⟨lb, 7, none⟩ (.string E0)).setCell ⟨lb, 8, none⟩ (.bool false)).setCell ⟨lb, 9, none⟩ (.slice (some ⟨kb, 0, none⟩) 2 2))) := (HR6.out.G HG7.out).ten HY5.out.n HGL.out _ _ _ _ _ _ _ _ _ _
      have HQ8 : Hid (Qr rb W ((((((((((w7.setCell ⟨lb, 0, none⟩ (I 5)).setCell ⟨lb, 1, none⟩ (I 1)).setCell ⟨lb, 2, none⟩ (I 0)).setCell ⟨lb, 3, none⟩ (I 0)).setCell ⟨lb, 4, none⟩ (I 0)).setCell ⟨lb, 5, none⟩ (.string E0)).setCell ⟨lb, 6, none⟩ (.string E0)).setCell ⟨lb, 7, none⟩ (.string E0)).setCell ⟨lb, 8, none⟩ (.bool false)).setCell ⟨lb, 9, none⟩ (.slice (some ⟨kb, 0, none⟩) 2 2))) := ((HQ5.out.trans HQ6.out).trans (Qr.of HG7.out)).ten HKL.out.2.2 _ _ _ _ _ _ _ _ _ _
      clear HY5 HX5 HD5 HR5 HQ5 HG5 HQ6 HR6 HG7 HKD HKB hc8 hz8
      generalize ((((((((((w7.setCell ⟨lb, 0, none⟩ (I 5)).setCell ⟨lb, 1, none⟩ (I 1)).setCell ⟨lb, 2, none⟩ (I 0)).setCell ⟨lb, 3, none⟩ (I 0)).setCell ⟨lb, 4, none⟩ (I 0)).setCell ⟨lb, 5, none⟩ (.string E0)).setCell ⟨lb, 6, none⟩ (.string E0)).setCell ⟨lb, 7, none⟩ (.string E0)).setCell ⟨lb, 8, none⟩ (.bool false)).setCell ⟨lb, 9, none⟩ (.slice (some ⟨kb, 0, none⟩) 2 2)) = w8 at HY8 HX8 HD8 HR8 HQ8 ⊢
      go_wp2_with (first | (go_at_call 64; refine Hid.out ?_) | fail)
      unfold Hid
      refine (HOA.out (m + 1) hc w8 HR8.out (HQ8.out.G HG0.out HRB.out)).mono ?_
      rintro e w9 ⟨rfl, hg⟩
      have HS9 : Hid (Sm rb g ts i nb lb (m + 1) W [I 5, I 1, I 0, I 0, I 0, .string E0, .string E0, .string E0, .bool false, .slice (some ⟨kb, 0, none⟩) 2 2] (exV 5 1 0 0 0 (some ⟨kb, 0, none⟩) 2 2) w9) := ⟨HY8.out.G hg, HX8.out.G hg, HD8.out.G hg, HR8.out.G hg, HQ8.out.trans (Qr.of hg)⟩
      have HME : Hid (rdLen rb w9 < rdLen rb wr) := by
        unfold Hid
        rw [HS9.out.r.len, HSM.out.r.len]
        have := HSM.out.r.l
        omega
      clear hg HY8 HX8 HD8 HR8 HQ8
      go_wp2
      go_roundw
      case rel => exact ⟨m + 1, hc, rfl, 5, 1, 0, 0, 0, some ⟨kb, 0, none⟩, 2, 2, by decide, HS9.out⟩
      case measure => exact HME.out
    · have hop : opN n m = 0 := if_neg hc
      rw [hop]
      have HMN : Hid (m = n - 1) := by unfold Hid; omega
      clear hop
      have hcl := HSM.out.l.c
      have hcx := HSM.out.x.c
      have hfx := HSM.out.x.f
      have HLT : Hid (nb < lb + 1 ∧ nb ≠ lb) := by have := HNL.out; exact ⟨by omega, by omega⟩
      have hne := HLT.out.2
      go_wp2
      refine bodyPost_ret (v := exV oo sub k a b kp kl kc) (by simp [results, Tryz.results34, go_sem, hcx, exV]) rfl ⟨⟨oo, sub, k, a, b, kp, kl, kc, rfl, HO1.out, ?_⟩, ?_, ?_⟩
      · have h1 := HSM.out.d
        have h2 := HMN.out
        have h3 := HN1.out
        rw [show m + 1 = n by omega] at h1
        exact (h1.ten HLT.out.1 _ _ _ _ _ _ _ _ _ _).low (by have := HNB.out; have := HLT.out.1; omega)
      · have h1 := HSM.out.r
        rw [HMN.out] at h1
        exact h1.ten HSM.out.x.n HGN.out _ _ _ _ _ _ _ _ _ _
      · exact HSM.out.q.ten (Nat.le_of_eq HNB.out) _ _ _ _ _ _ _ _ _ _
end Go.Proofs.YthpflfkgbapbnaaGreatDoor
