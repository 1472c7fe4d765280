/- The reader: caught. -/
import Derived.Test.YtonhocmjecgfbaaGreatDoorRd5
import Derived.Defers
import Derived.Recover
namespace Go.Proofs.YtonhocmjecgfbaaGreatDoor
section
section
open Go.RowKit

/-- A token behind which an expression does not go on. -/
structure StopT (x : Tok) : Prop where
  o : ∀ rank, noOp x rank
  s : seB x ⟨#[105, 115]⟩ = false
  n : seB x ⟨#[105, 110]⟩ = false
/-- What a variable of one's own holds. -/
structure Lf (rb lb : Nat) (vs : List Value) (W : World) : Prop where
  c : ∀ o, W.cell? ⟨lb, o, none⟩ = vs[o]?
  z : lb < W.heap.size
  n : lb ≠ rb
theorem Lf.Q {rb lb : Nat} {vs : List Value} {W W' : World} (h : Lf rb lb vs W) (q : Qr rb W W') : Lf rb lb vs W' :=
  ⟨fun o => (World.cell?_of_block (q.block _ h.z h.n)).trans (h.c o), Nat.lt_of_lt_of_le h.z q.size, h.n⟩
theorem Lf.G {rb lb : Nat} {vs : List Value} {W W' : World} (h : Lf rb lb vs W) (g : G W W') : Lf rb lb vs W' := h.Q (Qr.of g)
set_option maxRecDepth 100000 in
set_option maxHeartbeats 1000000 in
theorem rk8 {w0 : World} {rb g : Nat} {ts : List Tok} {i j : Nat} {W : World} (h : Rd rb g ts i W) (g0 : G w0 W) {k a b : Int} (HC : ∀ W, Rd rb g ts i W → G w0 W → Calls Tryz.prog 63 #[ptr rb] W fun e W' => e = .returned (litE k a b E0) ∧ Rd rb g ts j W' ∧ Qr rb W W') : Calls Tryz.prog 34 #[ptr rb, .int .i64 8] W fun e W' => e = .returned (litE k a b E0) ∧ Rd rb g ts j W' ∧ Qr rb W W' := by
  have HX0 := xh (Rx.new (w := W) h.Q0.1)
  have HGN := xh h.Q0.2
  have HR0 := xh (h.G ((G.refl W).alloc (.cells #[I 0, I 0, I 0, I 0, I 0, .string E0, .string E0, .string E0, .bool false, .slice none 0 0] 26)))
  have HGW := xh g0
  have HCC := xh HC
  have HGA := xh (g0.trans ((G.refl W).alloc (.cells #[I 0, I 0, I 0, I 0, I 0, .string E0, .string E0, .string E0, .bool false, .slice none 0 0] 26)))
  clear h g0 HC
  go_enter Tryz.func34, Tryz.ntmps34
  go_wp2_with (first | (go_at_call 63; refine Hid.out ?_) | fail)
  unfold Hid
  generalize W.alloc (.cells #[I 0, I 0, I 0, I 0, I 0, .string E0, .string E0, .string E0, .bool false, .slice none 0 0] 26) = wa at HX0 HR0 HGA ⊢
  refine (HCC.out _ HR0.out HGA.out).mono ?_
  rintro e w1 ⟨rfl, hrd, hq⟩
  have HR1 := xh hrd
  have HX1 := xh (HX0.out.Q hq)
  clear hrd hq HR0 HX0
  have hcr := HX1.out.c
  have hfr := HX1.out.f
  simp only [litE]
  go_wp2
  refine bodyPost_ret (v := litE k a b E0) (by simp [results, Tryz.results34, go_sem, hcr, litE]) rfl ⟨rfl, HR1.out.ten HX1.out.n HGN.out _ _ _ _ _ _ _ _ _ _, HX1.out.q.ten (Nat.le_refl _) _ _ _ _ _ _ _ _ _ _⟩
set_option maxRecDepth 100000 in
set_option maxHeartbeats 1000000 in
theorem rk5 {w0 : World} {rb g : Nat} {ts : List Tok} {i j : Nat} {W : World} (h : Rd rb g ts i W) (g0 : G w0 W) {k a b : Int} (HC : ∀ W, Rd rb g ts i W → G w0 W → Calls Tryz.prog 62 #[ptr rb] W fun e W' => e = .returned (litE k a b E0) ∧ Rd rb g ts j W' ∧ Qr rb W W') : Calls Tryz.prog 34 #[ptr rb, .int .i64 5] W fun e W' => e = .returned (litE k a b E0) ∧ Rd rb g ts j W' ∧ Qr rb W W' := by
  have HX0 := xh (Rx.new (w := W) h.Q0.1)
  have HGN := xh h.Q0.2
  have HR0 := xh (h.G ((G.refl W).alloc (.cells #[I 0, I 0, I 0, I 0, I 0, .string E0, .string E0, .string E0, .bool false, .slice none 0 0] 26)))
  have HGW := xh g0
  have HCC := xh HC
  have HGA := xh (g0.trans ((G.refl W).alloc (.cells #[I 0, I 0, I 0, I 0, I 0, .string E0, .string E0, .string E0, .bool false, .slice none 0 0] 26)))
  clear h g0 HC
  go_enter Tryz.func34, Tryz.ntmps34
  go_wp2_with (first | (go_at_call 62; refine Hid.out ?_) | fail)
  unfold Hid
  generalize W.alloc (.cells #[I 0, I 0, I 0, I 0, I 0, .string E0, .string E0, .string E0, .bool false, .slice none 0 0] 26) = wa at HX0 HR0 HGA ⊢
  refine (HCC.out _ HR0.out HGA.out).mono ?_
  rintro e w1 ⟨rfl, hrd, hq⟩
  have HR1 := xh hrd
  have HX1 := xh (HX0.out.Q hq)
  clear hrd hq HR0 HX0
  have hcr := HX1.out.c
  have hfr := HX1.out.f
  simp only [litE]
  go_wp2
  refine bodyPost_ret (v := litE k a b E0) (by simp [results, Tryz.results34, go_sem, hcr, litE]) rfl ⟨rfl, HR1.out.ten HX1.out.n HGN.out _ _ _ _ _ _ _ _ _ _, HX1.out.q.ten (Nat.le_refl _) _ _ _ _ _ _ _ _ _ _⟩
set_option maxRecDepth 100000 in
set_option maxHeartbeats 1000000 in
theorem rk4 {w0 : World} {rb g : Nat} {ts : List Tok} {i j : Nat} {W : World} (h : Rd rb g ts i W) (g0 : G w0 W) {k a b : Int} (HC : ∀ W, Rd rb g ts i W → G w0 W → Calls Tryz.prog 61 #[ptr rb] W fun e W' => e = .returned (litE k a b E0) ∧ Rd rb g ts j W' ∧ Qr rb W W') : Calls Tryz.prog 34 #[ptr rb, .int .i64 4] W fun e W' => e = .returned (litE k a b E0) ∧ Rd rb g ts j W' ∧ Qr rb W W' := by
  have HX0 := xh (Rx.new (w := W) h.Q0.1)
  have HGN := xh h.Q0.2
  have HR0 := xh (h.G ((G.refl W).alloc (.cells #[I 0, I 0, I 0, I 0, I 0, .string E0, .string E0, .string E0, .bool false, .slice none 0 0] 26)))
  have HGW := xh g0
  have HCC := xh HC
  have HGA := xh (g0.trans ((G.refl W).alloc (.cells #[I 0, I 0, I 0, I 0, I 0, .string E0, .string E0, .string E0, .bool false, .slice none 0 0] 26)))
  clear h g0 HC
  go_enter Tryz.func34, Tryz.ntmps34
  go_wp2_with (first | (go_at_call 61; refine Hid.out ?_) | fail)
  unfold Hid
  generalize W.alloc (.cells #[I 0, I 0, I 0, I 0, I 0, .string E0, .string E0, .string E0, .bool false, .slice none 0 0] 26) = wa at HX0 HR0 HGA ⊢
  refine (HCC.out _ HR0.out HGA.out).mono ?_
  rintro e w1 ⟨rfl, hrd, hq⟩
  have HR1 := xh hrd
  have HX1 := xh (HX0.out.Q hq)
  clear hrd hq HR0 HX0
  have hcr := HX1.out.c
  have hfr := HX1.out.f
  simp only [litE]
  go_wp2
  refine bodyPost_ret (v := litE k a b E0) (by simp [results, Tryz.results34, go_sem, hcr, litE]) rfl ⟨rfl, HR1.out.ten HX1.out.n HGN.out _ _ _ _ _ _ _ _ _ _, HX1.out.q.ten (Nat.le_refl _) _ _ _ _ _ _ _ _ _ _⟩
set_option maxRecDepth 100000 in
set_option maxHeartbeats 1000000 in
theorem ex1 {w0 : World} {rb g : Nat} {ts : List Tok} {i j : Nat} {W : World} (h : Rd rb g ts i W) (g0 : G w0 W) {k a b : Int} (HC : ∀ W, Rd rb g ts i W → G w0 W → Calls Tryz.prog 34 #[ptr rb, .int .i64 1] W fun e W' => e = .returned (litE k a b E0) ∧ Rd rb g ts j W' ∧ Qr rb W W') : Calls Tryz.prog 17 #[ptr rb] W fun e W' => e = .returned (litE k a b E0) ∧ Rd rb g ts j W' ∧ Qr rb W W' := by
  have HX0 := xh (Rx.new (w := W) h.Q0.1)
  have HGN := xh h.Q0.2
  have HR0 := xh (h.G ((G.refl W).alloc (.cells #[I 0, I 0, I 0, I 0, I 0, .string E0, .string E0, .string E0, .bool false, .slice none 0 0] 26)))
  have HGW := xh g0
  have HCC := xh HC
  have HGA := xh (g0.trans ((G.refl W).alloc (.cells #[I 0, I 0, I 0, I 0, I 0, .string E0, .string E0, .string E0, .bool false, .slice none 0 0] 26)))
  clear h g0 HC
  go_enter Tryz.func17, Tryz.ntmps17
  go_wp2_with (first | (go_at_call 34; refine Hid.out ?_) | fail)
  unfold Hid
  generalize W.alloc (.cells #[I 0, I 0, I 0, I 0, I 0, .string E0, .string E0, .string E0, .bool false, .slice none 0 0] 26) = wa at HX0 HR0 HGA ⊢
  refine (HCC.out _ HR0.out HGA.out).mono ?_
  rintro e w1 ⟨rfl, hrd, hq⟩
  have HR1 := xh hrd
  have HX1 := xh (HX0.out.Q hq)
  clear hrd hq HR0 HX0
  have hcr := HX1.out.c
  have hfr := HX1.out.f
  simp only [litE]
  go_wp2
  refine bodyPost_ret (v := litE k a b E0) (by simp [results, Tryz.results17, go_sem, hcr, litE]) rfl ⟨rfl, HR1.out.ten HX1.out.n HGN.out _ _ _ _ _ _ _ _ _ _, HX1.out.q.ten (Nat.le_refl _) _ _ _ _ _ _ _ _ _ _⟩
set_option maxRecDepth 100000 in
set_option maxHeartbeats 1000000 in
theorem not_any {w0 : World} {rb g : Nat} {ts : List Tok} {i j : Nat} {W : World} (h : Rd rb g ts i W) (g0 : G w0 W) {k a b : Int} {y : Tok} (hy : ts[i]? = some y) (hn : seB y ⟨#[110, 111, 116]⟩ = false) (HC : ∀ W, Rd rb g ts i W → G w0 W → Calls Tryz.prog 34 #[ptr rb, .int .i64 5] W fun e W' => e = .returned (litE k a b E0) ∧ Rd rb g ts j W' ∧ Qr rb W W') : Calls Tryz.prog 61 #[ptr rb] W fun e W' => e = .returned (litE k a b E0) ∧ Rd rb g ts j W' ∧ Qr rb W W' := by
  have HX0 := xh (Rx.new (w := W) h.Q0.1)
  have HGN := xh h.Q0.2
  have HR0 := xh (h.G ((G.refl W).alloc (.cells #[I 0, I 0, I 0, I 0, I 0, .string E0, .string E0, .string E0, .bool false, .slice none 0 0] 26)))
  have HGW := xh g0
  have HCC := xh HC
  have HGA := xh (g0.trans ((G.refl W).alloc (.cells #[I 0, I 0, I 0, I 0, I 0, .string E0, .string E0, .string E0, .bool false, .slice none 0 0] 26)))
  have HYY := xh hy
  have HNN := xh hn
  clear hy hn
  clear h g0 HC
  go_enter Tryz.func61, Tryz.ntmps61
  go_wp2_with (first | (go_at_call 44; refine Hid.out ?_) | fail)
  unfold Hid
  generalize W.alloc (.cells #[I 0, I 0, I 0, I 0, I 0, .string E0, .string E0, .string E0, .bool false, .slice none 0 0] 26) = wa at HX0 HR0 HGA ⊢
  refine (took_no HR0.out HYY.out ⟨#[110, 111, 116]⟩ HNN.out).mono ?_
  rintro e w1 ⟨rfl, hg⟩
  have HR1 := xh (HR0.out.G hg)
  have HX1 := xh (HX0.out.G hg)
  have HGB := xh (HGA.out.trans hg)
  clear hg HR0 HX0 HGA
  go_wp2_with (first | (go_at_call 34; refine Hid.out ?_) | fail)
  unfold Hid
  refine (HCC.out _ HR1.out HGB.out).mono ?_
  rintro e w2 ⟨rfl, hrd, hq⟩
  have HR2 := xh hrd
  have HX2 := xh (HX1.out.Q hq)
  clear hrd hq HR1 HX1
  have hcr := HX2.out.c
  have hfr := HX2.out.f
  simp only [litE]
  go_wp2
  refine bodyPost_ret (v := litE k a b E0) (by simp [results, Tryz.results61, go_sem, hcr, litE]) rfl ⟨rfl, HR2.out.ten HX2.out.n HGN.out _ _ _ _ _ _ _ _ _ _, HX2.out.q.ten (Nat.le_refl _) _ _ _ _ _ _ _ _ _ _⟩
set_option maxRecDepth 100000 in
set_option maxHeartbeats 1000000 in
theorem rk7 {w0 : World} (hO : OpV w0) {rb g : Nat} {ts : List Tok} {i j : Nat} {W : World} (h : Rd rb g ts i W) (g0 : G w0 W) (hr : w0.heap.size ≤ rb) {k a b : Int} {x : Tok} (hx : ts[j]? = some x) (hst : StopT x) (HC : ∀ W, Rd rb g ts i W → G w0 W → Calls Tryz.prog 34 #[ptr rb, .int .i64 8] W fun e W' => e = .returned (litE k a b E0) ∧ Rd rb g ts j W' ∧ Qr rb W W') : Calls Tryz.prog 34 #[ptr rb, .int .i64 7] W fun e W' => e = .returned (litE k a b E0) ∧ Rd rb g ts j W' ∧ Qr rb W W' := by
  have HX0 := xh (Rx.new (w := W) h.Q0.1)
  have HGN := xh h.Q0.2
  have HR0 := xh (h.G ((G.refl W).alloc (.cells #[I 0, I 0, I 0, I 0, I 0, .string E0, .string E0, .string E0, .bool false, .slice none 0 0] 26)))
  have HO := xh hO
  have HXX := xh hx
  have HST := xh hst
  have HCC := xh HC
  have HRB := xh hr
  have HGA := xh (g0.trans ((G.refl W).alloc (.cells #[I 0, I 0, I 0, I 0, I 0, .string E0, .string E0, .string E0, .bool false, .slice none 0 0] 26)))
  clear h g0 HC hO hx hst hr
  go_enter Tryz.func34, Tryz.ntmps34
  go_wp2_with (first | (go_at_call 34; refine Hid.out ?_) | fail)
  unfold Hid
  generalize W.alloc (.cells #[I 0, I 0, I 0, I 0, I 0, .string E0, .string E0, .string E0, .bool false, .slice none 0 0] 26) = wa at HX0 HR0 HGA ⊢
  refine (HCC.out _ HR0.out HGA.out).mono ?_
  rintro e w1 ⟨rfl, hrd, hq⟩
  have HG1 := xh ((hq.G HGA.out HRB.out).trans ((G.refl w1).alloc (.cells #[I 1, I 0, I k, I a, I b, .string E0, .string E0, .string E0, .bool false, .slice none 0 0] 26)))
  have HR1 := xh (hrd.G ((G.refl w1).alloc (.cells #[I 1, I 0, I k, I a, I b, .string E0, .string E0, .string E0, .bool false, .slice none 0 0] 26)))
  have HX1 := xh ((HX0.out.Q hq).G ((G.refl w1).alloc (.cells #[I 1, I 0, I k, I a, I b, .string E0, .string E0, .string E0, .bool false, .slice none 0 0] 26)))
  have HL1 : Hid (Lf rb w1.heap.size [I 1, I 0, I k, I a, I b, .string E0, .string E0, .string E0, .bool false, .slice none 0 0] (w1.alloc (.cells #[I 1, I 0, I k, I a, I b, .string E0, .string E0, .string E0, .bool false, .slice none 0 0] 26))) := ⟨fun o => by simp, by simp, by have := blk_lt hrd.c; omega⟩
  obtain ⟨lb, hlb⟩ : ∃ lb, lb = w1.heap.size := ⟨_, rfl⟩
  rw [← hlb] at HL1
  have HLB := xh hlb
  clear hrd hq HR0 HX0 HCC HGA hlb
  simp only [litE]
  go_wp2_with (first | (go_at_call 64; refine Hid.out ?_) | fail)
  unfold Hid
  rw [← HLB.out]
  generalize w1.alloc (.cells #[I 1, I 0, I k, I a, I b, .string E0, .string E0, .string E0, .bool false, .slice none 0 0] 26) = w2 at HG1 HR1 HX1 HL1 ⊢
  refine (op_none HO.out HR1.out HG1.out HXX.out 7 (HST.out.o 7)).mono ?_
  rintro e w3 ⟨rfl, hg⟩
  have HR3 := xh (HR1.out.G hg)
  have HX3 := xh (HX1.out.G hg)
  have HL3 := xh (HL1.out.G hg)
  clear hg HR1 HX1 HL1 HG1
  go_wp2_with fail
  go_loopw [6] (fun p W => p = .int .i64 0 ∧ W = w3) (fun _ _ => 0)
  case atStart => exact ⟨rfl, rfl⟩
  case round =>
    obtain ⟨rfl, hw3⟩ := hrel
    subst hw3
    have hcl := HL3.out.c
    have hcr := HX3.out.c
    have hfr := HX3.out.f
    skip
    go_wp2
    refine bodyPost_ret (v := litE k a b E0) (by simp [results, Tryz.results34, go_sem, hcr, litE]) rfl ⟨rfl, HR3.out.ten HX3.out.n HGN.out _ _ _ _ _ _ _ _ _ _, HX3.out.q.ten (Nat.le_refl _) _ _ _ _ _ _ _ _ _ _⟩
set_option maxRecDepth 100000 in
set_option maxHeartbeats 1000000 in
theorem rk6 {w0 : World} (hO : OpV w0) {rb g : Nat} {ts : List Tok} {i j : Nat} {W : World} (h : Rd rb g ts i W) (g0 : G w0 W) (hr : w0.heap.size ≤ rb) {k a b : Int} {x : Tok} (hx : ts[j]? = some x) (hst : StopT x) (HC : ∀ W, Rd rb g ts i W → G w0 W → Calls Tryz.prog 34 #[ptr rb, .int .i64 7] W fun e W' => e = .returned (litE k a b E0) ∧ Rd rb g ts j W' ∧ Qr rb W W') : Calls Tryz.prog 34 #[ptr rb, .int .i64 6] W fun e W' => e = .returned (litE k a b E0) ∧ Rd rb g ts j W' ∧ Qr rb W W' := by
  have HX0 := xh (Rx.new (w := W) h.Q0.1)
  have HGN := xh h.Q0.2
  have HR0 := xh (h.G ((G.refl W).alloc (.cells #[I 0, I 0, I 0, I 0, I 0, .string E0, .string E0, .string E0, .bool false, .slice none 0 0] 26)))
  have HO := xh hO
  have HXX := xh hx
  have HST := xh hst
  have HCC := xh HC
  have HRB := xh hr
  have HGA := xh (g0.trans ((G.refl W).alloc (.cells #[I 0, I 0, I 0, I 0, I 0, .string E0, .string E0, .string E0, .bool false, .slice none 0 0] 26)))
  clear h g0 HC hO hx hst hr
  go_enter Tryz.func34, Tryz.ntmps34
  go_wp2_with (first | (go_at_call 34; refine Hid.out ?_) | fail)
  unfold Hid
  generalize W.alloc (.cells #[I 0, I 0, I 0, I 0, I 0, .string E0, .string E0, .string E0, .bool false, .slice none 0 0] 26) = wa at HX0 HR0 HGA ⊢
  refine (HCC.out _ HR0.out HGA.out).mono ?_
  rintro e w1 ⟨rfl, hrd, hq⟩
  have HG1 := xh ((hq.G HGA.out HRB.out).trans ((G.refl w1).alloc (.cells #[I 1, I 0, I k, I a, I b, .string E0, .string E0, .string E0, .bool false, .slice none 0 0] 26)))
  have HR1 := xh (hrd.G ((G.refl w1).alloc (.cells #[I 1, I 0, I k, I a, I b, .string E0, .string E0, .string E0, .bool false, .slice none 0 0] 26)))
  have HX1 := xh ((HX0.out.Q hq).G ((G.refl w1).alloc (.cells #[I 1, I 0, I k, I a, I b, .string E0, .string E0, .string E0, .bool false, .slice none 0 0] 26)))
  have HL1 : Hid (Lf rb w1.heap.size [I 1, I 0, I k, I a, I b, .string E0, .string E0, .string E0, .bool false, .slice none 0 0] (w1.alloc (.cells #[I 1, I 0, I k, I a, I b, .string E0, .string E0, .string E0, .bool false, .slice none 0 0] 26))) := ⟨fun o => by simp, by simp, by have := blk_lt hrd.c; omega⟩
  obtain ⟨lb, hlb⟩ : ∃ lb, lb = w1.heap.size := ⟨_, rfl⟩
  rw [← hlb] at HL1
  have HLB := xh hlb
  clear hrd hq HR0 HX0 HCC HGA hlb
  simp only [litE]
  go_wp2_with (first | (go_at_call 64; refine Hid.out ?_) | fail)
  unfold Hid
  rw [← HLB.out]
  generalize w1.alloc (.cells #[I 1, I 0, I k, I a, I b, .string E0, .string E0, .string E0, .bool false, .slice none 0 0] 26) = w2 at HG1 HR1 HX1 HL1 ⊢
  refine (op_none HO.out HR1.out HG1.out HXX.out 6 (HST.out.o 6)).mono ?_
  rintro e w3 ⟨rfl, hg⟩
  have HR3 := xh (HR1.out.G hg)
  have HX3 := xh (HX1.out.G hg)
  have HL3 := xh (HL1.out.G hg)
  clear hg HR1 HX1 HL1 HG1
  go_wp2_with fail
  go_loopw [6] (fun p W => p = .int .i64 0 ∧ W = w3) (fun _ _ => 0)
  case atStart => exact ⟨rfl, rfl⟩
  case round =>
    obtain ⟨rfl, hw3⟩ := hrel
    subst hw3
    have hcl := HL3.out.c
    have hcr := HX3.out.c
    have hfr := HX3.out.f
    skip
    go_wp2
    refine bodyPost_ret (v := litE k a b E0) (by simp [results, Tryz.results34, go_sem, hcr, litE]) rfl ⟨rfl, HR3.out.ten HX3.out.n HGN.out _ _ _ _ _ _ _ _ _ _, HX3.out.q.ten (Nat.le_refl _) _ _ _ _ _ _ _ _ _ _⟩
set_option maxRecDepth 100000 in
set_option maxHeartbeats 1000000 in
theorem rk3 {w0 : World} (hO : OpV w0) {rb g : Nat} {ts : List Tok} {i j : Nat} {W : World} (h : Rd rb g ts i W) (g0 : G w0 W) (hr : w0.heap.size ≤ rb) {k a b : Int} {x : Tok} (hx : ts[j]? = some x) (hst : StopT x) (HC : ∀ W, Rd rb g ts i W → G w0 W → Calls Tryz.prog 34 #[ptr rb, .int .i64 4] W fun e W' => e = .returned (litE k a b E0) ∧ Rd rb g ts j W' ∧ Qr rb W W') : Calls Tryz.prog 34 #[ptr rb, .int .i64 3] W fun e W' => e = .returned (litE k a b E0) ∧ Rd rb g ts j W' ∧ Qr rb W W' := by
  have HX0 := xh (Rx.new (w := W) h.Q0.1)
  have HGN := xh h.Q0.2
  have HR0 := xh (h.G ((G.refl W).alloc (.cells #[I 0, I 0, I 0, I 0, I 0, .string E0, .string E0, .string E0, .bool false, .slice none 0 0] 26)))
  have HO := xh hO
  have HXX := xh hx
  have HST := xh hst
  have HCC := xh HC
  have HRB := xh hr
  have HGA := xh (g0.trans ((G.refl W).alloc (.cells #[I 0, I 0, I 0, I 0, I 0, .string E0, .string E0, .string E0, .bool false, .slice none 0 0] 26)))
  clear h g0 HC hO hx hst hr
  go_enter Tryz.func34, Tryz.ntmps34
  go_wp2_with (first | (go_at_call 34; refine Hid.out ?_) | fail)
  unfold Hid
  generalize W.alloc (.cells #[I 0, I 0, I 0, I 0, I 0, .string E0, .string E0, .string E0, .bool false, .slice none 0 0] 26) = wa at HX0 HR0 HGA ⊢
  refine (HCC.out _ HR0.out HGA.out).mono ?_
  rintro e w1 ⟨rfl, hrd, hq⟩
  have HG1 := xh ((hq.G HGA.out HRB.out).trans ((G.refl w1).alloc (.cells #[I 1, I 0, I k, I a, I b, .string E0, .string E0, .string E0, .bool false, .slice none 0 0] 26)))
  have HR1 := xh (hrd.G ((G.refl w1).alloc (.cells #[I 1, I 0, I k, I a, I b, .string E0, .string E0, .string E0, .bool false, .slice none 0 0] 26)))
  have HX1 := xh ((HX0.out.Q hq).G ((G.refl w1).alloc (.cells #[I 1, I 0, I k, I a, I b, .string E0, .string E0, .string E0, .bool false, .slice none 0 0] 26)))
  have HL1 : Hid (Lf rb w1.heap.size [I 1, I 0, I k, I a, I b, .string E0, .string E0, .string E0, .bool false, .slice none 0 0] (w1.alloc (.cells #[I 1, I 0, I k, I a, I b, .string E0, .string E0, .string E0, .bool false, .slice none 0 0] 26))) := ⟨fun o => by simp, by simp, by have := blk_lt hrd.c; omega⟩
  obtain ⟨lb, hlb⟩ : ∃ lb, lb = w1.heap.size := ⟨_, rfl⟩
  rw [← hlb] at HL1
  have HLB := xh hlb
  clear hrd hq HR0 HX0 HCC HGA hlb
  simp only [litE]
  go_wp2_with (first | (go_at_call 64; refine Hid.out ?_) | fail)
  unfold Hid
  rw [← HLB.out]
  generalize w1.alloc (.cells #[I 1, I 0, I k, I a, I b, .string E0, .string E0, .string E0, .bool false, .slice none 0 0] 26) = w2 at HG1 HR1 HX1 HL1 ⊢
  refine (op_none HO.out HR1.out HG1.out HXX.out 3 (HST.out.o 3)).mono ?_
  rintro e w3 ⟨rfl, hg⟩
  have HR3 := xh (HR1.out.G hg)
  have HX3 := xh (HX1.out.G hg)
  have HL3 := xh (HL1.out.G hg)
  clear hg HR1 HX1 HL1 HG1
  go_wp2_with fail
  go_loopw [6] (fun p W => p = .int .i64 0 ∧ W = w3) (fun _ _ => 0)
  case atStart => exact ⟨rfl, rfl⟩
  case round =>
    obtain ⟨rfl, hw3⟩ := hrel
    subst hw3
    have hcl := HL3.out.c
    have hcr := HX3.out.c
    have hfr := HX3.out.f
    skip
    go_wp2
    refine bodyPost_ret (v := litE k a b E0) (by simp [results, Tryz.results34, go_sem, hcr, litE]) rfl ⟨rfl, HR3.out.ten HX3.out.n HGN.out _ _ _ _ _ _ _ _ _ _, HX3.out.q.ten (Nat.le_refl _) _ _ _ _ _ _ _ _ _ _⟩
set_option maxRecDepth 100000 in
set_option maxHeartbeats 1000000 in
theorem rk2 {w0 : World} (hO : OpV w0) {rb g : Nat} {ts : List Tok} {i j : Nat} {W : World} (h : Rd rb g ts i W) (g0 : G w0 W) (hr : w0.heap.size ≤ rb) {k a b : Int} {x : Tok} (hx : ts[j]? = some x) (hst : StopT x) (HC : ∀ W, Rd rb g ts i W → G w0 W → Calls Tryz.prog 34 #[ptr rb, .int .i64 3] W fun e W' => e = .returned (litE k a b E0) ∧ Rd rb g ts j W' ∧ Qr rb W W') : Calls Tryz.prog 34 #[ptr rb, .int .i64 2] W fun e W' => e = .returned (litE k a b E0) ∧ Rd rb g ts j W' ∧ Qr rb W W' := by
  have HX0 := xh (Rx.new (w := W) h.Q0.1)
  have HGN := xh h.Q0.2
  have HR0 := xh (h.G ((G.refl W).alloc (.cells #[I 0, I 0, I 0, I 0, I 0, .string E0, .string E0, .string E0, .bool false, .slice none 0 0] 26)))
  have HO := xh hO
  have HXX := xh hx
  have HST := xh hst
  have HCC := xh HC
  have HRB := xh hr
  have HGA := xh (g0.trans ((G.refl W).alloc (.cells #[I 0, I 0, I 0, I 0, I 0, .string E0, .string E0, .string E0, .bool false, .slice none 0 0] 26)))
  clear h g0 HC hO hx hst hr
  go_enter Tryz.func34, Tryz.ntmps34
  go_wp2_with (first | (go_at_call 34; refine Hid.out ?_) | fail)
  unfold Hid
  generalize W.alloc (.cells #[I 0, I 0, I 0, I 0, I 0, .string E0, .string E0, .string E0, .bool false, .slice none 0 0] 26) = wa at HX0 HR0 HGA ⊢
  refine (HCC.out _ HR0.out HGA.out).mono ?_
  rintro e w1 ⟨rfl, hrd, hq⟩
  have HG1 := xh ((hq.G HGA.out HRB.out).trans ((G.refl w1).alloc (.cells #[I 1, I 0, I k, I a, I b, .string E0, .string E0, .string E0, .bool false, .slice none 0 0] 26)))
  have HR1 := xh (hrd.G ((G.refl w1).alloc (.cells #[I 1, I 0, I k, I a, I b, .string E0, .string E0, .string E0, .bool false, .slice none 0 0] 26)))
  have HX1 := xh ((HX0.out.Q hq).G ((G.refl w1).alloc (.cells #[I 1, I 0, I k, I a, I b, .string E0, .string E0, .string E0, .bool false, .slice none 0 0] 26)))
  have HL1 : Hid (Lf rb w1.heap.size [I 1, I 0, I k, I a, I b, .string E0, .string E0, .string E0, .bool false, .slice none 0 0] (w1.alloc (.cells #[I 1, I 0, I k, I a, I b, .string E0, .string E0, .string E0, .bool false, .slice none 0 0] 26))) := ⟨fun o => by simp, by simp, by have := blk_lt hrd.c; omega⟩
  obtain ⟨lb, hlb⟩ : ∃ lb, lb = w1.heap.size := ⟨_, rfl⟩
  rw [← hlb] at HL1
  have HLB := xh hlb
  clear hrd hq HR0 HX0 HCC HGA hlb
  simp only [litE]
  go_wp2_with (first | (go_at_call 64; refine Hid.out ?_) | fail)
  unfold Hid
  rw [← HLB.out]
  generalize w1.alloc (.cells #[I 1, I 0, I k, I a, I b, .string E0, .string E0, .string E0, .bool false, .slice none 0 0] 26) = w2 at HG1 HR1 HX1 HL1 ⊢
  refine (op_none HO.out HR1.out HG1.out HXX.out 2 (HST.out.o 2)).mono ?_
  rintro e w3 ⟨rfl, hg⟩
  have HR3 := xh (HR1.out.G hg)
  have HX3 := xh (HX1.out.G hg)
  have HL3 := xh (HL1.out.G hg)
  clear hg HR1 HX1 HL1 HG1
  go_wp2_with fail
  go_loopw [6] (fun p W => p = .int .i64 0 ∧ W = w3) (fun _ _ => 0)
  case atStart => exact ⟨rfl, rfl⟩
  case round =>
    obtain ⟨rfl, hw3⟩ := hrel
    subst hw3
    have hcl := HL3.out.c
    have hcr := HX3.out.c
    have hfr := HX3.out.f
    skip
    go_wp2
    refine bodyPost_ret (v := litE k a b E0) (by simp [results, Tryz.results34, go_sem, hcr, litE]) rfl ⟨rfl, HR3.out.ten HX3.out.n HGN.out _ _ _ _ _ _ _ _ _ _, HX3.out.q.ten (Nat.le_refl _) _ _ _ _ _ _ _ _ _ _⟩
set_option maxRecDepth 100000 in
set_option maxHeartbeats 1000000 in
theorem rk1 {w0 : World} (hO : OpV w0) {rb g : Nat} {ts : List Tok} {i j : Nat} {W : World} (h : Rd rb g ts i W) (g0 : G w0 W) (hr : w0.heap.size ≤ rb) {k a b : Int} {x : Tok} (hx : ts[j]? = some x) (hst : StopT x) (HC : ∀ W, Rd rb g ts i W → G w0 W → Calls Tryz.prog 34 #[ptr rb, .int .i64 2] W fun e W' => e = .returned (litE k a b E0) ∧ Rd rb g ts j W' ∧ Qr rb W W') : Calls Tryz.prog 34 #[ptr rb, .int .i64 1] W fun e W' => e = .returned (litE k a b E0) ∧ Rd rb g ts j W' ∧ Qr rb W W' := by
  have HX0 := xh (Rx.new (w := W) h.Q0.1)
  have HGN := xh h.Q0.2
  have HR0 := xh (h.G ((G.refl W).alloc (.cells #[I 0, I 0, I 0, I 0, I 0, .string E0, .string E0, .string E0, .bool false, .slice none 0 0] 26)))
  have HO := xh hO
  have HXX := xh hx
  have HST := xh hst
  have HCC := xh HC
  have HRB := xh hr
  have HGA := xh (g0.trans ((G.refl W).alloc (.cells #[I 0, I 0, I 0, I 0, I 0, .string E0, .string E0, .string E0, .bool false, .slice none 0 0] 26)))
  clear h g0 HC hO hx hst hr
  go_enter Tryz.func34, Tryz.ntmps34
  go_wp2_with (first | (go_at_call 34; refine Hid.out ?_) | fail)
  unfold Hid
  generalize W.alloc (.cells #[I 0, I 0, I 0, I 0, I 0, .string E0, .string E0, .string E0, .bool false, .slice none 0 0] 26) = wa at HX0 HR0 HGA ⊢
  refine (HCC.out _ HR0.out HGA.out).mono ?_
  rintro e w1 ⟨rfl, hrd, hq⟩
  have HG1 := xh ((hq.G HGA.out HRB.out).trans ((G.refl w1).alloc (.cells #[I 1, I 0, I k, I a, I b, .string E0, .string E0, .string E0, .bool false, .slice none 0 0] 26)))
  have HR1 := xh (hrd.G ((G.refl w1).alloc (.cells #[I 1, I 0, I k, I a, I b, .string E0, .string E0, .string E0, .bool false, .slice none 0 0] 26)))
  have HX1 := xh ((HX0.out.Q hq).G ((G.refl w1).alloc (.cells #[I 1, I 0, I k, I a, I b, .string E0, .string E0, .string E0, .bool false, .slice none 0 0] 26)))
  have HL1 : Hid (Lf rb w1.heap.size [I 1, I 0, I k, I a, I b, .string E0, .string E0, .string E0, .bool false, .slice none 0 0] (w1.alloc (.cells #[I 1, I 0, I k, I a, I b, .string E0, .string E0, .string E0, .bool false, .slice none 0 0] 26))) := ⟨fun o => by simp, by simp, by have := blk_lt hrd.c; omega⟩
  obtain ⟨lb, hlb⟩ : ∃ lb, lb = w1.heap.size := ⟨_, rfl⟩
  rw [← hlb] at HL1
  have HLB := xh hlb
  clear hrd hq HR0 HX0 HCC HGA hlb
  simp only [litE]
  go_wp2_with (first | (go_at_call 64; refine Hid.out ?_) | fail)
  unfold Hid
  rw [← HLB.out]
  generalize w1.alloc (.cells #[I 1, I 0, I k, I a, I b, .string E0, .string E0, .string E0, .bool false, .slice none 0 0] 26) = w2 at HG1 HR1 HX1 HL1 ⊢
  refine (op_none HO.out HR1.out HG1.out HXX.out 1 (HST.out.o 1)).mono ?_
  rintro e w3 ⟨rfl, hg⟩
  have HR3 := xh (HR1.out.G hg)
  have HX3 := xh (HX1.out.G hg)
  have HL3 := xh (HL1.out.G hg)
  clear hg HR1 HX1 HL1 HG1
  go_wp2_with fail
  go_loopw [6] (fun p W => p = .int .i64 0 ∧ W = w3) (fun _ _ => 0)
  case atStart => exact ⟨rfl, rfl⟩
  case round =>
    obtain ⟨rfl, hw3⟩ := hrel
    subst hw3
    have hcl := HL3.out.c
    have hcr := HX3.out.c
    have hfr := HX3.out.f
    skip
    go_wp2
    refine bodyPost_ret (v := litE k a b E0) (by simp [results, Tryz.results34, go_sem, hcr, litE]) rfl ⟨rfl, HR3.out.ten HX3.out.n HGN.out _ _ _ _ _ _ _ _ _ _, HX3.out.q.ten (Nat.le_refl _) _ _ _ _ _ _ _ _ _ _⟩
set_option maxRecDepth 100000 in
set_option maxHeartbeats 1000000 in
theorem test_any {w0 : World} (hO : OpV w0) {rb g : Nat} {ts : List Tok} {i j : Nat} {W : World} (h : Rd rb g ts i W) (g0 : G w0 W) (hr : w0.heap.size ≤ rb) {k a b : Int} {x : Tok} (hx : ts[j]? = some x) (hst : StopT x) (HC : ∀ W, Rd rb g ts i W → G w0 W → Calls Tryz.prog 34 #[ptr rb, .int .i64 6] W fun e W' => e = .returned (litE k a b E0) ∧ Rd rb g ts j W' ∧ Qr rb W W') : Calls Tryz.prog 62 #[ptr rb] W fun e W' => e = .returned (litE k a b E0) ∧ Rd rb g ts j W' ∧ Qr rb W W' := by
  have HX0 := xh (Rx.new (w := W) h.Q0.1)
  have HGN := xh h.Q0.2
  have HR0 := xh (h.G ((G.refl W).alloc (.cells #[I 0, I 0, I 0, I 0, I 0, .string E0, .string E0, .string E0, .bool false, .slice none 0 0] 26)))
  have HO := xh hO
  have HXX := xh hx
  have HST := xh hst
  have HCC := xh HC
  have HRB := xh hr
  have HGA := xh (g0.trans ((G.refl W).alloc (.cells #[I 0, I 0, I 0, I 0, I 0, .string E0, .string E0, .string E0, .bool false, .slice none 0 0] 26)))
  clear h g0 HC hO hx hst hr
  go_enter Tryz.func62, Tryz.ntmps62
  go_wp2_with (first | (go_at_call 34; refine Hid.out ?_) | fail)
  unfold Hid
  generalize W.alloc (.cells #[I 0, I 0, I 0, I 0, I 0, .string E0, .string E0, .string E0, .bool false, .slice none 0 0] 26) = wa at HX0 HR0 HGA ⊢
  refine (HCC.out _ HR0.out HGA.out).mono ?_
  rintro e w1 ⟨rfl, hrd, hq⟩
  have HG1 := xh ((hq.G HGA.out HRB.out).trans ((G.refl w1).alloc (.cells #[I 1, I 0, I k, I a, I b, .string E0, .string E0, .string E0, .bool false, .slice none 0 0] 26)))
  have HR1 := xh (hrd.G ((G.refl w1).alloc (.cells #[I 1, I 0, I k, I a, I b, .string E0, .string E0, .string E0, .bool false, .slice none 0 0] 26)))
  have HX1 := xh ((HX0.out.Q hq).G ((G.refl w1).alloc (.cells #[I 1, I 0, I k, I a, I b, .string E0, .string E0, .string E0, .bool false, .slice none 0 0] 26)))
  have HL1 : Hid (Lf rb w1.heap.size [I 1, I 0, I k, I a, I b, .string E0, .string E0, .string E0, .bool false, .slice none 0 0] (w1.alloc (.cells #[I 1, I 0, I k, I a, I b, .string E0, .string E0, .string E0, .bool false, .slice none 0 0] 26))) := ⟨fun o => by simp, by simp, by have := blk_lt hrd.c; omega⟩
  obtain ⟨lb, hlb⟩ : ∃ lb, lb = w1.heap.size := ⟨_, rfl⟩
  rw [← hlb] at HL1
  have HLB := xh hlb
  clear hrd hq HR0 HX0 HCC HGA hlb
  simp only [litE]
  go_wp2_with (first | (go_at_call 64; refine Hid.out ?_) | fail)
  unfold Hid
  rw [← HLB.out]
  generalize w1.alloc (.cells #[I 1, I 0, I k, I a, I b, .string E0, .string E0, .string E0, .bool false, .slice none 0 0] 26) = w2 at HG1 HR1 HX1 HL1 ⊢
  refine (op_none HO.out HR1.out HG1.out HXX.out 5 (HST.out.o 5)).mono ?_
  rintro e w3 ⟨rfl, hg⟩
  have HR3 := xh (HR1.out.G hg)
  have HX3 := xh (HX1.out.G hg)
  have HL3 := xh (HL1.out.G hg)
  clear hg HR1 HX1 HL1 HG1
  go_wp2_with (first | (go_at_call 44; refine Hid.out ?_) | fail)
  unfold Hid
  refine (took_no HR3.out HXX.out ⟨#[105, 115]⟩ HST.out.s).mono ?_
  rintro e w4 ⟨rfl, hg⟩
  have HR4 := xh (HR3.out.G hg)
  have HX4 := xh (HX3.out.G hg)
  have HL4 := xh (HL3.out.G hg)
  clear hg HR3 HX3 HL3
  go_wp2_with (first | (go_at_call 44; refine Hid.out ?_) | fail)
  unfold Hid
  refine (took_no HR4.out HXX.out ⟨#[105, 110]⟩ HST.out.n).mono ?_
  rintro e w5 ⟨rfl, hg⟩
  have HR5 := xh (HR4.out.G hg)
  have HX5 := xh (HX4.out.G hg)
  have HL5 := xh (HL4.out.G hg)
  clear hg HR4 HX4 HL4
  have hcl := HL5.out.c
  have hcr := HX5.out.c
  have hfr := HX5.out.f
  skip
  go_wp2
  refine bodyPost_ret (v := litE k a b E0) (by simp [results, Tryz.results62, go_sem, hcr, litE]) rfl ⟨rfl, HR5.out.ten HX5.out.n HGN.out _ _ _ _ _ _ _ _ _ _, HX5.out.q.ten (Nat.le_refl _) _ _ _ _ _ _ _ _ _ _⟩
end
open Go.RowKit

theorem op_head {ts : List Tok} {i : Nat} {k a b : Int} {m : Nat} (ho : OpT ts i k a b m) : ∃ y, ts[i]? = some y ∧ seB y ⟨#[110, 111, 116]⟩ = false := by
  have hneg : ∀ y : Tok, seB y ⟨#[45]⟩ = true → seB y ⟨#[110, 111, 116]⟩ = false := fun y hd => by
    unfold seB at hd ⊢
    rw [Bool.and_eq_true] at hd
    rw [eq_of_beq hd.2]
    simp
  cases ho with
  | num hx hn _ => exact ⟨_, hx, seB_num (.inl hn.k) _⟩
  | neg hy hd _ _ => exact ⟨_, hy, hneg _ hd⟩
  | img hx hm => exact ⟨_, hx, seB_num (.inr (.inl hm.k)) _⟩
  | ngi hy hd _ _ => exact ⟨_, hy, hneg _ hd⟩
theorem expr_num {w0 : World} (hO : OpV w0) {rb g : Nat} (hr : w0.heap.size ≤ rb) {ts : List Tok} {i : Nat} {k a b : Int} {m : Nat} (ho : OpT ts i k a b m) {x : Tok} (hx : ts[i + m]? = some x) (hst : StopT x) : ∀ W, Rd rb g ts i W → G w0 W → Calls Tryz.prog 17 #[ptr rb] W fun e W' => e = .returned (litE k a b E0) ∧ Rd rb g ts (i + m) W' ∧ Qr rb W W' := by
  obtain ⟨y, hy, hn⟩ := op_head ho
  have hl : i + m < ts.length := (List.getElem?_eq_some_iff.1 hx).1
  exact fun W h g0 => ex1 h g0 fun W h g0 => rk1 hO h g0 hr hx hst fun W h g0 => rk2 hO h g0 hr hx hst fun W h g0 => rk3 hO h g0 hr hx hst fun W h g0 => rk4 h g0 fun W h g0 => not_any h g0 hy hn fun W h g0 => rk5 h g0 fun W h g0 => test_any hO h g0 hr hx hst fun W h g0 => rk6 hO h g0 hr hx hst fun W h g0 => rk7 hO h g0 hr hx hst fun W h g0 => rk8 h g0 fun W h _ => minus_any h ho hl
set_option maxRecDepth 100000 in
set_option maxHeartbeats 1000000 in
theorem deep_lit (k a b : Int) (W : World) : Calls Tryz.prog 18 #[litE k a b E0, .int .i64 24] W fun e W' => e = .returned (.bool false) ∧ G W W' := by
  have HG := xh ((G.refl W).alloc (.cells #[I 1, I 0, I k, I a, I b, .string E0, .string E0, .string E0, .bool false, .slice none 0 0] 26))
  simp only [litE]
  go_enter Tryz.func18, Tryz.ntmps18
  go_wp2_with fail
  generalize W.alloc (.cells #[I 1, I 0, I k, I a, I b, .string E0, .string E0, .string E0, .bool false, .slice none 0 0] 26) = wa at HG ⊢
  go_loopw [12] (fun p W => p = .int .i64 0 ∧ W = wa) (fun _ _ => 0)
  case atStart => exact ⟨rfl, rfl⟩
  case round =>
    obtain ⟨rfl, hw⟩ := hrel
    subst hw
    go_wp2
    go_ret
    exact ⟨rfl, HG.out⟩
set_option maxRecDepth 100000 in
set_option maxHeartbeats 1000000 in
theorem whole_num {w0 : World} (hO : OpV w0) {rb g : Nat} (hr : w0.heap.size ≤ rb) {ts : List Tok} {i : Nat} {k a b : Int} {m : Nat} (ho : OpT ts i k a b m) {x : Tok} (hx : ts[i + m]? = some x) (hst : StopT x) {W : World} (h : Rd rb g ts i W) (g0 : G w0 W) : Calls Tryz.prog 9 #[ptr rb] W fun e W' => e = .returned (litE k a b E0) ∧ Rd rb g ts (i + m) W' ∧ Qr rb W W' := by
  have HX0 := xh (Rx.new (w := W) h.Q0.1)
  have HGN := xh h.Q0.2
  have HR0 := xh (h.G ((G.refl W).alloc (.cells #[I 0, I 0, I 0, I 0, I 0, .string E0, .string E0, .string E0, .bool false, .slice none 0 0] 26)))
  have HEX := xh (expr_num hO (g := g) hr ho hx hst)
  obtain ⟨y, hy, -⟩ := op_head ho
  have HYY := xh hy
  have HGA := xh (g0.trans ((G.refl W).alloc (.cells #[I 0, I 0, I 0, I 0, I 0, .string E0, .string E0, .string E0, .bool false, .slice none 0 0] 26)))
  clear h g0 hO hr ho hx hst hy
  go_enter Tryz.func9, Tryz.ntmps9
  go_wp2_with (first | (go_at_call 16; refine Hid.out ?_) | fail)
  unfold Hid
  generalize W.alloc (.cells #[I 0, I 0, I 0, I 0, I 0, .string E0, .string E0, .string E0, .bool false, .slice none 0 0] 26) = wa at HX0 HR0 HGA ⊢
  refine (next_any HR0.out HYY.out).mono ?_
  rintro e w1 ⟨rfl, hg⟩
  have HR1 := xh (HR0.out.G (hg.trans ((G.refl w1).alloc (.cells #[I y.k, .string y.t, I y.p] 60))))
  have HX1 := xh (HX0.out.G (hg.trans ((G.refl w1).alloc (.cells #[I y.k, .string y.t, I y.p] 60))))
  have HG1 := xh (HGA.out.trans (hg.trans ((G.refl w1).alloc (.cells #[I y.k, .string y.t, I y.p] 60))))
  clear hg HR0 HX0 HGA
  simp only [tkA]
  go_wp2_with (first | (go_at_call 17; refine Hid.out ?_) | fail)
  unfold Hid
  generalize w1.alloc (.cells #[I y.k, .string y.t, I y.p] 60) = w2 at HR1 HX1 HG1 ⊢
  refine (HEX.out _ HR1.out HG1.out).mono ?_
  rintro e w3 ⟨rfl, hrd, hq⟩
  have HR3 := xh (hrd.G ((G.refl w3).alloc (.cells #[I 1, I 0, I k, I a, I b, .string E0, .string E0, .string E0, .bool false, .slice none 0 0] 26)))
  have HX3 := xh ((HX1.out.Q hq).G ((G.refl w3).alloc (.cells #[I 1, I 0, I k, I a, I b, .string E0, .string E0, .string E0, .bool false, .slice none 0 0] 26)))
  have HL3 : Hid (Lf rb w3.heap.size [I 1, I 0, I k, I a, I b, .string E0, .string E0, .string E0, .bool false, .slice none 0 0] (w3.alloc (.cells #[I 1, I 0, I k, I a, I b, .string E0, .string E0, .string E0, .bool false, .slice none 0 0] 26))) := ⟨fun o => by simp, by simp, by have := blk_lt hrd.c; omega⟩
  clear hrd hq HR1 HX1 HG1 HEX
  simp only [litE]
  go_wp2_with (first | (go_at_call 18; refine Hid.out ?_) | fail)
  unfold Hid
  obtain ⟨lb, hlb⟩ : ∃ lb, lb = w3.heap.size := ⟨_, rfl⟩
  rw [← hlb] at HL3 ⊢
  generalize w3.alloc (.cells #[I 1, I 0, I k, I a, I b, .string E0, .string E0, .string E0, .bool false, .slice none 0 0] 26) = w4 at HR3 HX3 HL3 ⊢
  refine (deep_lit k a b _).mono ?_
  rintro e w5 ⟨rfl, hg⟩
  have HR5 := xh (HR3.out.G hg)
  have HX5 := xh (HX3.out.G hg)
  have hcl := (HL3.out.G hg).c
  clear hg HR3 HX3 HL3 hlb
  have hcr := HX5.out.c
  have hfr := HX5.out.f
  skip
  go_wp2
  refine bodyPost_ret (v := litE k a b E0) (by simp [results, Tryz.results9, go_sem, hcr, litE]) rfl ⟨rfl, HR5.out.ten HX5.out.n HGN.out _ _ _ _ _ _ _ _ _ _, HX5.out.q.ten (Nat.le_refl _) _ _ _ _ _ _ _ _ _ _⟩
set_option maxRecDepth 100000 in
set_option maxHeartbeats 1000000 in
theorem ended_num {rb g : Nat} {ts : List Tok} {i j : Nat} {k a b : Int} {x : Tok} (hx : ts[j]? = some x) (hk : x.k = 7) {W : World} (h : Rd rb g ts i W) {w0 : World} (g0 : G w0 W) (HC : ∀ W, Rd rb g ts i W → G w0 W → Calls Tryz.prog 9 #[ptr rb] W fun e W' => e = .returned (litE k a b E0) ∧ Rd rb g ts j W' ∧ Qr rb W W') : Calls Tryz.prog 15 #[ptr rb, .func (.func 9) #[] #[]] W fun e W' => e = .returned (litE k a b E0) ∧ Rd rb g ts j W' ∧ Qr rb W W' := by
  have HX0 := xh (Rx.new (w := W) h.Q0.1)
  have HGN := xh h.Q0.2
  have HR0 := xh (h.G ((G.refl W).alloc (.cells #[I 0, I 0, I 0, I 0, I 0, .string E0, .string E0, .string E0, .bool false, .slice none 0 0] 26)))
  have HCC := xh HC
  have HXX := xh hx
  have HK := xh hk
  have HGA := xh (g0.trans ((G.refl W).alloc (.cells #[I 0, I 0, I 0, I 0, I 0, .string E0, .string E0, .string E0, .bool false, .slice none 0 0] 26)))
  clear h g0 HC hx hk
  go_enter Tryz.func15, Tryz.ntmps15
  go_wp2_with (first | (go_at_call 9; refine Hid.out ?_) | fail)
  unfold Hid
  generalize W.alloc (.cells #[I 0, I 0, I 0, I 0, I 0, .string E0, .string E0, .string E0, .bool false, .slice none 0 0] 26) = wa at HX0 HR0 HGA ⊢
  refine (HCC.out _ HR0.out HGA.out).mono ?_
  rintro e w3 ⟨rfl, hrd, hq⟩
  have HR3 := xh (hrd.G ((G.refl w3).alloc (.cells #[I 1, I 0, I k, I a, I b, .string E0, .string E0, .string E0, .bool false, .slice none 0 0] 26)))
  have HX3 := xh ((HX0.out.Q hq).G ((G.refl w3).alloc (.cells #[I 1, I 0, I k, I a, I b, .string E0, .string E0, .string E0, .bool false, .slice none 0 0] 26)))
  have HL3 : Hid (Lf rb w3.heap.size [I 1, I 0, I k, I a, I b, .string E0, .string E0, .string E0, .bool false, .slice none 0 0] (w3.alloc (.cells #[I 1, I 0, I k, I a, I b, .string E0, .string E0, .string E0, .bool false, .slice none 0 0] 26))) := ⟨fun o => by simp, by simp, by have := blk_lt hrd.c; omega⟩
  clear hrd hq HR0 HX0 HGA HCC
  simp only [litE]
  go_wp2_with (first | (go_at_call 33; refine Hid.out ?_) | fail)
  unfold Hid
  obtain ⟨lb, hlb⟩ : ∃ lb, lb = w3.heap.size := ⟨_, rfl⟩
  rw [← hlb] at HL3 ⊢
  generalize w3.alloc (.cells #[I 1, I 0, I k, I a, I b, .string E0, .string E0, .string E0, .bool false, .slice none 0 0] 26) = w4 at HR3 HX3 HL3 ⊢
  refine (atEnd_any HR3.out HXX.out).mono ?_
  rintro e w5 ⟨rfl, hg⟩
  have HR5 := xh (HR3.out.G hg)
  have HX5 := xh (HX3.out.G hg)
  have hcl := (HL3.out.G hg).c
  clear hg HR3 HX3 HL3 hlb
  rw [HK.out]
  go_wp2_with (first | (go_at_call 32; refine Hid.out ?_) | fail)
  unfold Hid
  refine (must_yes _).mono ?_
  rintro e ww ⟨rfl, rfl⟩
  have hcr := HX5.out.c
  have hfr := HX5.out.f
  skip
  go_wp2
  refine bodyPost_ret (v := litE k a b E0) (by simp [results, Tryz.results15, go_sem, hcr, litE]) rfl ⟨rfl, HR5.out.ten HX5.out.n HGN.out _ _ _ _ _ _ _ _ _ _, HX5.out.q.ten (Nat.le_refl _) _ _ _ _ _ _ _ _ _ _⟩
set_option maxRecDepth 100000 in
set_option maxHeartbeats 1000000 in
theorem clE_idle (p q : Addr) (w : World) : CallsD Tryz.prog 14 #[.pointer (some p), .pointer (some q)] .returning w fun e u' w' => e = .returned (.tuple #[]) ∧ u' = .returning ∧ w' = w := by
  refine callsD_of_wpS Tryz.func14 rfl fun c₀ cs hu => ?_
  apply wpS_seq
  apply wpS_region
  simp [wpOpsS, go_sem, recoverD, hu, Tryz.ntmps14, Exit.thenS]
  refine wpS_of_wp ?_
  go_wp2
  cases c₀
  simp_all [bodyPostS, results, Tryz.results14]
set_option maxRecDepth 100000 in
set_option maxHeartbeats 1000000 in
theorem clE_panic (bp bq : Nat) (c z c1 z1 : Int) (older : List PanicEntry) (w : World) (hp : w.cell? ⟨bp, 0, none⟩ = some (I c1)) (hpf : w.frozen? ⟨bp, 0, none⟩ = false) (hq : w.cell? ⟨bq, 0, none⟩ = some (I z1)) (hqf : w.frozen? ⟨bq, 0, none⟩ = false) (hne : bp ≠ bq) : CallsD Tryz.prog 14 #[ptr bp, ptr bq] (.panicking ({ v := .iface 55 (.agg #[I c, I z]), recovered := false } :: older)) w fun e u' w' => e = .returned (.tuple #[]) ∧ u' = .panicking ({ v := .iface 55 (.agg #[I c, I z]), recovered := true } :: older) ∧ w' = (((w.setCell ⟨bp, 0, none⟩ (I c)).setCell ⟨bq, 0, none⟩ (I z)).alloc (.cells #[I c, I z] 55)).drew := by
  have gA : G w (w.alloc (.cells #[I c, I z] 55)) := (G.refl w).alloc _
  have hp2 := (gA.cell (cell_lt hp)).trans hp
  have hq2 := (gA.cell (cell_lt hq)).trans hq
  have hpf2 : (w.alloc (.cells #[I c, I z] 55)).frozen? ⟨bp, 0, none⟩ = false := (World.frozen?_of_block (gA.block bp (cell_lt hp))).trans hpf
  have hqf2 : (w.alloc (.cells #[I c, I z] 55)).frozen? ⟨bq, 0, none⟩ = false := (World.frozen?_of_block (gA.block bq (cell_lt hq))).trans hqf
  have l1 := cell_lt hp
  have l2 := cell_lt hq
  have n1 : ¬ bp = w.heap.size := by omega
  have n2 : ¬ bq = w.heap.size := by omega
  have n3 : ¬ w.heap.size = bp := by omega
  have n4 : ¬ w.heap.size = bq := by omega
  have hne2 : ¬ bq = bp := fun e => hne e.symm
  have hta : ∀ w : World, (Instr.typeAssert (.iface 55 (.agg #[I c, I z])) 20 55 false).run Tryz.prog w = .ok (.agg #[I c, I z]) w := fun _ => by kernel_rfl
  refine callsD_of_wpS Tryz.func14 rfl fun c₀ cs hu => ?_
  apply wpS_seq
  apply wpS_region
  simp [wpOpsS, go_sem, recoverD, hu, Tryz.ntmps14, Exit.thenS]
  refine wpS_of_wp ?_
  go_wp2_with fail
  go_region
  all_goals
    go_wp2
    cases c₀
    refine ⟨rfl, _, rfl, .tuple #[], ?_, rfl, rfl, ?_⟩
    · simp [results, Tryz.results14]
    · rfl
end
open Go.RowKit

/-- The three results, while a text is read. -/
structure Cz (n : Nat) (vs : List Value) (x y : Int) (W : World) : Prop where
  c0 : ∀ o, W.cell? ⟨n, o, none⟩ = vs[o]?
  f0 : ∀ o, W.frozen? ⟨n, o, none⟩ = false
  c1 : W.cell? ⟨n + 1, 0, none⟩ = some (I x)
  f1 : W.frozen? ⟨n + 1, 0, none⟩ = false
  c2 : W.cell? ⟨n + 2, 0, none⟩ = some (I y)
  f2 : W.frozen? ⟨n + 2, 0, none⟩ = false
  z : n + 2 < W.heap.size
theorem Cz.keep {n : Nat} {vs : List Value} {x y : Int} {W W' : World} (h : Cz n vs x y W) (hs : W.heap.size ≤ W'.heap.size) (hb : ∀ k, n ≤ k → k ≤ n + 2 → W'.heap[k]? = W.heap[k]?) : Cz n vs x y W' :=
  ⟨fun o => (World.cell?_of_block (hb n (by omega) (by omega))).trans (h.c0 o), fun o => (World.frozen?_of_block (hb n (by omega) (by omega))).trans (h.f0 o), (World.cell?_of_block (hb (n + 1) (by omega) (by omega))).trans h.c1, (World.frozen?_of_block (hb (n + 1) (by omega) (by omega))).trans h.f1, (World.cell?_of_block (hb (n + 2) (by omega) (by omega))).trans h.c2, (World.frozen?_of_block (hb (n + 2) (by omega) (by omega))).trans h.f2, Nat.lt_of_lt_of_le h.z hs⟩
theorem Cz.G {n : Nat} {vs : List Value} {x y : Int} {W W' : World} (h : Cz n vs x y W) (g : G W W') : Cz n vs x y W' := h.keep g.size (fun k _ h2 => g.block k (by have := h.z; omega))
theorem Cz.Q {n rb : Nat} {vs : List Value} {x y : Int} {W W' : World} (h : Cz n vs x y W) (q : Qr rb W W') (hr : n + 2 < rb) : Cz n vs x y W' := h.keep q.size (fun k _ h2 => q.block k (by have := h.z; omega) (by omega))
theorem Cz.new (w : World) (t0 t1 t2 : Nat) (vs : List Value) (x y : Int) : Cz w.heap.size vs x y (((w.alloc (.cells vs.toArray t0)).alloc (.cells #[I x] t1)).alloc (.cells #[I y] t2)) := by
  have e1 := World.size_alloc w (.cells vs.toArray t0)
  have e2 := World.size_alloc (w.alloc (.cells vs.toArray t0)) (.cells #[I x] t1)
  have g1 : Go.Proofs.YtonhocmjecgfbaaGreatDoor.G (w.alloc (.cells vs.toArray t0)) (((w.alloc (.cells vs.toArray t0)).alloc (.cells #[I x] t1)).alloc (.cells #[I y] t2)) := ((G.refl _).alloc _).alloc _
  have g2 : Go.Proofs.YtonhocmjecgfbaaGreatDoor.G ((w.alloc (.cells vs.toArray t0)).alloc (.cells #[I x] t1)) (((w.alloc (.cells vs.toArray t0)).alloc (.cells #[I x] t1)).alloc (.cells #[I y] t2)) := (G.refl _).alloc _
  refine ⟨G.cells g1 (fun o => by simp) (by simp), G.frozens g1 (fun o => by simp) (by simp), ?_, ?_, ?_, ?_, by simp⟩
  · rw [← e1]
    exact (G.cells g2 (b := (w.alloc (.cells vs.toArray t0)).heap.size) (f := fun o => [I x][o]?) (fun o => by simp) (by simp) 0)
  · rw [← e1]
    exact (G.frozens g2 (b := (w.alloc (.cells vs.toArray t0)).heap.size) (f := fun _ => false) (fun o => by simp) (by simp) 0)
  · have h3 : ∀ W' : World, (W'.alloc (.cells #[I y] t2)).cell? ⟨W'.heap.size, 0, none⟩ = some (I y) := fun W' => by simp
    have h4 := h3 ((w.alloc (.cells vs.toArray t0)).alloc (.cells #[I x] t1))
    rwa [e2, e1] at h4
  · have h3 : ∀ W' : World, (W'.alloc (.cells #[I y] t2)).frozen? ⟨W'.heap.size, 0, none⟩ = false := fun W' => by simp
    have h4 := h3 ((w.alloc (.cells vs.toArray t0)).alloc (.cells #[I x] t1))
    rwa [e2, e1] at h4
theorem Cz.set1 {n : Nat} {vs : List Value} {x y : Int} {W : World} (h : Cz n vs x y W) (x' : Int) : Cz n vs x' y (W.setCell ⟨n + 1, 0, none⟩ (I x')) :=
  ⟨fun o => (World.cell?_of_block (set_other W (n + 1) 0 n _ (by omega))).trans (h.c0 o), fun o => by rw [World.frozen?_setCell]; exact h.f0 o, World.cell?_setCell_same' W _ _ (by rw [h.c1]; rfl), by rw [World.frozen?_setCell]; exact h.f1, (World.cell?_of_block (set_other W (n + 1) 0 (n + 2) _ (by omega))).trans h.c2, by rw [World.frozen?_setCell]; exact h.f2, by simp [World.setCell]; exact h.z⟩
theorem Cz.set2 {n : Nat} {vs : List Value} {x y : Int} {W : World} (h : Cz n vs x y W) (y' : Int) : Cz n vs x y' (W.setCell ⟨n + 2, 0, none⟩ (I y')) :=
  ⟨fun o => (World.cell?_of_block (set_other W (n + 2) 0 n _ (by omega))).trans (h.c0 o), fun o => by rw [World.frozen?_setCell]; exact h.f0 o, (World.cell?_of_block (set_other W (n + 2) 0 (n + 1) _ (by omega))).trans h.c1, by rw [World.frozen?_setCell]; exact h.f1, World.cell?_setCell_same' W _ _ (by rw [h.c2]; rfl), by rw [World.frozen?_setCell]; exact h.f2, by simp [World.setCell]; exact h.z⟩
theorem G.set1 {a w : World} (g : G a w) (v : Value) (k : Nat) : G a (w.setCell ⟨a.heap.size + k, 0, none⟩ v) := g.setCell (by show a.heap.size ≤ a.heap.size + k; omega) _
theorem G.ten {a w : World} (g : G a w) (v0 v1 v2 v3 v4 v5 v6 v7 v8 v9 : Value) : G a ((((((((((w.setCell ⟨a.heap.size, 0, none⟩ v0).setCell ⟨a.heap.size, 1, none⟩ v1).setCell ⟨a.heap.size, 2, none⟩ v2).setCell ⟨a.heap.size, 3, none⟩ v3).setCell ⟨a.heap.size, 4, none⟩ v4).setCell ⟨a.heap.size, 5, none⟩ v5).setCell ⟨a.heap.size, 6, none⟩ v6).setCell ⟨a.heap.size, 7, none⟩ v7).setCell ⟨a.heap.size, 8, none⟩ v8).setCell ⟨a.heap.size, 9, none⟩ v9) :=
  ((((((((((g.setCell (Nat.le_refl _) _).setCell (Nat.le_refl _) _).setCell (Nat.le_refl _) _).setCell (Nat.le_refl _) _).setCell (Nat.le_refl _) _).setCell (Nat.le_refl _) _).setCell (Nat.le_refl _) _).setCell (Nat.le_refl _) _).setCell (Nat.le_refl _) _).setCell (Nat.le_refl _) _)
/-- Tokens in memory. -/
def TkM (g : Nat) (ts : List Tok) (W : World) : Prop := ∀ j x, ts[j]? = some x → W.cell? ⟨g, j * 3, none⟩ = some (I x.k) ∧ W.cell? ⟨g, j * 3 + 1, none⟩ = some (.string x.t) ∧ W.cell? ⟨g, j * 3 + 2, none⟩ = some (I x.p)
/-- What Lex answers for a text that has these tokens. -/
theorem TkM.keep {g : Nat} {ts : List Tok} {W W' : World} (h : TkM g ts W) (hb : W'.heap[g]? = W.heap[g]?) : TkM g ts W' := fun j x hx => by
  obtain ⟨h1, h2, h3⟩ := h j x hx
  exact ⟨(World.cell?_of_block hb).trans h1, (World.cell?_of_block hb).trans h2, (World.cell?_of_block hb).trans h3⟩
theorem Rd.new {g : Nat} {ts : List Tok} {W : World} (h : TkM g ts W) (hg : g < W.heap.size) (h0 : 0 < ts.length) (h5 : ts.length ≤ 5000) : Rd W.heap.size g ts 0 (W.alloc (.cells #[.slice (some ⟨g, 0, none⟩) ts.length ts.length] 58)) := by
  refine ⟨?_, h.keep (((G.refl W).alloc _).block g hg), by omega, h0, h5⟩
  rw [Nat.zero_mul, Nat.sub_zero]
  exact Array.getElem?_push_size
def LexOk (u : ByteArray) (ts : List Tok) (w0 : World) : Prop := ∀ W, G w0 W → Calls Tryz.prog 13 #[.string u] W fun e W' => ∃ g cap, e = .returned (.tuple #[.slice (some ⟨g, 0, none⟩) ts.length cap, I 0, I 0]) ∧ ts.length ≤ cap ∧ TkM g ts W' ∧ W.heap.size ≤ g ∧ G W W'
def LexBad (u : ByteArray) (c p : Int) (w0 : World) : Prop := ∀ W, G w0 W → Calls Tryz.prog 13 #[.string u] W fun e W' => e = .returned (.tuple #[.slice none 0 0, I c, I p]) ∧ G W W'
set_option maxRecDepth 100000 in
set_option maxHeartbeats 1000000 in
theorem caught_ok {u : ByteArray} {ts : List Tok} {w0 w : World} (g0 : G w0 w) (hlx : LexOk u ts w0) (hl0 : 0 < ts.length) (hl5 : ts.length ≤ 5000) {j : Nat} {k a b : Int} {x : Tok} (hx : ts[j]? = some x) (hk : x.k = 7)
    (HW : ∀ rb g W, w0.heap.size ≤ rb → Rd rb g ts 0 W → G w0 W → Calls Tryz.prog 9 #[ptr rb] W fun e W' => e = .returned (litE k a b E0) ∧ Rd rb g ts j W' ∧ Qr rb W W') :
    Calls Tryz.prog 8 #[.string u, .func (.func 9) #[] #[]] w fun e W' => e = .returned (.tuple #[litE k a b E0, I 0, I 0]) ∧ G w W' := by
  have hmf : ∀ (fn : Fn) (first cap : Array Value) (w : World), (Instr.makeFunc fn first cap).run Tryz.prog w = .ok (.func fn first cap) w := fun _ _ _ _ => rfl
  have HCZ := xh (Cz.new w 26 27 3 [I 0, I 0, I 0, I 0, I 0, .string E0, .string E0, .string E0, .bool false, .slice none 0 0] 0 0)
  have HGW := xh ((((G.refl w).alloc (.cells #[I 0, I 0, I 0, I 0, I 0, .string E0, .string E0, .string E0, .bool false, .slice none 0 0] 26)).alloc (.cells #[I 0] 27)).alloc (.cells #[I 0] 3))
  have HLX := xh hlx
  have HWW := xh HW
  have HXX := xh hx
  have HK := xh hk
  have HG0 := xh g0
  clear hlx HW hx hk g0
  go_enter_defers Tryz.func8, Tryz.ntmps8
  go_wp2_with (first | (go_at_call 13; refine Hid.out ?_) | fail)
  unfold Hid
  generalize (((w.alloc (.cells #[I 0, I 0, I 0, I 0, I 0, .string E0, .string E0, .string E0, .bool false, .slice none 0 0] 26)).alloc (.cells #[I 0] 27)).alloc (.cells #[I 0] 3)) = wa at HCZ HGW ⊢
  refine (HLX.out wa (HG0.out.trans HGW.out)).mono ?_
  rintro e w1 ⟨g, cap, rfl, hcap, htk, hgl, hg⟩
  have HC1 := xh (HCZ.out.G hg)
  have HG1 := xh (HGW.out.trans hg)
  have HTK := xh htk
  have hc1 := HC1.out.c1
  have hf1 := HC1.out.f1
  have hc2 := HC1.out.c2
  have hf2 := HC1.out.f2
  have hlI : (0 : Int) < (ts.length : Int) := by omega
  have hcI : (ts.length : Int) ≤ (cap : Int) := by omega
  have hz0 := HCZ.out.z
  clear hg htk HCZ HGW HLX
  go_wp2_with (first | (go_at_call 15; refine Hid.out ?_) | fail)
  unfold Hid
  have HC2 := xh ((HC1.out.set1 0).set2 0)
  have HG2 := xh ((HG1.out.set1 (I 0) 1).set1 (I 0) 2)
  have hz1 := HC1.out.z
  have HT2 : Hid (TkM g ts ((w1.setCell ⟨w.heap.size + 1, 0, none⟩ (I 0)).setCell ⟨w.heap.size + 2, 0, none⟩ (I 0))) := HTK.out.keep ((set_other _ _ _ _ _ (by omega)).trans (set_other _ _ _ _ _ (by omega)))
  have hsz : ((w1.setCell ⟨w.heap.size + 1, 0, none⟩ (I 0)).setCell ⟨w.heap.size + 2, 0, none⟩ (I 0)).heap.size = w1.heap.size := by simp [World.setCell]
  have hgl2 : g < w1.heap.size := by
    obtain ⟨y, hy⟩ : ∃ y, ts[0]? = some y := ⟨_, List.getElem?_eq_getElem hl0⟩
    exact cell_lt (HTK.out 0 y hy).1
  rw [show w.heap.size + 1 + 1 = w.heap.size + 2 from rfl, ← hsz]
  have HSZ : Hid (w.heap.size + 2 < ((w1.setCell ⟨w.heap.size + 1, 0, none⟩ (I 0)).setCell ⟨w.heap.size + 2, 0, none⟩ (I 0)).heap.size) := by rw [hsz]; exact hz1
  have HGL : Hid (g < ((w1.setCell ⟨w.heap.size + 1, 0, none⟩ (I 0)).setCell ⟨w.heap.size + 2, 0, none⟩ (I 0)).heap.size) := by rw [hsz]; exact hgl2
  clear HC1 HG1 HTK hc1 hf1 hc2 hf2 hsz hz1 hgl2
  generalize (w1.setCell ⟨w.heap.size + 1, 0, none⟩ (I 0)).setCell ⟨w.heap.size + 2, 0, none⟩ (I 0) = w2 at HC2 HG2 HT2 HSZ HGL ⊢
  have HRD := xh (Rd.new HT2.out HGL.out hl0 hl5)
  have HG3 := xh (HG2.out.trans ((G.refl w2).alloc (.cells #[.slice (some ⟨g, 0, none⟩) ts.length ts.length] 58)))
  have HC3 := xh (HC2.out.G ((G.refl w2).alloc (.cells #[.slice (some ⟨g, 0, none⟩) ts.length ts.length] 58)))
  have HWR : Hid (w0.heap.size ≤ w2.heap.size) := Nat.le_trans HG0.out.size HG2.out.size
  obtain ⟨rb, hrb⟩ : ∃ rb, rb = w2.heap.size := ⟨_, rfl⟩
  rw [← hrb] at HRD HSZ HWR ⊢
  generalize w2.alloc (.cells #[.slice (some ⟨g, 0, none⟩) ts.length ts.length] 58) = w3 at HRD HG3 HC3 ⊢
  clear HC2 HG2 HT2 HGL hrb
  refine (ended_num HXX.out HK.out HRD.out (HG0.out.trans HG3.out) (fun W h g0 => HWW.out rb g W HWR.out h g0)).mono ?_
  rintro e w4 ⟨rfl, hrd, hq⟩
  have HC4 := xh (HC3.out.Q hq HSZ.out)
  have HG4 := xh (hq.G HG3.out (by have := HSZ.out; omega))
  clear hrd hq HRD HG3 HC3 HWW
  have hc0 := HC4.out.c0
  have hf0 := HC4.out.f0
  have hc1 := HC4.out.c1
  have hf1 := HC4.out.f1
  have hc2 := HC4.out.c2
  have hf2 := HC4.out.f2
  simp only [litE]
  go_wp2
  refine leaves_cons (f := 14) (args := #[ptr (w.heap.size + 1), ptr (w.heap.size + 2)]) (by simp) (by simp [go_sem]) ?_
  refine (clE_idle _ _ _).mono ?_
  rintro e u' w'' ⟨rfl, rfl, rfl⟩
  simp [Leaves, settle, results, Tryz.results8, go_sem, hc0, hc1, hc2]
  exact ⟨rfl, ((HG4.out.ten _ _ _ _ _ _ _ _ _ _).set1 _ 1).set1 _ 2⟩
set_option maxRecDepth 100000 in
set_option maxHeartbeats 1000000 in
theorem caught_bad {u : ByteArray} {c p : Int} (hc : ¬ c = 0) {w0 w : World} (g0 : G w0 w) (hlx : LexBad u c p w0) (rule : Value) :
    Calls Tryz.prog 8 #[.string u, rule] w fun e W' => e = .returned (.tuple #[.agg #[I 0, I 0, I 0, I 0, I 0, .string E0, .string E0, .string E0, .bool false, .slice none 0 0], I c, I p]) ∧ G w W' := by
  have hcb : (c == 0) = false := beq_false_of_ne hc
  have hcn : (c != 0) = true := by simp [bne, hcb]
  have HCZ := xh (Cz.new w 26 27 3 [I 0, I 0, I 0, I 0, I 0, .string E0, .string E0, .string E0, .bool false, .slice none 0 0] 0 0)
  have HGW := xh ((((G.refl w).alloc (.cells #[I 0, I 0, I 0, I 0, I 0, .string E0, .string E0, .string E0, .bool false, .slice none 0 0] 26)).alloc (.cells #[I 0] 27)).alloc (.cells #[I 0] 3))
  have HLX := xh hlx
  have HG0 := xh g0
  clear hlx g0 hc
  go_enter_defers Tryz.func8, Tryz.ntmps8
  go_wp2_with (first | (go_at_call 13; refine Hid.out ?_) | fail)
  unfold Hid
  generalize (((w.alloc (.cells #[I 0, I 0, I 0, I 0, I 0, .string E0, .string E0, .string E0, .bool false, .slice none 0 0] 26)).alloc (.cells #[I 0] 27)).alloc (.cells #[I 0] 3)) = wa at HCZ HGW ⊢
  refine (HLX.out wa (HG0.out.trans HGW.out)).mono ?_
  rintro e w1 ⟨rfl, hg⟩
  have HC1 := xh (HCZ.out.G hg)
  have HG1 := xh (HGW.out.trans hg)
  have hc1 := HC1.out.c1
  have hf1 := HC1.out.f1
  have hc2 := HC1.out.c2
  have hf2 := HC1.out.f2
  have hc0 := HC1.out.c0
  have hf0 := HC1.out.f0
  have HC2 := xh ((HC1.out.set1 c).set2 p)
  have HG2 := xh ((HG1.out.set1 (I c) 1).set1 (I p) 2)
  clear hg HCZ HGW HLX
  go_wp2_with fail
  rw [show w.heap.size + 1 + 1 = w.heap.size + 2 from rfl]
  clear hc0 hf0 hc1 hf1 hc2 hf2 HC1 HG1
  generalize (w1.setCell ⟨w.heap.size + 1, 0, none⟩ (I c)).setCell ⟨w.heap.size + 2, 0, none⟩ (I p) = w2 at HC2 HG2 ⊢
  have hc1 := HC2.out.c1
  have hf1 := HC2.out.f1
  have hc2 := HC2.out.c2
  have hf2 := HC2.out.f2
  have hc0 := HC2.out.c0
  have hf0 := HC2.out.f0
  go_region
  go_wp2
  simp [bodyPostD, Leaves, results, Tryz.results8, go_sem, hc0, hc1, hc2]
  exact G.drew (((HG2.out.ten _ _ _ _ _ _ _ _ _ _).set1 _ 1).set1 _ 2)
set_option maxRecDepth 100000 in
set_option maxHeartbeats 1000000 in
theorem pe_of {u : ByteArray} {w : World} (q k a b c p : Int) (hc : ∀ W, G w W → Calls Tryz.prog 8 #[.string u, .func (.func 9) #[] #[]] W fun e W' => e = .returned (.tuple #[.agg #[I q, I 0, I k, I a, I b, .string E0, .string E0, .string E0, .bool false, .slice none 0 0], I c, I p]) ∧ G W W') :
    Calls Tryz.prog 5 #[.string u] w fun e W' => e = .returned (.tuple #[.agg #[I q, I 0, I k, I a, I b, .string E0, .string E0, .string E0, .bool false, .slice none 0 0], I c, I p]) ∧ G w W' := by
  have HC := xh hc
  have HGW := xh ((G.refl w).alloc (.cells #[I 0, I 0, I 0, I 0, I 0, .string E0, .string E0, .string E0, .bool false, .slice none 0 0] 26))
  have HC0 : Hid (∀ o, (w.alloc (.cells #[I 0, I 0, I 0, I 0, I 0, .string E0, .string E0, .string E0, .bool false, .slice none 0 0] 26)).cell? ⟨w.heap.size, o, none⟩ = [I 0, I 0, I 0, I 0, I 0, .string E0, .string E0, .string E0, .bool false, .slice none 0 0][o]?) := fun o => by simp
  have HF0 : Hid (∀ o, (w.alloc (.cells #[I 0, I 0, I 0, I 0, I 0, .string E0, .string E0, .string E0, .bool false, .slice none 0 0] 26)).frozen? ⟨w.heap.size, o, none⟩ = false) := fun o => by simp
  have HZ0 : Hid (w.heap.size < (w.alloc (.cells #[I 0, I 0, I 0, I 0, I 0, .string E0, .string E0, .string E0, .bool false, .slice none 0 0] 26)).heap.size) := by unfold Hid; simp
  clear hc
  go_enter Tryz.func5, Tryz.ntmps5
  go_wp2_with (first | (go_at_call 8; refine Hid.out ?_) | fail)
  unfold Hid
  generalize w.alloc (.cells #[I 0, I 0, I 0, I 0, I 0, .string E0, .string E0, .string E0, .bool false, .slice none 0 0] 26) = wa at HGW HC0 HF0 HZ0 ⊢
  refine (HC.out wa HGW.out).mono ?_
  rintro e w1 ⟨rfl, hg⟩
  have hc0 := G.cells hg HC0.out HZ0.out
  have hf0 := G.frozens hg HF0.out HZ0.out
  have HG1 := xh (HGW.out.trans hg)
  clear hg HC0 HF0 HZ0 HGW HC
  go_wp2
  refine bodyPost_ret (v := .tuple #[.agg #[I q, I 0, I k, I a, I b, .string E0, .string E0, .string E0, .bool false, .slice none 0 0], I c, I p]) (by simp [results, Tryz.results5, go_sem, hc0]) rfl ⟨rfl, HG1.out.ten _ _ _ _ _ _ _ _ _ _⟩
end Go.Proofs.YtonhocmjecgfbaaGreatDoor
