/- gives: Pending. -/
import Derived.Test.YtbjbphhcmmaaoaaOw10
namespace Go.Proofs.Ytbjbphhcmmaaoaa
open Go.RowKit

theorem WL.chg {F : Nat → Prop} {b n : Nat} {W W' : World} {x : Value} {d : Nat → Nat} (h : WL b W x n d) (k : Chg F W W') (hF : ∀ j, wB x n d j → ¬ F j) : WL b W' x n d :=
  ⟨h.o.elim fun xs ho => ⟨xs, own_chg ho.1 k (fun g hg => hF g (.inl hg)), ho.2⟩, fun i hi => (h.k i hi).elim fun ys hy => ⟨ys, hy.1.chg k (hF _ (.inr ⟨i, hi, rfl⟩)), hy.2⟩, h.f, h.h, h.p⟩
theorem WL.lo {b n j : Nat} {W : World} {x : Value} {d : Nat → Nat} (h : WL b W x n d) (hj : wB x n d j) : b ≤ j ∧ j < W.heap.size := by
  rcases hj with hj | ⟨i, hi, rfl⟩
  · exact ⟨h.f j hj, h.o.elim fun xs ho => own_lt ho.1 hj⟩
  · exact ⟨h.h i hi, (h.k i hi).elim fun ys hy => hy.1.lt⟩
/-- Lists of writes join the book, beside the disks. -/
theorem own_addW {z t bb B n m : Nat} {D K R : Nat → Prop} {X Y U V : Nat → Value} (np nq b1 b2 : Nat) (p q : Value) (dp dq : Nat → Nat) (hn2 : n + (np + nq) ≤ 5864062014805) (hm2 : m + 2 ≤ 5864062014805) (hnp : np ≤ 549755813888) (hnq : nq ≤ 549755813888) (w : World) (h : OI w z t bb B n m D K R X Y U V) (hp : WL b1 w p np dp) (hq : WL b2 w q nq dq) (hpk : ∀ j, wB p np dp j → z ≤ j ∧ ¬ D j ∧ ¬ K j ∧ ¬ R j) (hqk : ∀ j, wB q nq dq j → z ≤ j ∧ ¬ D j ∧ ¬ K j ∧ ¬ R j) (hpq : ∀ j, wB p np dp j → ¬ wB q nq dq j) (hzw : z ≤ w.heap.size) :
    Calls Try.prog 39 #[.pointer (some ⟨bb, 0, none⟩), p, q] w fun e w' => e = .returned (.tuple #[]) ∧ ∃ K' R' X' Y' U' V', OI w' z t bb B (n + (np + nq)) (m + 2) D K' R' X' Y' U' V' ∧ Chg (fun j => z ≤ j) w w' := by
  refine (addW_any K R bb n m np nq b1 b2 p q dp dq X Y U V hn2 hm2 hnp hnq w h.bk hp hq (fun j hj => (h.k j hj).2) (fun j hj => (hpk j hj).2.2) (fun j hj => (hqk j hj).2.2) hpq).mono ?_
  rintro e w' ⟨rfl, X', Y', U', V', hb, hc⟩
  have hs := hc.size
  refine ⟨rfl, _, _, X', Y', U', V', ⟨h.td.chg hc (fun j hj e => ?_), hb.cut, fun j hj => ⟨(h.d j hj).1, Nat.lt_of_lt_of_le (h.d j hj).2.1 hs, fun e => ?_, fun e => ?_⟩, fun j hj => ?_⟩, hc.mono (fun j hj => ?_)⟩
  · rcases e with e | e | e
    · exact (h.d j hj).2.2.2 e
    · exact (hpk j e).2.1 hj
    · exact (hqk j e).2.1 hj
  · have := (h.d j hj).2.1
    rcases e.1 with e | e | e | e
    · exact (h.d j hj).2.2.1 e
    · exact (hpk j e).2.1 hj
    · exact (hqk j e).2.1 hj
    · omega
  · have := (h.d j hj).2.1
    rcases e.1 with e | e
    · exact (h.d j hj).2.2.2 e
    · omega
  · rcases hj with ⟨h1 | h1 | h1 | h1, h2⟩ | ⟨h1 | h1, h2⟩
    · exact ⟨(h.k j (.inl h1)).1, h2⟩
    · exact ⟨(hpk j h1).1, h2⟩
    · exact ⟨(hqk j h1).1, h2⟩
    · exact ⟨by omega, h2⟩
    · exact ⟨(h.k j (.inr h1)).1, h2⟩
    · exact ⟨by omega, h2⟩
  · rcases hj with h1 | h1 | h1
    · exact (h.k j (.inr h1)).1
    · exact (hpk j h1).1
    · exact (hqk j h1).1
set_option maxRecDepth 100000 in
set_option maxHeartbeats 8000000 in
theorem gives_pending (who nn : Int) (dv kv : Value) (z t s bb B n m : Nat) (D K R : Nat → Prop) (X Y U V : Nat → Value) (hs : s < 2) (hw : bits BinOp.and IntKind.i64 who 1 = (s : Int)) (hBB : B ≤ 549755813888) (hn2 : n + 2 * B + 3 ≤ 5864062014805) (hm2 : m + 2 ≤ 5864062014805) (w : World) (h : OI w z t bb B n m D K R X Y U V) :
    Calls Try.prog 18 #[.pointer (some ⟨t, 0, none⟩), .agg #[I 9, I who, I nn, dv, kv], .pointer (some ⟨bb, 0, none⟩)] w fun e w' => e = .returned (.bool true) ∧ OA w z t bb B n m w' := by
  obtain ⟨cs, pv, rv, FP, FR, mo, pv', rv', FP', FR', mo', hT, hD⟩ := h.td.at hs
  have hBf : fewO mo 549755813888 := fun m e => by obtain ⟨h1, h2, h3⟩ := hT.x m e; exact ⟨by omega, by omega, by omega⟩
  have HI := hide h
  have HS0 := hide hT.a
  have HZW : Hid (z ≤ w.heap.size) := Nat.le_of_lt (Nat.lt_of_le_of_lt hT.z hT.a.bt.lt)
  have HO1 := hide (Blk.new w [I 9, I who, I nn, dv, kv] 39)
  have HW1 := hide ((G.refl w).alloc (.cells #[I 9, I who, I nn, dv, kv] 39))
  have hsI : (s : Int) < 2 := by omega
  have hsw : IntKind.i64.wrap (s : Int) = s := by rw [IntKind.wrap_i64]; omega
  have HPN := hide (fun W (hW : SlP W FP pv mo) => oP_pending FP mo pv W hBf hW)
  have HRN := hide (fun W (hW : SlR W FR rv mo) => uR_pending FR mo rv W hBf hW)
  have HIM := hide (fun W (hW : SlP W FP pv mo) => oP_image FP mo pv W hW)
  have HRM := hide (fun W (hW : SlR W FR rv mo) => uR_image FR mo rv W hW)
  have HIL := hide (im_len hT.a.sp)
  have HLB : Hid ((pnL mo).length ≤ B) := by
    cases mo with
    | none => exact Nat.zero_le _
    | some m => exact (hT.x m rfl).p
  have H128 : Hid (∀ e ∈ pnL mo, e.2.length = 128) := by
    cases mo with
    | none => intro e he; simp [pnL] at he
    | some m => obtain ⟨p, _, hd⟩ := hT.a.sp; exact fun e he => (hd.ok.p e he).2.1
  have HWT : Hid (∀ x y F1 N1 F2 N2 W, RowW W x (pnL mo) F1 N1 → RowW W y (pnL mo) F2 N2 → Calls Try.prog 33 #[x, y] W fun e w' => e = .returned (.bool true) ∧ G W w') := fun x y F1 N1 F2 N2 W h1 h2 => writes_true x y (pnL mo) F1 F2 N1 N2 (by have := HLB.out; omega) H128.out W h1 h2
  clear h hT hD hBf
  have hp0 : w.cell? ⟨t, s, none⟩ = some pv := by rw [HS0.out.bt.cell, HS0.out.cp]
  have hr0 : w.cell? ⟨t, 2 + s, none⟩ = some rv := by rw [HS0.out.bt.cell, HS0.out.cr]
  have hz0 : t < w.heap.size := HS0.out.bt.lt
  go_enter Try.func18, Try.ntmps18
  go_wp2_with fail
  generalize w.alloc (.cells #[I 9, I who, I nn, dv, kv] 39) = w1 at HO1 HW1 ⊢
  have HS1 := hide (HS0.out.G HW1.out)
  have HH1 := hide (HS1.out.hd HO1.out)
  have HG0 := hide (G.refl w1)
  refine (HPN.out _ (HS1.out.sp.G HG0.out)).mono ?_
  rintro e' v1 ⟨x1, rfl, hb, hx⟩
  have HG1 := hide (HG0.out.trans hb)
  have HM1 := hide hb
  have HX1 := hide hx
  clear hb hx hp0 hr0
  obtain ⟨hp0, hr0, _⟩ := HH1.out.G HG1.out (by simp)
  go_wp2_with fail
  refine (HIM.out _ (HS1.out.sp.G HG1.out)).mono ?_
  rintro e' v2 ⟨x2, rfl, hb, hx, hf⟩
  have HG2 := hide (HG1.out.trans hb)
  have HM2 := hide hb
  have HX2 := hide hx
  have HF2 := hide hf
  clear hf
  clear hb hx hp0 hr0
  obtain ⟨hp0, hr0, _⟩ := HH1.out.G HG2.out (by simp)
  go_wp2_with fail
  refine (HPN.out _ (HS1.out.sp.G HG2.out)).mono ?_
  rintro e' v3 ⟨x3, rfl, hb, hx⟩
  have HG3 := hide (HG2.out.trans hb)
  have HM3 := hide hb
  have HX3 := hide hx
  clear hb hx hp0 hr0
  obtain ⟨hp0, hr0, _⟩ := HH1.out.G HG3.out (by simp)
  go_wp2_with fail
  refine (HRN.out _ (HS1.out.sr.G HG3.out)).mono ?_
  rintro e' v4 ⟨x4, rfl, hb, hx⟩
  have HG4 := hide (HG3.out.trans hb)
  have HM4 := hide hb
  have HX4 := hide hx
  clear hb hx hp0 hr0
  obtain ⟨hp0, hr0, _⟩ := HH1.out.G HG4.out (by simp)
  go_wp2_with fail
  refine (HRM.out _ (HS1.out.sr.G HG4.out)).mono ?_
  rintro e' v5 ⟨x5, rfl, hb, hx⟩
  have HG5 := hide (HG4.out.trans hb)
  have HM5 := hide hb
  have HX5 := hide hx
  clear hb hx hp0 hr0
  go_wp2_with fail
  refine (HWT.out _ _ _ _ _ _ _ (HX1.out.w.G (((HM2.out.trans HM3.out).trans HM4.out).trans HM5.out)) (HX4.out.G HM5.out)).mono ?_
  rintro e' v6 ⟨rfl, hg⟩
  have HM6 := hide hg
  have HG6 := hide (HG5.out.trans hg)
  clear hg
  go_wp2_with fail
  refine (same_true _ _ (imB mo) (Nat.le_trans HIL.out (by decide)) _ (HX2.out.G (((HM3.out.trans HM4.out).trans HM5.out).trans HM6.out)) (HX5.out.G HM6.out)).mono ?_
  rintro e' v7 ⟨rfl, hg⟩
  have HM7 := hide hg
  have HG7 := hide (HG6.out.trans hg)
  clear hg
  go_wp2_with fail
  refine (HWT.out _ _ _ _ _ _ _ (HX3.out.w.G (((HM4.out.trans HM5.out).trans HM6.out).trans HM7.out)) (HX4.out.G ((HM5.out.trans HM6.out).trans HM7.out))).mono ?_
  rintro e' v8 ⟨rfl, hg⟩
  have HM8 := hide hg
  have HG8 := hide (HG7.out.trans hg)
  clear hg
  obtain ⟨d1, hd1⟩ := HX1.out.wl H128.out
  obtain ⟨d3, hd3⟩ := HX3.out.wl H128.out
  have HD1 := hide hd1
  have HD3 := hide hd3
  clear hd1 hd3
  obtain ⟨p2, c2, e2, _⟩ := HX2.out
  subst e2
  go_wp2_with fail
  have HGA := hide ((HW1.out.trans HG8.out).alloc (.cells #[(.slice p2 (imB mo).length c2)] 28))
  have HML := hide ((G.refl v8).alloc (.cells #[(.slice p2 (imB mo).length c2)] 28))
  have HNA := hide (Blk.new v8 [(.slice p2 (imB mo).length c2)] 28)
  generalize v8.alloc (.cells #[(.slice p2 (imB mo).length c2)] 28) = wa at HGA HML HNA ⊢
  have HSL : Hid (w.heap.size ≤ w1.heap.size ∧ w1.heap.size ≤ v1.heap.size ∧ v1.heap.size ≤ v2.heap.size ∧ v2.heap.size ≤ v3.heap.size ∧ v3.heap.size ≤ v8.heap.size ∧ v8.heap.size ≤ wa.heap.size) := ⟨HW1.out.size, HM1.out.size, HM2.out.size, HM3.out.size, (((((HM4.out.trans HM5.out).trans HM6.out).trans HM7.out).trans HM8.out)).size, HML.out.size⟩
  have HZ2 : Hid (∀ j, zB 1 (fun _ => (.slice p2 (imB mo).length c2)) j → v1.heap.size ≤ j ∧ j < v2.heap.size) := fun j hj => by
    obtain ⟨_, _, e⟩ := hj
    exact ⟨HF2.out.f j e, HF2.out.lt e⟩
  refine (own_add 1 v8.heap.size 0 1 (some ⟨v8.heap.size, 0, none⟩) (fun _ => (.slice p2 (imB mo).length c2)) (fun _ => (imB mo).length) (by omega) wa (HI.out.G HGA.out) ⟨fun _ _ => (HF2.out.G (((((((HM3.out.trans HM4.out).trans HM5.out).trans HM6.out).trans HM7.out).trans HM8.out)).trans HML.out)).o, fun i hi j hj => ⟨fun e => ?_, fun s hs hne => by omega⟩, fun _ _ => HF2.out.l⟩ (fun j hj => ?_) ?_ (fun i hi => ?_) (fun _ => ⟨rfl, ⟨_, _, HNA.out.h⟩, fun e => ?_⟩)).mono ?_
  · have h1 := (HI.out.k j (.inl e)).2
    have h2 := HZ2.out j ⟨0, by omega, hj⟩
    have := HSL.out
    omega
  · have h1 := HZ2.out j hj
    have h2 := HZW.out
    have h3 := HSL.out
    exact ⟨by omega, fun e => by have := (HI.out.d j e).2.1; omega⟩
  · have := HZW.out
    have := HSL.out
    omega
  · rw [HNA.out.cell]
    obtain rfl : i = 0 := by omega
    rfl
  · have := (HI.out.k _ (.inr e)).2
    have := HSL.out
    omega
  rintro e wz ⟨rfl, K', R', X', Y', hi7, hc7, hkr⟩
  have HI7 := hide hi7
  have HKR := hide hkr
  have HC7 := hide hc7
  have HCZ : Hid (Chg (fun j => z ≤ j) w wz) := HGA.out.chg.trans (hc7.mono (fun j hj => by
    rcases hj with hj | hj
    · exact (HI.out.k j (.inr hj)).1
    · have := HZ2.out j hj
      have := HZW.out
      have := HSL.out
      omega))
  have HB1 : Hid (∀ j, wB x1 (pnL mo).length d1 j → w1.heap.size ≤ j ∧ j < v1.heap.size) := fun j hj => HD1.out.lo hj
  have HB3 : Hid (∀ j, wB x3 (pnL mo).length d3 j → v2.heap.size ≤ j ∧ j < v3.heap.size) := fun j hj => HD3.out.lo hj
  have HP1 : Hid (WL w1.heap.size wz x1 (pnL mo).length d1) := (HD1.out.G ((((((((HM2.out.trans HM3.out).trans HM4.out).trans HM5.out).trans HM6.out).trans HM7.out).trans HM8.out)).trans HML.out)).chg hc7 (fun j hj e => by
    have h1 := HB1.out j hj
    have h3 := HSL.out
    rcases e with e | e
    · have := (HI.out.k j (.inr e)).2; omega
    · have := HZ2.out j e; omega)
  have HP3 : Hid (WL v2.heap.size wz x3 (pnL mo).length d3) := (HD3.out.G ((((((HM4.out.trans HM5.out).trans HM6.out).trans HM7.out).trans HM8.out)).trans HML.out)).chg hc7 (fun j hj e => by
    have h1 := HB3.out j hj
    have h3 := HSL.out
    rcases e with e | e
    · have := (HI.out.k j (.inr e)).2; omega
    · have := HZ2.out j e; omega)
  have HK1 : Hid (∀ j, w.heap.size ≤ j → j < v3.heap.size → (j < v1.heap.size ∨ v2.heap.size ≤ j) → z ≤ j ∧ ¬ D j ∧ ¬ K' j ∧ ¬ R' j) := fun j h1 h2 h3 => by
    have h4 := HSL.out
    have h5 := HZW.out
    have hk : ¬ (K' j ∨ R' j) := fun e => by
      rcases HKR.out j e with e | e | e | e
      · have := (HI.out.k j (.inl e)).2; omega
      · have := (HI.out.k j (.inr e)).2; omega
      · have := HZ2.out j e; omega
      · omega
    exact ⟨by omega, fun e => by have := (HI.out.d j e).2.1; omega, fun e => hk (.inl e), fun e => hk (.inr e)⟩
  clear hi7 hkr hc7
  go_wp2_with fail
  refine (own_addW (pnL mo).length (pnL mo).length w1.heap.size v2.heap.size x1 x3 d1 d3 (by have := HLB.out; omega) hm2 (by have := HLB.out; omega) (by have := HLB.out; omega) wz HI7.out HP1.out HP3.out (fun j hj => HK1.out j (by have := HB1.out j hj; have := HSL.out; omega) (by have := HB1.out j hj; have := HSL.out; omega) (.inl (HB1.out j hj).2)) (fun j hj => HK1.out j (by have := HB3.out j hj; have := HSL.out; omega) (HB3.out j hj).2 (.inr (HB3.out j hj).1)) (fun j h1 h3 => by have := HB1.out j h1; have := HB3.out j h3; have := HSL.out; omega) (Nat.le_trans HZW.out HCZ.out.size)).mono ?_
  rintro e wy ⟨rfl, K2, R2, X2, Y2, U2, V2, hi8, hc8⟩
  have HI8 := hide hi8
  have HC9 := hide (HCZ.out.trans hc8)
  have hlb := HLB.out
  clear hi8 hc8
  go_wp2
  go_ret
  exact ⟨rfl, n + 1 + ((pnL mo).length + (pnL mo).length), m + 2, D, K2, R2, X2, Y2, U2, V2, HI8.out.up, by omega, by omega, HC9.out⟩
end Go.Proofs.Ytbjbphhcmmaaoaa
