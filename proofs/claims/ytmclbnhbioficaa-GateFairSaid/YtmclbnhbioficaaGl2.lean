/- Gate: fits, begun, do. -/
import Derived.Test.YtmclbnhbioficaaGsc
namespace Go.Proofs.Ytmclbnhbioficaa
open Go.RowKit

def Fit (mo un : Int) : Prop := 1 ≤ mo ∧ mo ≤ 16 ∧ 1 ≤ un ∧ un ≤ 64
set_option maxRecDepth 100000 in
set_option maxHeartbeats 1000000 in
theorem fits_yes (mo un : Int) (W : World) (h : Fit mo un) : Calls Try.prog 19 #[I mo, I un] W fun e W' => e = .returned (.bool true) ∧ W' = W := by
  have h1 : mo ≥ 1 := h.1
  have h2 : mo ≤ 16 := h.2.1
  have h3 : un ≥ 1 := h.2.2.1
  have h4 : un ≤ 64 := h.2.2.2
  clear h
  go_enter Try.func19, Try.ntmps19
  go_wp2_with fail
  go_ret
  exact ⟨rfl, rfl⟩
set_option maxRecDepth 100000 in
set_option maxHeartbeats 1000000 in
theorem fits_no (mo un : Int) (W : World) (h : ¬ Fit mo un) : Calls Try.prog 19 #[I mo, I un] W fun e W' => e = .returned (.bool false) ∧ W' = W := by
  by_cases h1 : mo ≥ 1
  · by_cases h2 : mo ≤ 16
    · by_cases h3 : un ≥ 1
      · have h4 : ¬ (un ≤ 64) := fun q => h ⟨h1, h2, h3, q⟩
        clear h
        go_enter Try.func19, Try.ntmps19
        go_wp2_with fail
        go_ret
        exact ⟨rfl, rfl⟩
      · clear h
        go_enter Try.func19, Try.ntmps19
        go_wp2_with fail
        go_ret
        exact ⟨rfl, rfl⟩
    · clear h
      go_enter Try.func19, Try.ntmps19
      go_wp2_with fail
      go_ret
      exact ⟨rfl, rfl⟩
  · clear h
    go_enter Try.func19, Try.ntmps19
    go_wp2_with fail
    go_ret
    exact ⟨rfl, rfl⟩
/-- A gate with one inside. -/
def beg (mo un : Int) : GM := ⟨mo, un, 1, 0, 0, 0, [], [((1073741824, 1), 0)]⟩
theorem beg_sub (mo un : Int) : (new0 mo un).subA 1073741824 = (1, 0) ∧ (new0 mo un).subM 1073741824 = (new0 mo un).sub 1073741824 := by
  constructor
  · simp [GM.subA, new0, GM.ids, GM.qids]
  · simp [GM.subM, new0, GM.ids, GM.qids]
theorem beg_adm {mo un : Int} (h : Fit mo un) : ((new0 mo un).sub 1073741824).admit = ([1073741824], beg mo un) := by
  have hr : ((new0 mo un).sub 1073741824).room = true := by
    have h1 : (0 : Int) < mo := by have := h.1; omega
    have h2 : (0 : Int) < un := by have := h.2.2.1; omega
    simp [GM.room, GM.sub, new0, h1, h2]
  rw [admit_in (x := (1073741824, 1)) (t := []) (by simp [GM.sub, new0]) hr, admit_nil (by simp [GM.ent])]
  simp [GM.ent, GM.sub, new0, beg]
theorem iv_beg {mo un : Int} (h : Fit mo un) : Iv (beg mo un) := by
  have h1 := iv_admit (iv_subM (iv_new h.1 h.2.1 h.2.2.1 h.2.2.2) 1073741824)
  rw [(beg_sub mo un).2, beg_adm h] at h1
  exact h1
set_option maxRecDepth 100000 in
set_option maxHeartbeats 1000000 in
theorem begun_any (mo un : Int) (W : World) (h : Fit mo un) : Calls Try.prog 20 #[I mo, I un] W fun e W' => ∃ (b : Nat) (K : Nat → Prop), e = .returned (ptr b) ∧ PG W' b 0 (beg mo un) K ∧ G W W' ∧ (∀ k, K k → W.heap.size ≤ k) := by
  have KN := hide (new_ok mo un W h.1 h.2.1 h.2.2.1 h.2.2.2)
  have HF := hide h
  clear h
  go_enter Try.func20, Try.ntmps20
  go_wp2_with (first | (go_at_call 9; refine Hid.out ?_) | fail)
  unfold Hid
  refine KN.out.mono ?_
  rintro e w1 ⟨b, K, rfl, hp, hg1, hk1⟩
  have HIV := hide (iv_new HF.out.1 HF.out.2.1 HF.out.2.2.1 HF.out.2.2.2)
  have KU := hide (submit_any b (new0 mo un) K w1 1073741824 hp HIV.out (by simp [new0]))
  rw [(beg_sub mo un).1, (beg_sub mo un).2] at KU
  have HG1 := hide hg1
  have HK1 := hide hk1
  clear hp hg1 hk1 KN
  go_wp2_with (first | (go_at_call 13; refine Hid.out ?_) | fail)
  unfold Hid
  refine KU.out.mono ?_
  rintro e w2 ⟨rfl, K2, hp2, hs2⟩
  have HIV2 := hide (iv_subM HIV.out 1073741824)
  rw [(beg_sub mo un).2] at HIV2
  have KA := hide (admit_any b _ K2 w2 hp2 HIV2.out)
  rw [beg_adm HF.out] at KA
  have HG2 := hide (hs2.toG HG1.out HK1.out)
  clear hp2 hs2 KU HG1 HK1
  go_wp2_with (first | (go_at_call 14; refine Hid.out ?_) | fail)
  unfold Hid
  refine KA.out.mono ?_
  rintro e w3 ⟨v3, rfl, hv3, hf3, K3, hp3, hs3, hn3⟩
  obtain ⟨g, cap, rfl⟩ := hv3.slice (by simp)
  have x1 : w3.cell? ⟨g, 0, none⟩ = some (I 1073741824) := by
    have := hv3.at (i := 0) (x := 1073741824) rfl 0 (by decide)
    simpa using this
  have HP3 := hide hp3
  have HG3 := hide (hs3.toG HG2.out.1 HG2.out.2)
  clear hv3 hf3 hp3 hs3 hn3 KA HG2
  go_wp2_with fail
  go_ret
  exact ⟨b, K3, rfl, HP3.out, HG3.out.1, HG3.out.2⟩
/-- What enters at a step. -/
def GM.doL (m : GM) (k : Int) : List Int := if k = 2 then m.admit.1 else []
def DoP (b : Nat) (m : GM) (K : Nat → Prop) (k id : Int) (y : Bool) (W : World) (e : Ending) (W' : World) : Prop := ∃ v', e = .returned v' ∧ SwI W' v' (m.doL k) ∧ Fresh W v' ∧ ∃ K', PG W' b 0 (m.stepM k id y) K' ∧ Ste K W K' W' ∧ (∀ j, v'.ownBlock = some j → ¬ K' j)
set_option maxRecDepth 100000 in
set_option maxHeartbeats 1000000 in
theorem do_1 (b : Nat) (m : GM) (K : Nat → Prop) (id : Int) (y : Bool) (W : World) (h : PG W b 0 m K) (hv : Iv m) (hs : m.sp < 4611686018427387904) (hck : m.ck < 4611686018427387904) :
    Calls Try.prog 21 #[ptr b, .agg #[I 1, I id, .bool y]] W fun e W' => DoP b m K 1 id y W e W' := by
  have hall := And.intro hv (And.intro hs hck)
  clear hall
  have hA := (G.refl W).alloc (.cells #[I 1, I id, .bool y] 46)
  have h0 := h.G hA
  have HSA : Hid (Ste K W K (W.alloc (.cells #[I 1, I id, .bool y] 46))) := Ste.G hA
  have KP := hide (submit_any b m K (W.alloc (.cells #[I 1, I id, .bool y] 46)) id h0 hv hs)
  clear hA h h0 hv hs hck
  go_enter Try.func21, Try.ntmps21
  go_wp2_with (first | (go_at_call 13; refine Hid.out ?_) | fail)
  unfold Hid
  generalize W.alloc (.cells #[I 1, I id, .bool y] 46) = w0 at HSA KP ⊢
  refine KP.out.mono ?_
  rintro e w1 ⟨rfl, K1, hp1, hs1⟩
  clear KP
  go_wp2_with fail
  go_ret
  exact ⟨_, rfl, Sw.nil _ _ _, fun k e => (by simp [Value.ownBlock] at e), K1, hp1, HSA.out.trans hs1, fun k e => (by simp [Value.ownBlock] at e)⟩
set_option maxRecDepth 100000 in
set_option maxHeartbeats 1000000 in
theorem do_3 (b : Nat) (m : GM) (K : Nat → Prop) (id : Int) (y : Bool) (W : World) (h : PG W b 0 m K) (hv : Iv m) (hs : m.sp < 4611686018427387904) (hck : m.ck < 4611686018427387904) :
    Calls Try.prog 21 #[ptr b, .agg #[I 3, I id, .bool y]] W fun e W' => DoP b m K 3 id y W e W' := by
  have hall := And.intro hv (And.intro hs hck)
  clear hall
  have hA := (G.refl W).alloc (.cells #[I 3, I id, .bool y] 46)
  have h0 := h.G hA
  have HSA : Hid (Ste K W K (W.alloc (.cells #[I 3, I id, .bool y] 46))) := Ste.G hA
  have KP := hide (end_any b m K (W.alloc (.cells #[I 3, I id, .bool y] 46)) id y h0 hv)
  clear hA h h0 hv hs hck
  go_enter Try.func21, Try.ntmps21
  go_wp2_with (first | (go_at_call 15; refine Hid.out ?_) | fail)
  unfold Hid
  generalize W.alloc (.cells #[I 3, I id, .bool y] 46) = w0 at HSA KP ⊢
  refine KP.out.mono ?_
  rintro e w1 ⟨rfl, K1, hp1, hs1⟩
  clear KP
  go_wp2_with fail
  go_ret
  exact ⟨_, rfl, Sw.nil _ _ _, fun k e => (by simp [Value.ownBlock] at e), K1, hp1, HSA.out.trans hs1, fun k e => (by simp [Value.ownBlock] at e)⟩
set_option maxRecDepth 100000 in
set_option maxHeartbeats 1000000 in
theorem do_4 (b : Nat) (m : GM) (K : Nat → Prop) (id : Int) (y : Bool) (W : World) (h : PG W b 0 m K) (hv : Iv m) (hs : m.sp < 4611686018427387904) (hck : m.ck < 4611686018427387904) :
    Calls Try.prog 21 #[ptr b, .agg #[I 4, I id, .bool y]] W fun e W' => DoP b m K 4 id y W e W' := by
  have hall := And.intro hv (And.intro hs hck)
  clear hall
  have hA := (G.refl W).alloc (.cells #[I 4, I id, .bool y] 46)
  have h0 := h.G hA
  have HSA : Hid (Ste K W K (W.alloc (.cells #[I 4, I id, .bool y] 46))) := Ste.G hA
  have KP := hide (swept_any b m K (W.alloc (.cells #[I 4, I id, .bool y] 46)) h0)
  clear hA h h0 hv hs hck
  go_enter Try.func21, Try.ntmps21
  go_wp2_with (first | (go_at_call 17; refine Hid.out ?_) | fail)
  unfold Hid
  generalize W.alloc (.cells #[I 4, I id, .bool y] 46) = w0 at HSA KP ⊢
  refine KP.out.mono ?_
  rintro e w1 ⟨rfl, K1, hp1, hs1⟩
  clear KP
  go_wp2_with fail
  go_ret
  exact ⟨_, rfl, Sw.nil _ _ _, fun k e => (by simp [Value.ownBlock] at e), K1, hp1, HSA.out.trans hs1, fun k e => (by simp [Value.ownBlock] at e)⟩
set_option maxRecDepth 100000 in
set_option maxHeartbeats 1000000 in
theorem do_5 (b : Nat) (m : GM) (K : Nat → Prop) (id : Int) (y : Bool) (W : World) (h : PG W b 0 m K) (hv : Iv m) (hs : m.sp < 4611686018427387904) (hck : m.ck < 4611686018427387904) :
    Calls Try.prog 21 #[ptr b, .agg #[I 5, I id, .bool y]] W fun e W' => DoP b m K 5 id y W e W' := by
  have hall := And.intro hv (And.intro hs hck)
  clear hall
  have hA := (G.refl W).alloc (.cells #[I 5, I id, .bool y] 46)
  have h0 := h.G hA
  have HSA : Hid (Ste K W K (W.alloc (.cells #[I 5, I id, .bool y] 46))) := Ste.G hA
  have KP := hide (next_gate b m K (W.alloc (.cells #[I 5, I id, .bool y] 46)) h0)
  clear hA h h0 hv hs hck
  go_enter Try.func21, Try.ntmps21
  go_wp2_with (first | (go_at_call 18; refine Hid.out ?_) | fail)
  unfold Hid
  generalize W.alloc (.cells #[I 5, I id, .bool y] 46) = w0 at HSA KP ⊢
  refine KP.out.mono ?_
  rintro e w1 ⟨n1, rfl, hn1, K1, hp1, hs1⟩
  clear hn1
  clear KP
  go_wp2_with fail
  go_ret
  exact ⟨_, rfl, Sw.nil _ _ _, fun k e => (by simp [Value.ownBlock] at e), K1, hp1, HSA.out.trans hs1, fun k e => (by simp [Value.ownBlock] at e)⟩
set_option maxRecDepth 100000 in
set_option maxHeartbeats 1000000 in
theorem do_6 (b : Nat) (m : GM) (K : Nat → Prop) (id : Int) (y : Bool) (W : World) (h : PG W b 0 m K) (hv : Iv m) (hs : m.sp < 4611686018427387904) (hck : m.ck < 4611686018427387904) :
    Calls Try.prog 21 #[ptr b, .agg #[I 6, I id, .bool y]] W fun e W' => DoP b m K 6 id y W e W' := by
  have hall := And.intro hv (And.intro hs hck)
  clear hall
  have hA := (G.refl W).alloc (.cells #[I 6, I id, .bool y] 46)
  have h0 := h.G hA
  have HSA : Hid (Ste K W K (W.alloc (.cells #[I 6, I id, .bool y] 46))) := Ste.G hA
  have KP := hide (picked_call b m K (W.alloc (.cells #[I 6, I id, .bool y] 46)) id h0 hv hck)
  clear hA h h0 hv hs hck
  go_enter Try.func21, Try.ntmps21
  go_wp2_with (first | (go_at_call 16; refine Hid.out ?_) | fail)
  unfold Hid
  generalize W.alloc (.cells #[I 6, I id, .bool y] 46) = w0 at HSA KP ⊢
  refine KP.out.mono ?_
  rintro e w1 ⟨rfl, K1, hp1, hs1⟩
  clear KP
  go_wp2_with fail
  go_ret
  exact ⟨_, rfl, Sw.nil _ _ _, fun k e => (by simp [Value.ownBlock] at e), K1, hp1, HSA.out.trans hs1, fun k e => (by simp [Value.ownBlock] at e)⟩
set_option maxRecDepth 100000 in
set_option maxHeartbeats 1000000 in
theorem do_7 (b : Nat) (m : GM) (K : Nat → Prop) (id : Int) (y : Bool) (W : World) (h : PG W b 0 m K) (hv : Iv m) (hs : m.sp < 4611686018427387904) (hck : m.ck < 4611686018427387904) :
    Calls Try.prog 21 #[ptr b, .agg #[I 7, I id, .bool y]] W fun e W' => DoP b m K 7 id y W e W' := by
  have hall := And.intro hv (And.intro hs hck)
  clear hall
  have hA := (G.refl W).alloc (.cells #[I 7, I id, .bool y] 46)
  have h0 := h.G hA
  have HSA : Hid (Ste K W K (W.alloc (.cells #[I 7, I id, .bool y] 46))) := Ste.G hA
  have KP := hide (stat_any b m K (W.alloc (.cells #[I 7, I id, .bool y] 46)) h0 hv)
  clear hA h h0 hv hs hck
  go_enter Try.func21, Try.ntmps21
  go_wp2_with (first | (go_at_call 12; refine Hid.out ?_) | fail)
  unfold Hid
  generalize W.alloc (.cells #[I 7, I id, .bool y] 46) = w0 at HSA KP ⊢
  refine KP.out.mono ?_
  rintro e w1 ⟨v4, v6, rfl, hv4, hv6, hf4, hf6, hap, K1, hp1, hs1, hn1⟩
  clear hv4 hv6 hf4 hf6 hap hn1
  clear KP
  go_wp2_with fail
  go_ret
  exact ⟨_, rfl, Sw.nil _ _ _, fun k e => (by simp [Value.ownBlock] at e), K1, hp1, HSA.out.trans hs1, fun k e => (by simp [Value.ownBlock] at e)⟩
set_option maxRecDepth 100000 in
set_option maxHeartbeats 1000000 in
theorem do_2 (b : Nat) (m : GM) (K : Nat → Prop) (id : Int) (y : Bool) (W : World) (h : PG W b 0 m K) (hv : Iv m) (hs : m.sp < 4611686018427387904) (hck : m.ck < 4611686018427387904) :
    Calls Try.prog 21 #[ptr b, .agg #[I 2, I id, .bool y]] W fun e W' => DoP b m K 2 id y W e W' := by
  have hall := And.intro hv (And.intro hs hck)
  clear hall
  have hA := (G.refl W).alloc (.cells #[I 2, I id, .bool y] 46)
  have h0 := h.G hA
  have HSA : Hid (Ste K W K (W.alloc (.cells #[I 2, I id, .bool y] 46))) := Ste.G hA
  have KP := hide (admit_any b m K (W.alloc (.cells #[I 2, I id, .bool y] 46)) h0 hv)
  clear hA h h0 hv hs hck
  go_enter Try.func21, Try.ntmps21
  go_wp2_with (first | (go_at_call 14; refine Hid.out ?_) | fail)
  unfold Hid
  generalize W.alloc (.cells #[I 2, I id, .bool y] 46) = w0 at HSA KP ⊢
  refine KP.out.mono ?_
  rintro e w1 ⟨v1, rfl, hv1, hf1, K1, hp1, hs1, hn1⟩
  clear KP
  go_wp2_with fail
  go_ret
  exact ⟨v1, rfl, hv1, fun k e => Nat.le_trans HSA.out.chg.size (hf1 k e), K1, hp1, HSA.out.trans hs1, hn1⟩
set_option maxRecDepth 100000 in
set_option maxHeartbeats 1000000 in
theorem do_0 (b : Nat) (m : GM) (K : Nat → Prop) (k id : Int) (y : Bool) (hk : ¬ (k = 1 ∨ k = 2 ∨ k = 3 ∨ k = 4 ∨ k = 5 ∨ k = 6 ∨ k = 7)) (W : World) (h : PG W b 0 m K) :
    Calls Try.prog 21 #[ptr b, .agg #[I k, I id, .bool y]] W fun e W' => DoP b m K k id y W e W' := by
  have hA := (G.refl W).alloc (.cells #[I k, I id, .bool y] 46)
  have H0 := hide (h.G hA)
  have HSA : Hid (Ste K W K (W.alloc (.cells #[I k, I id, .bool y] 46))) := Ste.G hA
  have k1 : (k == 1) = false := beq_eq_false_iff_ne.2 (by omega)
  have k2 : (k == 2) = false := beq_eq_false_iff_ne.2 (by omega)
  have k3 : (k == 3) = false := beq_eq_false_iff_ne.2 (by omega)
  have k4 : (k == 4) = false := beq_eq_false_iff_ne.2 (by omega)
  have k5 : (k == 5) = false := beq_eq_false_iff_ne.2 (by omega)
  have k6 : (k == 6) = false := beq_eq_false_iff_ne.2 (by omega)
  have k7 : (k == 7) = false := beq_eq_false_iff_ne.2 (by omega)
  have HST : Hid (m.stepM k id y = m ∧ m.doL k = []) := by
    constructor
    · unfold GM.stepM
      rw [if_neg (by omega), if_neg (by omega), if_neg (by omega), if_neg (by omega), if_neg (by omega)]
    · unfold GM.doL
      rw [if_neg (by omega)]
  clear hA h hk
  go_enter Try.func21, Try.ntmps21
  go_wp2_with fail
  go_ret
  exact ⟨_, rfl, by rw [HST.out.2]; exact Sw.nil _ _ _, fun k e => (by simp [Value.ownBlock] at e), K, by rw [HST.out.1]; exact H0.out, HSA.out, fun k e => (by simp [Value.ownBlock] at e)⟩
theorem do_any (b : Nat) (m : GM) (K : Nat → Prop) (k id : Int) (y : Bool) (W : World) (h : PG W b 0 m K) (hv : Iv m) (hs : m.sp < 4611686018427387904) (hck : m.ck < 4611686018427387904) :
    Calls Try.prog 21 #[ptr b, .agg #[I k, I id, .bool y]] W fun e W' => DoP b m K k id y W e W' := by
  by_cases hk : k = 1 ∨ k = 2 ∨ k = 3 ∨ k = 4 ∨ k = 5 ∨ k = 6 ∨ k = 7
  · rcases hk with rfl | rfl | rfl | rfl | rfl | rfl | rfl
    · exact do_1 b m K id y W h hv hs hck
    · exact do_2 b m K id y W h hv hs hck
    · exact do_3 b m K id y W h hv hs hck
    · exact do_4 b m K id y W h hv hs hck
    · exact do_5 b m K id y W h hv hs hck
    · exact do_6 b m K id y W h hv hs hck
    · exact do_7 b m K id y W h hv hs hck
  · exact do_0 b m K k id y hk W h
end Go.Proofs.Ytmclbnhbioficaa
