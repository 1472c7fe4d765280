/- Gate: a step on both. -/
import Derived.Test.YtmclbnhbioficacGr4
import Derived.Test.YtmclbnhbioficacGr5
namespace Go.Proofs.Ytmclbnhbioficac
open Go.RowKit

/-- The program's gate and the document's are the same one. -/
structure PR (w : World) (b r : Nat) (m : GM) (K K2 : Nat → Prop) : Prop where
  p : PG w b 0 m K
  q : RG w r m K2
  ap : ∀ k, K k → ¬ K2 k
abbrev Un (K K2 : Nat → Prop) : Nat → Prop := fun k => K k ∨ K2 k
theorem PR.G {w w' : World} {b r : Nat} {m : GM} {K K2 : Nat → Prop} (h : PR w b r m K K2) (g : Go.Proofs.Ytmclbnhbioficac.G w w') : PR w' b r m K K2 := ⟨h.p.G g, h.q.G g, h.ap⟩
/-- What is left where each did its own. -/
theorem PR.both {w w1 w2 : World} {b r : Nat} {m m' : GM} {K K2 K' K2' : Nat → Prop} (h : PR w b r m K K2) (hp : PG w1 b 0 m' K') (hs : Ste K w K' w1) (hq : RG w2 r m' K2') (hs2 : Ste K2 w1 K2' w2) : PR w2 b r m' K' K2' ∧ Ste (Un K K2) w (Un K' K2') w2 := by
  have ap1 : ∀ k, K' k → ¬ K2 k := fun k e q => by
    rcases hs.nw k e with a | a
    · exact h.ap k a q
    · exact Nat.not_le.2 (h.q.lt k q) a
  refine ⟨⟨hp.off hs2.chg ap1, hq, fun k e q => ?_⟩, ⟨?_, fun k e => ?_⟩⟩
  · rcases hs2.nw k q with a | a
    · exact ap1 k e a
    · exact Nat.not_le.2 (hp.lt k e) a
  · exact (hs.chg.mono (fun k e => .inl e)).trans (hs2.chg.mono (fun k e => .inr e))
  · rcases e with e | e
    · exact (hs.nw k e).elim (fun q => .inl (.inl q)) .inr
    · rcases hs2.nw k e with a | a
      · exact .inl (.inr a)
      · exact .inr (Nat.le_trans hs.chg.size a)
theorem adm_len : ∀ (n : Nat) (m : GM), (m.adm n).1.length ≤ n
  | 0, _ => Nat.le_refl _
  | n + 1, m => by
    unfold GM.adm
    cases hq : m.q with
    | nil => exact Nat.zero_le _
    | cons x t =>
      by_cases hr : m.room = true
      · simp only [hr, if_true, List.length_cons]
        exact Nat.succ_le_succ (adm_len n (m.ent x t))
      · simp only [hr]
        exact Nat.zero_le _
theorem admit_len (m : GM) : m.admit.1.length ≤ m.q.length := adm_len _ _
theorem PR.ref {w w1 : World} {b r : Nat} {m m' : GM} {K K2 K' : Nat → Prop} (h : PR w b r m K K2) (_hp : PG w1 b 0 m' K') (hs : Ste K w K' w1) : RG w1 r m K2 := h.q.off hs.chg (fun k e q => h.ap k q e)
set_option maxRecDepth 100000 in
set_option maxHeartbeats 1000000 in
theorem plays_1 (b r : Nat) (m : GM) (K K2 : Nat → Prop) (id : Int) (y : Bool) (W : World) (h : PR W b r m K K2) (hv : Iv m) (hs : m.sp < 4611686018427387904) (hck : m.ck < 4611686018427387904) :
    Calls Try.prog 10 #[ptr b, ptr r, .agg #[I 1, I id, .bool y]] W fun e W' => e = .returned (.bool true) ∧ ∃ K' K2', PR W' b r (m.stepM 1 id y) K' K2' ∧ Ste (Un K K2) W (Un K' K2') W' := by
  have hall := And.intro hv (And.intro hs hck)
  clear hall
  have hA := (G.refl W).alloc (.cells #[I 1, I id, .bool y] 32)
  have hX := Blk.new W [I 1, I id, .bool y] 32
  have hcx : ∀ o, (W.alloc (.cells #[I 1, I id, .bool y] 32)).cell? ⟨W.heap.size, o, none⟩ = ([I 1, I id, .bool y] : List Value)[o]? := hX.cell
  have h0 := h.G hA
  have HNK : Hid (¬ K W.heap.size ∧ ¬ K2 W.heap.size) := ⟨fun q => Nat.lt_irrefl _ (h.p.lt _ q), fun q => Nat.lt_irrefl _ (h.q.lt _ q)⟩
  have HSA : Hid (Ste (Un K K2) W (Un K K2) (W.alloc (.cells #[I 1, I id, .bool y] 32))) := Ste.G hA
  have KP := hide (submit_any b m K (W.alloc (.cells #[I 1, I id, .bool y] 32)) id h0.p hv hs)
  have H0 := hide h0
  have HX := hide hX
  have HV := hide hv
  have HSP := hide hs
  have HCK := hide hck
  clear hA hX h h0 hv hs hck
  go_enter Try.func10, Try.ntmps10
  go_wp2_with (first | (go_at_call 19; refine Hid.out ?_) | fail)
  unfold Hid
  generalize W.alloc (.cells #[I 1, I id, .bool y] 32) = w0 at hcx H0 HX HSA KP ⊢
  refine KP.out.mono ?_
  rintro e w1 ⟨rfl, K', hp1, hs1⟩
  have hx1 := (HX.out.chg hs1.chg HNK.out.1).cell
  have KR := hide (rsubmit_any r m K2 w1 id (H0.out.ref hp1 hs1) HV.out HSP.out)
  have HP1 := hide hp1
  have HS1 := hide hs1
  clear hp1 hs1 KP hcx
  go_wp2_with (first | (go_at_call 20; refine Hid.out ?_) | fail)
  unfold Hid
  refine KR.out.mono ?_
  rintro e w2 ⟨rfl, K2', hq2, hs2⟩
  have HB := hide (H0.out.both HP1.out HS1.out hq2 hs2)
  clear hq2 hs2 KR hx1
  go_wp2_with fail
  go_ret
  exact ⟨by rfl, K', K2', HB.out.1, HSA.out.trans HB.out.2⟩
set_option maxRecDepth 100000 in
set_option maxHeartbeats 1000000 in
theorem plays_3 (b r : Nat) (m : GM) (K K2 : Nat → Prop) (id : Int) (y : Bool) (W : World) (h : PR W b r m K K2) (hv : Iv m) (hs : m.sp < 4611686018427387904) (hck : m.ck < 4611686018427387904) :
    Calls Try.prog 10 #[ptr b, ptr r, .agg #[I 3, I id, .bool y]] W fun e W' => e = .returned (.bool true) ∧ ∃ K' K2', PR W' b r (m.stepM 3 id y) K' K2' ∧ Ste (Un K K2) W (Un K' K2') W' := by
  have hall := And.intro hv (And.intro hs hck)
  clear hall
  have hA := (G.refl W).alloc (.cells #[I 3, I id, .bool y] 32)
  have hX := Blk.new W [I 3, I id, .bool y] 32
  have hcx : ∀ o, (W.alloc (.cells #[I 3, I id, .bool y] 32)).cell? ⟨W.heap.size, o, none⟩ = ([I 3, I id, .bool y] : List Value)[o]? := hX.cell
  have h0 := h.G hA
  have HNK : Hid (¬ K W.heap.size ∧ ¬ K2 W.heap.size) := ⟨fun q => Nat.lt_irrefl _ (h.p.lt _ q), fun q => Nat.lt_irrefl _ (h.q.lt _ q)⟩
  have HSA : Hid (Ste (Un K K2) W (Un K K2) (W.alloc (.cells #[I 3, I id, .bool y] 32))) := Ste.G hA
  have KP := hide (end_any b m K (W.alloc (.cells #[I 3, I id, .bool y] 32)) id y h0.p hv)
  have H0 := hide h0
  have HX := hide hX
  have HV := hide hv
  have HSP := hide hs
  have HCK := hide hck
  clear hA hX h h0 hv hs hck
  go_enter Try.func10, Try.ntmps10
  go_wp2_with (first | (go_at_call 21; refine Hid.out ?_) | fail)
  unfold Hid
  generalize W.alloc (.cells #[I 3, I id, .bool y] 32) = w0 at hcx H0 HX HSA KP ⊢
  refine KP.out.mono ?_
  rintro e w1 ⟨rfl, K', hp1, hs1⟩
  have hx1 := (HX.out.chg hs1.chg HNK.out.1).cell
  have KR := hide (rend_any r m K2 w1 id y (H0.out.ref hp1 hs1) HV.out)
  have HP1 := hide hp1
  have HS1 := hide hs1
  clear hp1 hs1 KP hcx
  go_wp2_with (first | (go_at_call 22; refine Hid.out ?_) | fail)
  unfold Hid
  refine KR.out.mono ?_
  rintro e w2 ⟨rfl, K2', hq2, hs2⟩
  have HB := hide (H0.out.both HP1.out HS1.out hq2 hs2)
  clear hq2 hs2 KR hx1
  go_wp2_with fail
  go_ret
  exact ⟨by rfl, K', K2', HB.out.1, HSA.out.trans HB.out.2⟩
set_option maxRecDepth 100000 in
set_option maxHeartbeats 1000000 in
theorem plays_6 (b r : Nat) (m : GM) (K K2 : Nat → Prop) (id : Int) (y : Bool) (W : World) (h : PR W b r m K K2) (hv : Iv m) (hs : m.sp < 4611686018427387904) (hck : m.ck < 4611686018427387904) :
    Calls Try.prog 10 #[ptr b, ptr r, .agg #[I 6, I id, .bool y]] W fun e W' => e = .returned (.bool true) ∧ ∃ K' K2', PR W' b r (m.stepM 6 id y) K' K2' ∧ Ste (Un K K2) W (Un K' K2') W' := by
  have hall := And.intro hv (And.intro hs hck)
  clear hall
  have hA := (G.refl W).alloc (.cells #[I 6, I id, .bool y] 32)
  have hX := Blk.new W [I 6, I id, .bool y] 32
  have hcx : ∀ o, (W.alloc (.cells #[I 6, I id, .bool y] 32)).cell? ⟨W.heap.size, o, none⟩ = ([I 6, I id, .bool y] : List Value)[o]? := hX.cell
  have h0 := h.G hA
  have HNK : Hid (¬ K W.heap.size ∧ ¬ K2 W.heap.size) := ⟨fun q => Nat.lt_irrefl _ (h.p.lt _ q), fun q => Nat.lt_irrefl _ (h.q.lt _ q)⟩
  have HSA : Hid (Ste (Un K K2) W (Un K K2) (W.alloc (.cells #[I 6, I id, .bool y] 32))) := Ste.G hA
  have KP := hide (picked_call b m K (W.alloc (.cells #[I 6, I id, .bool y] 32)) id h0.p hv hck)
  have H0 := hide h0
  have HX := hide hX
  have HV := hide hv
  have HSP := hide hs
  have HCK := hide hck
  clear hA hX h h0 hv hs hck
  go_enter Try.func10, Try.ntmps10
  go_wp2_with (first | (go_at_call 27; refine Hid.out ?_) | fail)
  unfold Hid
  generalize W.alloc (.cells #[I 6, I id, .bool y] 32) = w0 at hcx H0 HX HSA KP ⊢
  refine KP.out.mono ?_
  rintro e w1 ⟨rfl, K', hp1, hs1⟩
  have hx1 := (HX.out.chg hs1.chg HNK.out.1).cell
  have KR := hide (rpicked_call r m K2 w1 id (H0.out.ref hp1 hs1) HV.out HCK.out)
  have HP1 := hide hp1
  have HS1 := hide hs1
  clear hp1 hs1 KP hcx
  go_wp2_with (first | (go_at_call 28; refine Hid.out ?_) | fail)
  unfold Hid
  refine KR.out.mono ?_
  rintro e w2 ⟨rfl, K2', hq2, hs2⟩
  have HB := hide (H0.out.both HP1.out HS1.out hq2 hs2)
  clear hq2 hs2 KR hx1
  go_wp2_with fail
  go_ret
  exact ⟨by rfl, K', K2', HB.out.1, HSA.out.trans HB.out.2⟩
set_option maxRecDepth 100000 in
set_option maxHeartbeats 1000000 in
theorem plays_4 (b r : Nat) (m : GM) (K K2 : Nat → Prop) (id : Int) (y : Bool) (W : World) (h : PR W b r m K K2) (hv : Iv m) (hs : m.sp < 4611686018427387904) (hck : m.ck < 4611686018427387904) :
    Calls Try.prog 10 #[ptr b, ptr r, .agg #[I 4, I id, .bool y]] W fun e W' => e = .returned (.bool true) ∧ ∃ K' K2', PR W' b r (m.stepM 4 id y) K' K2' ∧ Ste (Un K K2) W (Un K' K2') W' := by
  have hall := And.intro hv (And.intro hs hck)
  clear hall
  have hA := (G.refl W).alloc (.cells #[I 4, I id, .bool y] 32)
  have hX := Blk.new W [I 4, I id, .bool y] 32
  have hcx : ∀ o, (W.alloc (.cells #[I 4, I id, .bool y] 32)).cell? ⟨W.heap.size, o, none⟩ = ([I 4, I id, .bool y] : List Value)[o]? := hX.cell
  have h0 := h.G hA
  have HNK : Hid (¬ K W.heap.size ∧ ¬ K2 W.heap.size) := ⟨fun q => Nat.lt_irrefl _ (h.p.lt _ q), fun q => Nat.lt_irrefl _ (h.q.lt _ q)⟩
  have HSA : Hid (Ste (Un K K2) W (Un K K2) (W.alloc (.cells #[I 4, I id, .bool y] 32))) := Ste.G hA
  have KP := hide (swept_any b m K (W.alloc (.cells #[I 4, I id, .bool y] 32)) h0.p)
  have H0 := hide h0
  have HX := hide hX
  have HV := hide hv
  have HSP := hide hs
  have HCK := hide hck
  clear hA hX h h0 hv hs hck
  go_enter Try.func10, Try.ntmps10
  go_wp2_with (first | (go_at_call 23; refine Hid.out ?_) | fail)
  unfold Hid
  generalize W.alloc (.cells #[I 4, I id, .bool y] 32) = w0 at hcx H0 HX HSA KP ⊢
  refine KP.out.mono ?_
  rintro e w1 ⟨rfl, K', hp1, hs1⟩
  have hx1 := (HX.out.chg hs1.chg HNK.out.1).cell
  have KR := hide (rswept_any r m K2 w1 (H0.out.ref hp1 hs1))
  have HP1 := hide hp1
  have HS1 := hide hs1
  clear hp1 hs1 KP hcx
  go_wp2_with (first | (go_at_call 24; refine Hid.out ?_) | fail)
  unfold Hid
  refine KR.out.mono ?_
  rintro e w2 ⟨rfl, K2', hq2, hs2⟩
  have HB := hide (H0.out.both HP1.out HS1.out hq2 hs2)
  clear hq2 hs2 KR hx1
  go_wp2_with fail
  go_ret
  exact ⟨by rfl, K', K2', HB.out.1, HSA.out.trans HB.out.2⟩
set_option maxRecDepth 100000 in
set_option maxHeartbeats 1000000 in
theorem plays_2 (b r : Nat) (m : GM) (K K2 : Nat → Prop) (id : Int) (y : Bool) (W : World) (h : PR W b r m K K2) (hv : Iv m) (hs : m.sp < 4611686018427387904) (hck : m.ck < 4611686018427387904) :
    Calls Try.prog 10 #[ptr b, ptr r, .agg #[I 2, I id, .bool y]] W fun e W' => e = .returned (.bool true) ∧ ∃ K' K2', PR W' b r (m.stepM 2 id y) K' K2' ∧ Ste (Un K K2) W (Un K' K2') W' := by
  have hall := And.intro hv (And.intro hs hck)
  clear hall
  have hA := (G.refl W).alloc (.cells #[I 2, I id, .bool y] 32)
  have hX := Blk.new W [I 2, I id, .bool y] 32
  have hcx : ∀ o, (W.alloc (.cells #[I 2, I id, .bool y] 32)).cell? ⟨W.heap.size, o, none⟩ = ([I 2, I id, .bool y] : List Value)[o]? := hX.cell
  have h0 := h.G hA
  have HNK : Hid (¬ K W.heap.size ∧ ¬ K2 W.heap.size) := ⟨fun q => Nat.lt_irrefl _ (h.p.lt _ q), fun q => Nat.lt_irrefl _ (h.q.lt _ q)⟩
  have HSA : Hid (Ste (Un K K2) W (Un K K2) (W.alloc (.cells #[I 2, I id, .bool y] 32))) := Ste.G hA
  have KP := hide (admit_any b m K (W.alloc (.cells #[I 2, I id, .bool y] 32)) h0.p hv)
  have hql : m.admit.1.length ≤ m.q.length := admit_len m
  have hcr := hv.crowd
  have HLN : Hid (m.admit.1.length ≤ 1000) := by show _ ≤ _; omega
  have H0 := hide h0
  have HX := hide hX
  have HV := hide hv
  clear hA hX h h0 hv hs hck hql hcr
  go_enter Try.func10, Try.ntmps10
  go_wp2_with (first | (go_at_call 6; refine Hid.out ?_) | fail)
  unfold Hid
  generalize W.alloc (.cells #[I 2, I id, .bool y] 32) = w0 at hcx H0 HX HSA KP ⊢
  refine KP.out.mono ?_
  rintro e w1 ⟨v1, rfl, hv1, hf1, K', hp1, hs1, hn1⟩
  have KR := hide (radmit_any r m K2 w1 (H0.out.ref hp1 hs1) HV.out)
  have HP1 := hide hp1
  have HS1 := hide hs1
  have HV1 := hide hv1
  have HF1 := hide hf1
  clear hp1 hs1 KP hcx hv1 hf1 hn1
  go_wp2_with (first | (go_at_call 8; refine Hid.out ?_) | fail)
  unfold Hid
  refine KR.out.mono ?_
  rintro e w2 ⟨v2, rfl, hv2, hf2, K2', hq2, hs2, hn2⟩
  have HB := hide (H0.out.both HP1.out HS1.out hq2 hs2)
  have hv12 : SwI w2 v1 m.admit.1 := HV1.out.chg hs2.chg (fun k e q => Nat.not_le.2 (H0.out.q.lt k q) (HF1.out k e))
  have KS := hide (same_any m.admit.1 v1 v2 w2 hv12 hv2 HLN.out)
  clear hq2 hs2 KR hv2 hf2 hn2 hv12
  go_wp2_with (first | (go_at_call 7; refine Hid.out ?_) | fail)
  unfold Hid
  refine KS.out.mono ?_
  rintro e w3 ⟨rfl, hg3⟩
  have HB3 := hide (And.intro (HB.out.1.G hg3) ((HSA.out.trans HB.out.2).trans (Ste.G hg3)))
  clear hg3 KS
  go_wp2_with fail
  go_ret
  exact ⟨rfl, K', K2', HB3.out.1, HB3.out.2⟩
set_option maxRecDepth 100000 in
set_option maxHeartbeats 1000000 in
theorem plays_5 (b r : Nat) (m : GM) (K K2 : Nat → Prop) (id : Int) (y : Bool) (W : World) (h : PR W b r m K K2) (hv : Iv m) (hs : m.sp < 4611686018427387904) (hck : m.ck < 4611686018427387904) :
    Calls Try.prog 10 #[ptr b, ptr r, .agg #[I 5, I id, .bool y]] W fun e W' => e = .returned (.bool true) ∧ ∃ K' K2', PR W' b r (m.stepM 5 id y) K' K2' ∧ Ste (Un K K2) W (Un K' K2') W' := by
  have hall := And.intro hv (And.intro hs hck)
  clear hall
  have hA := (G.refl W).alloc (.cells #[I 5, I id, .bool y] 32)
  have hX := Blk.new W [I 5, I id, .bool y] 32
  have hcx : ∀ o, (W.alloc (.cells #[I 5, I id, .bool y] 32)).cell? ⟨W.heap.size, o, none⟩ = ([I 5, I id, .bool y] : List Value)[o]? := hX.cell
  have h0 := h.G hA
  have HNK : Hid (¬ K W.heap.size ∧ ¬ K2 W.heap.size) := ⟨fun q => Nat.lt_irrefl _ (h.p.lt _ q), fun q => Nat.lt_irrefl _ (h.q.lt _ q)⟩
  have HSA : Hid (Ste (Un K K2) W (Un K K2) (W.alloc (.cells #[I 5, I id, .bool y] 32))) := Ste.G hA
  have KP := hide (next_gate b m K (W.alloc (.cells #[I 5, I id, .bool y] 32)) h0.p)
  have H0 := hide h0
  have HV := hide hv
  have HSP := hide hs
  clear hA hX h h0 hv hs hck
  go_enter Try.func10, Try.ntmps10
  go_wp2_with (first | (go_at_call 25; refine Hid.out ?_) | fail)
  unfold Hid
  generalize W.alloc (.cells #[I 5, I id, .bool y] 32) = w0 at hcx H0 HSA KP ⊢
  refine KP.out.mono ?_
  rintro e w1 ⟨n1, rfl, hn1, K', hp1, hs1⟩
  have KR := hide (rnext_any r m K2 w1 (H0.out.ref hp1 hs1) HV.out HSP.out)
  have HP1 := hide hp1
  have HS1 := hide hs1
  have HN1 := hide hn1
  clear hp1 hs1 KP hcx hn1
  go_wp2_with (first | (go_at_call 26; refine Hid.out ?_) | fail)
  unfold Hid
  refine KR.out.mono ?_
  rintro e w2 ⟨n2, rfl, hn2, hg2⟩
  have hn12 : n1 = n2 := next_one HV.out (by have := HSP.out; omega) HN1.out hn2
  subst hn12
  have HB := hide (H0.out.both HP1.out HS1.out ((H0.out.ref HP1.out HS1.out).G hg2) (Ste.G hg2))
  clear hg2 KR hn2
  go_wp2_with fail
  go_ret
  exact ⟨by simp, K', K2, HB.out.1, HSA.out.trans HB.out.2⟩
set_option maxRecDepth 100000 in
set_option maxHeartbeats 1000000 in
theorem plays_7 (b r : Nat) (m : GM) (K K2 : Nat → Prop) (id : Int) (y : Bool) (W : World) (h : PR W b r m K K2) (hv : Iv m) (hs : m.sp < 4611686018427387904) (hck : m.ck < 4611686018427387904) :
    Calls Try.prog 10 #[ptr b, ptr r, .agg #[I 7, I id, .bool y]] W fun e W' => e = .returned (.bool true) ∧ ∃ K' K2', PR W' b r (m.stepM 7 id y) K' K2' ∧ Ste (Un K K2) W (Un K' K2') W' := by
  have hall := And.intro hv (And.intro hs hck)
  clear hall
  have hA := (G.refl W).alloc (.cells #[I 7, I id, .bool y] 32)
  have hX := Blk.new W [I 7, I id, .bool y] 32
  have hcx : ∀ o, (W.alloc (.cells #[I 7, I id, .bool y] 32)).cell? ⟨W.heap.size, o, none⟩ = ([I 7, I id, .bool y] : List Value)[o]? := hX.cell
  have h0 := h.G hA
  have HNK : Hid (¬ K W.heap.size ∧ ¬ K2 W.heap.size) := ⟨fun q => Nat.lt_irrefl _ (h.p.lt _ q), fun q => Nat.lt_irrefl _ (h.q.lt _ q)⟩
  have HSA : Hid (Ste (Un K K2) W (Un K K2) (W.alloc (.cells #[I 7, I id, .bool y] 32))) := Ste.G hA
  have KP := hide (stat_any b m K (W.alloc (.cells #[I 7, I id, .bool y] 32)) h0.p hv)
  have H0 := hide h0
  have HV := hide hv
  clear hA hX h h0 hv hs hck
  go_enter Try.func10, Try.ntmps10
  go_wp2_with (first | (go_at_call 11; refine Hid.out ?_) | fail)
  unfold Hid
  generalize W.alloc (.cells #[I 7, I id, .bool y] 32) = w0 at hcx H0 HSA KP ⊢
  refine KP.out.mono ?_
  rintro e w1 ⟨v4, v6, rfl, hv4, hv6, hf4, hf6, hap, K', hp1, hs1, hn1⟩
  have KR := hide (stat_same r m K2 v4 v6 w1 (H0.out.ref hp1 hs1) HV.out hv4 hv6)
  have HP1 := hide hp1
  have HS1 := hide hs1
  clear hp1 hs1 KP hcx hn1 hv4 hv6 hf4 hf6 hap
  go_wp2_with (first | (go_at_call 12; refine Hid.out ?_) | fail)
  unfold Hid
  refine KR.out.mono ?_
  rintro e w2 ⟨rfl, hg2⟩
  have HB := hide (H0.out.both HP1.out HS1.out ((H0.out.ref HP1.out HS1.out).G hg2) (Ste.G hg2))
  clear hg2 KR
  go_wp2_with fail
  go_ret
  exact ⟨rfl, K', K2, HB.out.1, HSA.out.trans HB.out.2⟩
set_option maxRecDepth 100000 in
set_option maxHeartbeats 1000000 in
theorem plays_0 (b r : Nat) (m : GM) (K K2 : Nat → Prop) (id : Int) (y : Bool) (k : Int) (hk : ¬ (k = 1 ∨ k = 2 ∨ k = 3 ∨ k = 4 ∨ k = 5 ∨ k = 6 ∨ k = 7)) (W : World) (h : PR W b r m K K2) (hv : Iv m) (hs : m.sp < 4611686018427387904) (hck : m.ck < 4611686018427387904) :
    Calls Try.prog 10 #[ptr b, ptr r, .agg #[I k, I id, .bool y]] W fun e W' => e = .returned (.bool true) ∧ ∃ K' K2', PR W' b r (m.stepM k id y) K' K2' ∧ Ste (Un K K2) W (Un K' K2') W' := by
  have hall := And.intro hv (And.intro hs hck)
  clear hall
  have hA := (G.refl W).alloc (.cells #[I k, I id, .bool y] 32)
  have hX := Blk.new W [I k, I id, .bool y] 32
  have hcx : ∀ o, (W.alloc (.cells #[I k, I id, .bool y] 32)).cell? ⟨W.heap.size, o, none⟩ = ([I k, I id, .bool y] : List Value)[o]? := hX.cell
  have h0 := h.G hA
  have HNK : Hid (¬ K W.heap.size ∧ ¬ K2 W.heap.size) := ⟨fun q => Nat.lt_irrefl _ (h.p.lt _ q), fun q => Nat.lt_irrefl _ (h.q.lt _ q)⟩
  have HSA : Hid (Ste (Un K K2) W (Un K K2) (W.alloc (.cells #[I k, I id, .bool y] 32))) := Ste.G hA
  have k1 : (k == 1) = false := beq_eq_false_iff_ne.2 (by omega)
  have k2 : (k == 2) = false := beq_eq_false_iff_ne.2 (by omega)
  have k3 : (k == 3) = false := beq_eq_false_iff_ne.2 (by omega)
  have k4 : (k == 4) = false := beq_eq_false_iff_ne.2 (by omega)
  have k5 : (k == 5) = false := beq_eq_false_iff_ne.2 (by omega)
  have k6 : (k == 6) = false := beq_eq_false_iff_ne.2 (by omega)
  have k7 : (k == 7) = false := beq_eq_false_iff_ne.2 (by omega)
  have hst : m.stepM k id y = m := by
    unfold GM.stepM
    rw [if_neg (by omega), if_neg (by omega), if_neg (by omega), if_neg (by omega), if_neg (by omega)]
  rw [hst]
  have H0 := hide h0
  clear hA hX h h0 hv hs hck hk hst
  go_enter Try.func10, Try.ntmps10
  go_wp2_with fail
  go_ret
  exact ⟨rfl, K, K2, H0.out, HSA.out⟩
theorem plays_any (b r : Nat) (m : GM) (K K2 : Nat → Prop) (k id : Int) (y : Bool) (W : World) (h : PR W b r m K K2) (hv : Iv m) (hs : m.sp < 4611686018427387904) (hck : m.ck < 4611686018427387904) :
    Calls Try.prog 10 #[ptr b, ptr r, .agg #[I k, I id, .bool y]] W fun e W' => e = .returned (.bool true) ∧ ∃ K' K2', PR W' b r (m.stepM k id y) K' K2' ∧ Ste (Un K K2) W (Un K' K2') W' := by
  by_cases hk : k = 1 ∨ k = 2 ∨ k = 3 ∨ k = 4 ∨ k = 5 ∨ k = 6 ∨ k = 7
  · rcases hk with rfl | rfl | rfl | rfl | rfl | rfl | rfl
    · exact plays_1 b r m K K2 id y W h hv hs hck
    · exact plays_2 b r m K K2 id y W h hv hs hck
    · exact plays_3 b r m K K2 id y W h hv hs hck
    · exact plays_4 b r m K K2 id y W h hv hs hck
    · exact plays_5 b r m K K2 id y W h hv hs hck
    · exact plays_6 b r m K K2 id y W h hv hs hck
    · exact plays_7 b r m K K2 id y W h hv hs hck
  · exact plays_0 b r m K K2 id y k hk W h hv hs hck
end Go.Proofs.Ytmclbnhbioficac
