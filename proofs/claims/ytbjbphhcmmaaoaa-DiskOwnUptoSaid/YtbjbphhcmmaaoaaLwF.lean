/- A step: any. -/
import Derived.Test.YtbjbphhcmmaaoaaLwD
import Derived.Test.YtbjbphhcmmaaoaaLwE
namespace Go.Proofs.Ytbjbphhcmmaaoaa
open Go.RowKit

theorem and1 (who : Int) : ∃ s : Nat, s < 2 ∧ bits BinOp.and IntKind.i64 who 1 = (s : Int) := by
  refine ⟨(BitVec.ofInt 64 who).toNat % 2, Nat.mod_lt _ (by decide), ?_⟩
  have h : ((BitVec.ofInt 64 who) &&& (BitVec.ofInt 64 1)).toNat = (BitVec.ofInt 64 who).toNat % 2 := by
    rw [BitVec.toNat_and]
    exact Nat.and_one_is_mod _
  show IntKind.i64.wrap ((((BitVec.ofInt 64 who) &&& (BitVec.ofInt 64 1)).toNat : Nat) : Int) = _
  rw [h, IntKind.wrap_i64]
  have := Nat.mod_lt (BitVec.ofInt 64 who).toNat (show 0 < 2 by decide)
  omega
set_option maxRecDepth 100000 in
set_option maxHeartbeats 4000000 in
theorem step_k1 (who n : Int) (dv kv : Value) (t : Nat) (w : World) (Q : World → World → Prop) (hM : ∀ W, G w W → Calls Try.prog 44 #[.pointer (some ⟨t, 0, none⟩), .agg #[I 1, I who, I n, dv, kv]] W fun e w' => e = .returned (.bool true) ∧ Q W w') : Calls Try.prog 21 #[.pointer (some ⟨t, 0, none⟩), .agg #[I 1, I who, I n, dv, kv]] w fun e w' => e = .returned (.bool true) ∧ ∃ W, G w W ∧ Q W w' := by
  have HM := hide hM
  have HG1 := hide ((G.refl w).alloc (.cells #[I 1, I who, I n, dv, kv] 39))
  have hr : (w.alloc (.cells #[I 1, I who, I n, dv, kv] 39)).rangeAt w.heap.size 0 [I 1, I who, I n, dv, kv] := fun j v hv => by rw [Nat.zero_add]; simpa using hv
  clear hM
  go_enter Try.func21, Try.ntmps21
  go_wp2_with (first | (refine wpList_load_mid rfl 39 _ rfl w.heap.size 0 rfl [I 1, I who, I n, dv, kv] _ hr Try.underlying39 rfl (by kernel_rfl) ?_) | (go_at_call 44; refine (HM.out _ HG1.out).mono ?_; rintro e w1 ⟨rfl, hb1⟩))
  go_wp2
  go_ret
  exact ⟨rfl, _, HG1.out, hb1⟩
set_option maxRecDepth 100000 in
set_option maxHeartbeats 4000000 in
theorem step_k2 (who n : Int) (dv kv : Value) (t : Nat) (w : World) (Q : World → World → Prop) (hM : ∀ W, G w W → Calls Try.prog 44 #[.pointer (some ⟨t, 0, none⟩), .agg #[I 2, I who, I n, dv, kv]] W fun e w' => e = .returned (.bool true) ∧ Q W w') : Calls Try.prog 21 #[.pointer (some ⟨t, 0, none⟩), .agg #[I 2, I who, I n, dv, kv]] w fun e w' => e = .returned (.bool true) ∧ ∃ W, G w W ∧ Q W w' := by
  have HM := hide hM
  have HG1 := hide ((G.refl w).alloc (.cells #[I 2, I who, I n, dv, kv] 39))
  have hr : (w.alloc (.cells #[I 2, I who, I n, dv, kv] 39)).rangeAt w.heap.size 0 [I 2, I who, I n, dv, kv] := fun j v hv => by rw [Nat.zero_add]; simpa using hv
  clear hM
  go_enter Try.func21, Try.ntmps21
  go_wp2_with (first | (refine wpList_load_mid rfl 39 _ rfl w.heap.size 0 rfl [I 2, I who, I n, dv, kv] _ hr Try.underlying39 rfl (by kernel_rfl) ?_) | (go_at_call 44; refine (HM.out _ HG1.out).mono ?_; rintro e w1 ⟨rfl, hb1⟩))
  go_wp2
  go_ret
  exact ⟨rfl, _, HG1.out, hb1⟩
set_option maxRecDepth 100000 in
set_option maxHeartbeats 4000000 in
theorem step_k9 (who n : Int) (dv kv : Value) (t : Nat) (w : World) (Q : World → World → Prop) (hM : ∀ W, G w W → Calls Try.prog 49 #[.pointer (some ⟨t, 0, none⟩), .agg #[I 9, I who, I n, dv, kv]] W fun e w' => e = .returned (.bool true) ∧ Q W w') : Calls Try.prog 21 #[.pointer (some ⟨t, 0, none⟩), .agg #[I 9, I who, I n, dv, kv]] w fun e w' => e = .returned (.bool true) ∧ ∃ W, G w W ∧ Q W w' := by
  have HM := hide hM
  have HG1 := hide ((G.refl w).alloc (.cells #[I 9, I who, I n, dv, kv] 39))
  have hr : (w.alloc (.cells #[I 9, I who, I n, dv, kv] 39)).rangeAt w.heap.size 0 [I 9, I who, I n, dv, kv] := fun j v hv => by rw [Nat.zero_add]; simpa using hv
  clear hM
  go_enter Try.func21, Try.ntmps21
  go_wp2_with (first | (refine wpList_load_mid rfl 39 _ rfl w.heap.size 0 rfl [I 9, I who, I n, dv, kv] _ hr Try.underlying39 rfl (by kernel_rfl) ?_) | (go_at_call 49; refine (HM.out _ HG1.out).mono ?_; rintro e w1 ⟨rfl, hb1⟩))
  go_wp2
  go_ret
  exact ⟨rfl, _, HG1.out, hb1⟩
set_option maxRecDepth 100000 in
set_option maxHeartbeats 4000000 in
theorem step_k10 (who n : Int) (dv kv : Value) (t : Nat) (w : World) (Q : World → World → Prop) (hM : ∀ W, G w W → Calls Try.prog 49 #[.pointer (some ⟨t, 0, none⟩), .agg #[I 10, I who, I n, dv, kv]] W fun e w' => e = .returned (.bool true) ∧ Q W w') : Calls Try.prog 21 #[.pointer (some ⟨t, 0, none⟩), .agg #[I 10, I who, I n, dv, kv]] w fun e w' => e = .returned (.bool true) ∧ ∃ W, G w W ∧ Q W w' := by
  have HM := hide hM
  have HG1 := hide ((G.refl w).alloc (.cells #[I 10, I who, I n, dv, kv] 39))
  have hr : (w.alloc (.cells #[I 10, I who, I n, dv, kv] 39)).rangeAt w.heap.size 0 [I 10, I who, I n, dv, kv] := fun j v hv => by rw [Nat.zero_add]; simpa using hv
  clear hM
  go_enter Try.func21, Try.ntmps21
  go_wp2_with (first | (refine wpList_load_mid rfl 39 _ rfl w.heap.size 0 rfl [I 10, I who, I n, dv, kv] _ hr Try.underlying39 rfl (by kernel_rfl) ?_) | (go_at_call 49; refine (HM.out _ HG1.out).mono ?_; rintro e w1 ⟨rfl, hb1⟩))
  go_wp2
  go_ret
  exact ⟨rfl, _, HG1.out, hb1⟩
set_option maxRecDepth 100000 in
set_option maxHeartbeats 4000000 in
theorem step_k11 (who n : Int) (dv kv : Value) (t : Nat) (w : World) (Q : World → World → Prop) (hM : ∀ W, G w W → Calls Try.prog 49 #[.pointer (some ⟨t, 0, none⟩), .agg #[I 11, I who, I n, dv, kv]] W fun e w' => e = .returned (.bool true) ∧ Q W w') : Calls Try.prog 21 #[.pointer (some ⟨t, 0, none⟩), .agg #[I 11, I who, I n, dv, kv]] w fun e w' => e = .returned (.bool true) ∧ ∃ W, G w W ∧ Q W w' := by
  have HM := hide hM
  have HG1 := hide ((G.refl w).alloc (.cells #[I 11, I who, I n, dv, kv] 39))
  have hr : (w.alloc (.cells #[I 11, I who, I n, dv, kv] 39)).rangeAt w.heap.size 0 [I 11, I who, I n, dv, kv] := fun j v hv => by rw [Nat.zero_add]; simpa using hv
  clear hM
  go_enter Try.func21, Try.ntmps21
  go_wp2_with (first | (refine wpList_load_mid rfl 39 _ rfl w.heap.size 0 rfl [I 11, I who, I n, dv, kv] _ hr Try.underlying39 rfl (by kernel_rfl) ?_) | (go_at_call 49; refine (HM.out _ HG1.out).mono ?_; rintro e w1 ⟨rfl, hb1⟩))
  go_wp2
  go_ret
  exact ⟨rfl, _, HG1.out, hb1⟩
set_option maxRecDepth 100000 in
set_option maxHeartbeats 4000000 in
theorem step_k3 (who n : Int) (dv kv : Value) (t : Nat) (w : World) (Q : World → World → Prop) (hM : ∀ W, G w W → Calls Try.prog 49 #[.pointer (some ⟨t, 0, none⟩), .agg #[I 3, I who, I n, dv, kv]] W fun e w' => e = .returned (.bool true) ∧ Q W w') : Calls Try.prog 21 #[.pointer (some ⟨t, 0, none⟩), .agg #[I 3, I who, I n, dv, kv]] w fun e w' => e = .returned (.bool true) ∧ ∃ W, G w W ∧ Q W w' := by
  have HM := hide hM
  have HG1 := hide ((G.refl w).alloc (.cells #[I 3, I who, I n, dv, kv] 39))
  have hr : (w.alloc (.cells #[I 3, I who, I n, dv, kv] 39)).rangeAt w.heap.size 0 [I 3, I who, I n, dv, kv] := fun j v hv => by rw [Nat.zero_add]; simpa using hv
  clear hM
  go_enter Try.func21, Try.ntmps21
  go_wp2_with (first | (refine wpList_load_mid rfl 39 _ rfl w.heap.size 0 rfl [I 3, I who, I n, dv, kv] _ hr Try.underlying39 rfl (by kernel_rfl) ?_) | (go_at_call 49; refine (HM.out _ HG1.out).mono ?_; rintro e w1 ⟨rfl, hb1⟩))
  go_wp2
  go_ret
  exact ⟨rfl, _, HG1.out, hb1⟩
set_option maxRecDepth 100000 in
set_option maxHeartbeats 4000000 in
theorem step_none (k who n : Int) (dv kv : Value) (t : Nat) (h1 : ¬ k = 1) (h2 : ¬ k = 2) (h3 : ¬ k = 3) (h4 : ¬ k = 4) (h5 : ¬ k = 5) (h6 : ¬ k = 6) (h7 : ¬ k = 7) (h8 : ¬ k = 8) (h9 : ¬ k = 9) (h10 : ¬ k = 10) (h11 : ¬ k = 11) (w : World) : Calls Try.prog 21 #[.pointer (some ⟨t, 0, none⟩), .agg #[I k, I who, I n, dv, kv]] w fun e w' => e = .returned (.bool true) ∧ G w w' := by
  have HG1 := hide ((G.refl w).alloc (.cells #[I k, I who, I n, dv, kv] 39))
  go_enter Try.func21, Try.ntmps21
  go_wp2
  go_ret
  exact ⟨rfl, HG1.out⟩
/-- What is known of a step's argument. -/
structure OpOk (w : World) (o : Op) : Prop where
  n : o.n ≤ 9223372036854775807
  d : ∃ xs : List Nat, (∀ x ∈ xs, x < 256) ∧ xs.length ≤ 1073741824 ∧ Bytes w o.dv xs
  k : ∃ ks : List Bool, ks.length ≤ 1073741824 ∧ Keeps w o.kv ks
  kn : o.kv = .slice none 0 0 ∨ ∃ ad n c, o.kv = .slice (some ad) n c
  db : ∀ j, Value.blk o.dv j → j < w.heap.size
  kb : ∀ j, Value.blk o.kv j → j < w.heap.size
  dn : o.dv = .slice none 0 0 ∨ ∃ ad n c, o.dv = .slice (some ad) n c
theorem OpOk.G {w w' : World} {o : Op} (h : OpOk w o) (g : Go.Proofs.Ytbjbphhcmmaaoaa.G w w') : OpOk w' o := by
  obtain ⟨xs, h1, h2, h3⟩ := h.d
  obtain ⟨ks, h4, h5⟩ := h.k
  exact ⟨h.n, ⟨xs, h1, h2, h3.G g⟩, ⟨ks, h4, h5.G g⟩, h.kn, fun j hj => Nat.lt_of_lt_of_le (h.db j hj) g.size, fun j hj => Nat.lt_of_lt_of_le (h.kb j hj) g.size, h.dn⟩
def Op.V (o : Op) : Value := .agg #[I o.kind, I o.who, I o.n, o.dv, o.kv]
theorem step_any (o : Op) (t s : Nat) (cs : List Value) (pv rv : Value) (FP FR : Nat → Prop) (mo : Option DM) (B : Nat) (hw : bits BinOp.and IntKind.i64 o.who 1 = (s : Int)) (hBB : B ≤ 549755813888) (w : World) (ho : OpOk w o) (hF : ∀ j, Value.blk o.dv j ∨ Value.blk o.kv j → ¬ FP j ∧ ¬ FR j) (hB : fewO mo B) (h : SS w t s cs pv rv FP FR mo) :
    Calls Try.prog 21 #[.pointer (some ⟨t, 0, none⟩), o.V] w fun e w' => e = .returned (.bool true) ∧ StepA w t s cs FP FR B w' := by
  obtain ⟨k, who, n, dv, kv⟩ := o
  obtain ⟨hn, ⟨xs, x1, x2, x3⟩, ⟨ks, k1, k2⟩, kn, _, _, _⟩ := ho
  simp only at hw hn x3 k2 kn hF
  by_cases e1 : k = 1
  · subst e1
    exact (step_k1 who n dv kv t w _ (fun W g => makes_new who n dv kv t s cs pv rv FP FR mo B hw hBB W hB (h.G g))).mono fun e w' ⟨he, W, g, q⟩ => ⟨he, q.back g⟩
  by_cases e2 : k = 2
  · subst e2
    exact (step_k2 who n dv kv t w _ (fun W g => makes_load who n dv kv t s cs pv rv FP FR mo B hw hBB xs x1 x2 W (x3.G g) hB (h.G g))).mono fun e w' ⟨he, W, g, q⟩ => ⟨he, q.back g⟩
  by_cases e4 : k = 4
  · subst e4
    exact step_read who n dv kv t s cs pv rv FP FR mo B hw hBB w hB h
  by_cases e5 : k = 5
  · subst e5
    exact step_write who n dv kv t s cs pv rv FP FR mo B hw hBB xs x1 x2 w x3 (fun j hj => hF j (.inl hj)) hB h
  by_cases e6 : k = 6
  · subst e6
    exact step_flush who n dv kv t s cs pv rv FP FR mo B hw hBB w hB h
  by_cases e7 : k = 7
  · subst e7
    exact step_cut who n dv kv t s cs pv rv FP FR mo B hw hBB hn w hB h
  by_cases e8 : k = 8
  · subst e8
    exact step_crash who n dv kv t s cs pv rv FP FR mo B hw hBB ks k1 w k2 kn (fun j hj => hF j (.inr hj)) hB h
  by_cases e9 : k = 9
  · subst e9
    exact (step_k9 who n dv kv t w _ (fun W g => tells_pending who n dv kv t s cs pv rv FP FR mo B hw hBB W hB (h.G g))).mono fun e w' ⟨he, W, g, q⟩ => ⟨he, h.stay (g.trans q) hB⟩
  by_cases e10 : k = 10
  · subst e10
    exact (step_k10 who n dv kv t w _ (fun W g => tells_image who n dv kv t s cs pv rv FP FR mo B hw hBB W hB (h.G g))).mono fun e w' ⟨he, W, g, q⟩ => ⟨he, h.stay (g.trans q) hB⟩
  by_cases e11 : k = 11
  · subst e11
    exact (step_k11 who n dv kv t w _ (fun W g => tells_stat who n dv kv t s cs pv rv FP FR mo B hw hBB W hB (h.G g))).mono fun e w' ⟨he, W, g, q⟩ => ⟨he, h.stay (g.trans q) hB⟩
  by_cases e3 : k = 3
  · subst e3
    exact (step_k3 who n dv kv t w _ (fun W g => tells_sectors who n dv kv t s cs pv rv FP FR mo B hw hBB W hB (h.G g))).mono fun e w' ⟨he, W, g, q⟩ => ⟨he, h.stay (g.trans q) hB⟩
  exact (step_none k who n dv kv t e1 e2 e3 e4 e5 e6 e7 e8 e9 e10 e11 w).mono fun e w' ⟨he, q⟩ => ⟨he, h.stay q hB⟩
end Go.Proofs.Ytbjbphhcmmaaoaa
