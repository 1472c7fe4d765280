/- The law parts; plays at its kinds. -/
import Derived.Test.YtficmpaeochcgaaGreatDoorParts4
namespace Go.Proofs.YtficmpaeochcgaaGreatDoor
open Go.RowKit Go.PlainAid Go.Lib Go.Shelf

set_option maxRecDepth 100000 in
set_option maxHeartbeats 1000000 in
theorem law_to (op k a b : Int) (s : ByteArray) (k' a' b' : Int) (s' : ByteArray) (vs : Value) (st tt : ByteArray) (bb : Value) (n x y o1 o2 : Int) (hs : s.size ≤ 4611686018427387904) (w : World) (hT : Tabs w) : Calls Tryz.prog 26 #[.agg #[I 10, I op, I k, I a, I b, .string s, I k', I a', I b', .string s', vs, .string st, .string tt, bb, I n, I x, I y, I o1, I o2]] w fun r w' => r = .returned (.bool true) ∧ G w w' := by
  obtain ⟨p, q, c, i, j, e1, e2, h1, h2⟩ := tc_both k a b s hs
  have H1 : Hid _ := h1
  have H2 : Hid _ := h2
  clear h1 h2 hs
  go_enter Tryz.func26, Tryz.ntmps26
  go_wp2_with fail
  refine (H1.out _ (hT.G ((G.refl w).alloc _))).mono ?_
  rintro e w1 ⟨rfl, hb1⟩
  obtain ⟨hc1, hf1⟩ := hb1.rules
  go_wp2_with fail
  refine (H2.out _).mono ?_
  rintro e w2 ⟨rfl, hb2⟩
  go_wp2
  go_ret
  exact ⟨by simp, by repeat (first | exact G.refl _ | assumption | refine G.alloc ?_ _ | refine G.drew ?_ | refine G.setCell ?_ (by simp) _ | refine G.trans ?_ (by assumption))⟩
set_option maxRecDepth 100000 in
set_option maxHeartbeats 1000000 in
theorem law_from (kind : Int) (hk : (kind == 10) = false) (op k a b : Int) (s : ByteArray) (k' a' b' : Int) (s' : ByteArray) (vs : Value) (st tt : ByteArray) (bb : Value) (n x y o1 o2 : Int) (w : World) : Calls Tryz.prog 26 #[.agg #[I kind, I op, I k, I a, I b, .string s, I k', I a', I b', .string s', vs, .string st, .string tt, bb, I n, I x, I y, I o1, I o2]] w fun r w' => r = .returned (.bool true) ∧ G w w' := by
  have F1 : Hid (∀ w, Calls Tryz.prog 66 #[.int .i64 x, .int .i64 o1] w fun e w' => ∃ b, e = .returned (.float .f64 b) ∧ b < 2 ^ 64 ∧ G w w') := fun w => float_any x o1 w
  have F2 : Hid (∀ w, Calls Tryz.prog 66 #[.int .i64 y, .int .i64 o2] w fun e w' => ∃ b, e = .returned (.float .f64 b) ∧ b < 2 ^ 64 ∧ G w w') := fun w => float_any y o2 w
  have hv := eqV
  go_enter Tryz.func26, Tryz.ntmps26
  go_wp2_with fail
  refine (F1.out _).mono ?_
  rintro e w1 ⟨X, rfl, hX, hb1⟩
  obtain ⟨hc1, hf1⟩ := hb1.rules
  have hz1 := hb1.size
  simp at hz1
  go_wp2_with fail
  refine (F2.out _).mono ?_
  rintro e w2 ⟨Y, rfl, hY, hb2⟩
  obtain ⟨k1, a1, b1, c1, h1, h2⟩ := fc_both X Y hX hY
  have H1 : Hid _ := h1
  have H2 : Hid _ := h2
  clear h1 h2 hX hY
  go_wp2_with fail
  refine (H1.out _).mono ?_
  rintro e w3 ⟨rfl, hb3⟩
  go_wp2_with fail
  refine (H2.out _).mono ?_
  rintro e w4 ⟨rfl, hb4⟩
  have hc4 : ∀ o, w4.cell? { block := w3.heap.size, off := o } = [I k1, I a1, I b1, .string E0][o]? := G.cells hb4 (by simp) (by simp)
  have hz4 : w3.heap.size < w4.heap.size := by have := hb4.size; simp at this; omega
  go_wp2
  go_ret
  exact ⟨by simp, by repeat (first | exact G.refl _ | assumption | refine G.alloc ?_ _ | refine G.drew ?_ | refine G.setCell ?_ (by simp) _ | refine G.trans ?_ (by assumption))⟩
set_option maxRecDepth 100000 in
set_option maxHeartbeats 1000000 in
theorem plays_p (e : Ent) (kk : e.kind = 10 ∨ e.kind = 11) (hs : e.s.size ≤ 4611686018427387904) (w : World) (hT : Tabs w) : Calls Tryz.prog 10 #[e.V] w fun r w' => r = .returned (.bool true) ∧ G w w' := by
  obtain ⟨kind, op, k, a, b, s, k', a', b', s', vs, st, tt, bb, n, x, y, o1, o2⟩ := e
  simp only at kk hs
  rcases kk with rfl | rfl
  · have HF : Hid (∀ w, Tabs w → Calls Tryz.prog 26 #[.agg #[I 10, I op, I k, I a, I b, .string s, I k', I a', I b', .string s', vs, .string st, .string tt, bb, I n, I x, I y, I o1, I o2]] w fun r w' => r = .returned (.bool true) ∧ G w w') := law_to op k a b s k' a' b' s' vs st tt bb n x y o1 o2 hs
    clear hs
    have hr : (w.alloc (.cells #[I 10, I op, I k, I a, I b, .string s, I k', I a', I b', .string s', vs, .string st, .string tt, bb, I n, I x, I y, I o1, I o2] 35)).rangeAt w.heap.size 0 [I 10, I op, I k, I a, I b, .string s, I k', I a', I b', .string s', vs, .string st, .string tt, bb, I n, I x, I y, I o1, I o2] := fun j v hv => by rw [Nat.zero_add]; simpa using hv
    go_enter Tryz.func10, Tryz.ntmps10
    go_wp2_with (first | (refine wpList_load_mid rfl 35 _ rfl w.heap.size 0 rfl [I 10, I op, I k, I a, I b, .string s, I k', I a', I b', .string s', vs, .string st, .string tt, bb, I n, I x, I y, I o1, I o2] _ hr Tryz.underlying35 rfl (by kernel_rfl) ?_) | (go_at_call 26; refine (HF.out _ (hT.G ((G.refl w).alloc _))).mono ?_; rintro e w1 ⟨rfl, hb1⟩))
    go_wp2
    go_ret
    exact ⟨rfl, ((G.refl w).alloc _).trans hb1⟩
  · have HF : Hid (∀ w, Tabs w → Calls Tryz.prog 26 #[.agg #[I 11, I op, I k, I a, I b, .string s, I k', I a', I b', .string s', vs, .string st, .string tt, bb, I n, I x, I y, I o1, I o2]] w fun r w' => r = .returned (.bool true) ∧ G w w') := fun w (_ : Tabs w) => law_from 11 rfl op k a b s k' a' b' s' vs st tt bb n x y o1 o2 w
    clear hs
    have hr : (w.alloc (.cells #[I 11, I op, I k, I a, I b, .string s, I k', I a', I b', .string s', vs, .string st, .string tt, bb, I n, I x, I y, I o1, I o2] 35)).rangeAt w.heap.size 0 [I 11, I op, I k, I a, I b, .string s, I k', I a', I b', .string s', vs, .string st, .string tt, bb, I n, I x, I y, I o1, I o2] := fun j v hv => by rw [Nat.zero_add]; simpa using hv
    go_enter Tryz.func10, Tryz.ntmps10
    go_wp2_with (first | (refine wpList_load_mid rfl 35 _ rfl w.heap.size 0 rfl [I 11, I op, I k, I a, I b, .string s, I k', I a', I b', .string s', vs, .string st, .string tt, bb, I n, I x, I y, I o1, I o2] _ hr Tryz.underlying35 rfl (by kernel_rfl) ?_) | (go_at_call 26; refine (HF.out _ (hT.G ((G.refl w).alloc _))).mono ?_; rintro e w1 ⟨rfl, hb1⟩))
    go_wp2
    go_ret
    exact ⟨rfl, ((G.refl w).alloc _).trans hb1⟩
theorem parts_plays (W : World) (hT : Tabs W) (e : Ent) (h : EntOk W e) (h1 : 10 ≤ e.kind) (h2 : e.kind ≤ 11) (w' : World) (g : G W w') : Calls Tryz.prog 10 #[e.V] w' fun r w'' => r = .returned (.bool true) ∧ G w' w'' :=
  plays_p e (by omega) (by have := h.s; unfold reachBytes at this; omega) w' (hT.G g)
end Go.Proofs.YtficmpaeochcgaaGreatDoor
