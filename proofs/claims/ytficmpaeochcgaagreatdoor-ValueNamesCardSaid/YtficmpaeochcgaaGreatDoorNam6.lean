/- The law names; plays at its kinds. -/
import Derived.Test.YtficmpaeochcgaaGreatDoorKey6
import Derived.Test.YtficmpaeochcgaaGreatDoorNam5
import Derived.Test.YtficmpaeochcgaaGreatDoorScriptOpen
namespace Go.Proofs.YtficmpaeochcgaaGreatDoor
open Go.RowKit Go.PlainAid Go.Lib Go.Shelf

theorem pack_both (s : ByteArray) : ∃ (n c : Int), (∀ w, Calls Tryz.prog 69 #[.string s] w fun e w' => e = .returned (.tuple #[.int .i64 n, .int .i64 c]) ∧ w' = w) ∧ (∀ w, Calls Tryz.prog 70 #[.string s] w fun e w' => e = .returned (.tuple #[.int .i64 n, .int .i64 c]) ∧ w' = w) := by
  cases h : nameB s
  · exact ⟨0, 73, Pk_no s h, rPk_no s h⟩
  · have p := (nameB_iff s).1 h
    exact ⟨packK s 8, 0, Pk_yes s p, rPk_yes s p⟩
theorem laid_at (w : World) (ty : TypeId) (F : Nat → Nat) : (w.alloc (.cells #[.int .u8 0, .int .u8 0, .int .u8 0, .int .u8 0, .int .u8 0, .int .u8 0, .int .u8 0, .int .u8 0, .int .u8 0, .int .u8 0, .int .u8 0, .int .u8 0, .int .u8 0, .int .u8 0, .int .u8 0, .int .u8 0, .int .u8 0, .int .u8 0, .int .u8 0, .int .u8 0, .int .u8 0, .int .u8 0, .int .u8 0, .int .u8 0] ty)).there w.heap.size 0 24 ∧ G w ((w.alloc (.cells #[.int .u8 0, .int .u8 0, .int .u8 0, .int .u8 0, .int .u8 0, .int .u8 0, .int .u8 0, .int .u8 0, .int .u8 0, .int .u8 0, .int .u8 0, .int .u8 0, .int .u8 0, .int .u8 0, .int .u8 0, .int .u8 0, .int .u8 0, .int .u8 0, .int .u8 0, .int .u8 0, .int .u8 0, .int .u8 0, .int .u8 0, .int .u8 0] ty)).setCells w.heap.size 0 (cellsOf F).toArray.toList) ∧ ((w.alloc (.cells #[.int .u8 0, .int .u8 0, .int .u8 0, .int .u8 0, .int .u8 0, .int .u8 0, .int .u8 0, .int .u8 0, .int .u8 0, .int .u8 0, .int .u8 0, .int .u8 0, .int .u8 0, .int .u8 0, .int .u8 0, .int .u8 0, .int .u8 0, .int .u8 0, .int .u8 0, .int .u8 0, .int .u8 0, .int .u8 0, .int .u8 0, .int .u8 0] ty)).setCells w.heap.size 0 (cellsOf F).toArray.toList).rangeAt w.heap.size 0 (cellsOf F) ∧
    w.heap.size < ((w.alloc (.cells #[.int .u8 0, .int .u8 0, .int .u8 0, .int .u8 0, .int .u8 0, .int .u8 0, .int .u8 0, .int .u8 0, .int .u8 0, .int .u8 0, .int .u8 0, .int .u8 0, .int .u8 0, .int .u8 0, .int .u8 0, .int .u8 0, .int .u8 0, .int .u8 0, .int .u8 0, .int .u8 0, .int .u8 0, .int .u8 0, .int .u8 0, .int .u8 0] ty)).setCells w.heap.size 0 (cellsOf F).toArray.toList).heap.size := by
  have ht : (w.alloc (.cells #[.int .u8 0, .int .u8 0, .int .u8 0, .int .u8 0, .int .u8 0, .int .u8 0, .int .u8 0, .int .u8 0, .int .u8 0, .int .u8 0, .int .u8 0, .int .u8 0, .int .u8 0, .int .u8 0, .int .u8 0, .int .u8 0, .int .u8 0, .int .u8 0, .int .u8 0, .int .u8 0, .int .u8 0, .int .u8 0, .int .u8 0, .int .u8 0] ty)).there w.heap.size 0 24 := fun j hj => by
    have e : (w.alloc (.cells #[.int .u8 0, .int .u8 0, .int .u8 0, .int .u8 0, .int .u8 0, .int .u8 0, .int .u8 0, .int .u8 0, .int .u8 0, .int .u8 0, .int .u8 0, .int .u8 0, .int .u8 0, .int .u8 0, .int .u8 0, .int .u8 0, .int .u8 0, .int .u8 0, .int .u8 0, .int .u8 0, .int .u8 0, .int .u8 0, .int .u8 0, .int .u8 0] ty)).cell? ⟨w.heap.size, j, none⟩ = (#[.int .u8 0, .int .u8 0, .int .u8 0, .int .u8 0, .int .u8 0, .int .u8 0, .int .u8 0, .int .u8 0, .int .u8 0, .int .u8 0, .int .u8 0, .int .u8 0, .int .u8 0, .int .u8 0, .int .u8 0, .int .u8 0, .int .u8 0, .int .u8 0, .int .u8 0, .int .u8 0, .int .u8 0, .int .u8 0, .int .u8 0, .int .u8 0] : Array Value)[j]? := by simp
    rw [Nat.zero_add, e, z24_at j hj]
    exact ⟨rfl, by simp⟩
  have hr : ((w.alloc (.cells #[.int .u8 0, .int .u8 0, .int .u8 0, .int .u8 0, .int .u8 0, .int .u8 0, .int .u8 0, .int .u8 0, .int .u8 0, .int .u8 0, .int .u8 0, .int .u8 0, .int .u8 0, .int .u8 0, .int .u8 0, .int .u8 0, .int .u8 0, .int .u8 0, .int .u8 0, .int .u8 0, .int .u8 0, .int .u8 0, .int .u8 0, .int .u8 0] ty)).setCells w.heap.size 0 (cellsOf F)).rangeAt w.heap.size 0 (cellsOf F) := World.rangeAt_setCells_same _ _ _ _ (by rw [cellsOf_len]; exact ht)
  exact ⟨ht, G.setCells _ ((G.refl w).alloc _) (Nat.le_refl _), hr, World.block_lt_of_cell? _ ⟨w.heap.size, 0, none⟩ (hr 0 (bv (F 0)) rfl)⟩
set_option maxRecDepth 100000 in
set_option maxHeartbeats 16000000 in
theorem law_pack (op k a b : Int) (s : ByteArray) (k' a' b' : Int) (s' : ByteArray) (vs : Value) (st tt : ByteArray) (bb : Value) (n x y o1 o2 : Int) (w : World) : Calls Tryz.prog 27 #[.agg #[I 12, I op, I k, I a, I b, .string s, I k', I a', I b', .string s', vs, .string st, .string tt, bb, I n, I x, I y, I o1, I o2]] w fun r w' => r = .returned (.bool true) ∧ G w w' := by
  obtain ⟨p, c, h1, h2⟩ := pack_both st
  have H1 : Hid _ := h1
  have H2 : Hid _ := h2
  clear h1 h2
  go_enter Tryz.func27, Tryz.ntmps27
  go_wp2_with fail
  refine (H1.out _).mono ?_
  rintro e w1 ⟨rfl, hw⟩
  rw [hw]
  clear hw
  go_wp2_with fail
  refine (H2.out _).mono ?_
  rintro e w2 ⟨rfl, hw⟩
  rw [hw]
  clear hw
  go_wp2
  go_ret
  exact ⟨by simp, by repeat (first | exact G.refl _ | assumption | refine G.alloc ?_ _ | refine G.drew ?_ | refine G.setCell ?_ (by simp) _ | refine G.trans ?_ (by assumption))⟩
set_option maxRecDepth 100000 in
set_option maxHeartbeats 16000000 in
theorem law_unpack (op k a b : Int) (s : ByteArray) (k' a' b' : Int) (s' : ByteArray) (vs : Value) (st tt : ByteArray) (bb : Value) (n x y o1 o2 : Int) (h1 : -9223372036854775808 ≤ n) (h2 : n ≤ 9223372036854775807) (w : World) : Calls Tryz.prog 27 #[.agg #[I 13, I op, I k, I a, I b, .string s, I k', I a', I b', .string s', vs, .string st, .string tt, bb, I n, I x, I y, I o1, I o2]] w fun r w' => r = .returned (.bool true) ∧ G w w' := by
  have H1 : Hid _ := un_any n h1 h2
  have H2 : Hid _ := run_any n
  clear h1 h2
  go_enter Tryz.func27, Tryz.ntmps27
  go_wp2_with fail
  refine (H1.out _).mono ?_
  rintro e w1 ⟨s1, c1, rfl, hu1, hb1⟩
  obtain ⟨hc1, hf1⟩ := hb1.rules
  have HU : Hid _ := hu1
  clear hu1
  go_wp2_with fail
  refine (H2.out _).mono ?_
  rintro e w2 ⟨s2, c2, rfl, hu2, hb2⟩
  obtain ⟨rfl, rfl⟩ := UAns.one HU.out hu2
  clear hu2 HU
  go_wp2
  go_ret
  exact ⟨by simp, by repeat (first | exact G.refl _ | assumption | refine G.alloc ?_ _ | refine G.drew ?_ | refine G.setCell ?_ (by simp) _ | refine G.trans ?_ (by assumption))⟩
set_option maxRecDepth 100000 in
set_option maxHeartbeats 16000000 in
theorem law_key (op k a b : Int) (s : ByteArray) (k' a' b' : Int) (s' : ByteArray) (vs : Value) (st tt : ByteArray) (bb : Value) (n x y o1 o2 : Int) (ha : R64 a) (hs : s.size ≤ 4611686018427387904) (w : World) (hT : Tabs w) : Calls Tryz.prog 27 #[.agg #[I 14, I op, I k, I a, I b, .string s, I k', I a', I b', .string s', vs, .string st, .string tt, bb, I n, I x, I y, I o1, I o2]] w fun r w' => r = .returned (.bool true) ∧ G w w' := by
  obtain ⟨F, c, h1, h2⟩ := key_both st tt k a b s n ha hs
  have H1 : Hid _ := h1
  have H2 : Hid _ := h2
  have HT : Hid (Tabs w) := hT
  clear h1 h2 ha hs hT
  have hq := eqKey F
  go_enter Tryz.func27, Tryz.ntmps27
  go_wp2_with fail
  refine (H1.out _ (Tabs.G HT.out ((G.refl w).alloc _))).mono ?_
  rintro e w1 ⟨rfl, hb1⟩
  have hc1 : ∀ o, w1.cell? { block := w.heap.size, off := o } = [I 14, I op, I k, I a, I b, .string s, I k', I a', I b', .string s', vs, .string st, .string tt, bb, I n, I x, I y, I o1, I o2][o]? := G.cells hb1 (by simp) (by simp)
  have hz1 : w.heap.size < w1.heap.size := by have := hb1.size; simp at this; omega
  have HG1 : Hid (G w w1) := G.trans ((G.refl w).alloc _) hb1
  have hcl : (cellsOf F).toArray.size = 24 := by simp [cellsOf]
  have HL : Hid _ := hcl
  clear hb1 hcl
  go_wp2_with (refine wpList_store_mid rfl 93 _ _ rfl w1.heap.size 0 (cellsOf F).toArray rfl rfl (by rw [HL.out]; exact (laid_at w1 93 F).1) (by rw [HL.out]; kernel_rfl) (cellsOf_one F) ?_; have hl := (laid_at w1 93 F).2; generalize (w1.alloc (.cells #[.int .u8 0, .int .u8 0, .int .u8 0, .int .u8 0, .int .u8 0, .int .u8 0, .int .u8 0, .int .u8 0, .int .u8 0, .int .u8 0, .int .u8 0, .int .u8 0, .int .u8 0, .int .u8 0, .int .u8 0, .int .u8 0, .int .u8 0, .int .u8 0, .int .u8 0, .int .u8 0, .int .u8 0, .int .u8 0, .int .u8 0, .int .u8 0] 93)).setCells w1.heap.size 0 (cellsOf F).toArray.toList = w2 at hl ⊢; have hc2 : ∀ o, w2.cell? { block := w.heap.size, off := o } = [I 14, I op, I k, I a, I b, .string s, I k', I a', I b', .string s', vs, .string st, .string tt, bb, I n, I x, I y, I o1, I o2][o]? := G.cells hl.1 hc1 hz1; have HL2 : Hid _ := hl; clear hl)
  clear hc1
  refine (H2.out _).mono ?_
  rintro e w3 ⟨rfl, hb3⟩
  have hz3 : w1.heap.size < w3.heap.size := Nat.lt_of_lt_of_le HL2.out.2.2 hb3.size
  have HR1 : Hid (w3.rangeAt w1.heap.size 0 (cellsOf F)) := rangeAt_G HL2.out.2.1 hb3
  have HG3 : Hid (G w w3) := G.trans (G.trans HG1.out HL2.out.1) hb3
  clear hb3 hc2 HL2 HG1
  go_wp2_with (first | (refine wpList_store_mid rfl 92 _ _ rfl w3.heap.size 0 (cellsOf F).toArray rfl rfl (by rw [HL.out]; exact (laid_at w3 92 F).1) (by rw [HL.out]; kernel_rfl) (cellsOf_one F) ?_; have hl := (laid_at w3 92 F).2; generalize (w3.alloc (.cells #[.int .u8 0, .int .u8 0, .int .u8 0, .int .u8 0, .int .u8 0, .int .u8 0, .int .u8 0, .int .u8 0, .int .u8 0, .int .u8 0, .int .u8 0, .int .u8 0, .int .u8 0, .int .u8 0, .int .u8 0, .int .u8 0, .int .u8 0, .int .u8 0, .int .u8 0, .int .u8 0, .int .u8 0, .int .u8 0, .int .u8 0, .int .u8 0] 92)).setCells w3.heap.size 0 (cellsOf F).toArray.toList = w4 at hl ⊢; have HR2 : Hid (w4.rangeAt w3.heap.size 0 (cellsOf F)) := hl.2.1; have HR3 : Hid (w4.rangeAt w1.heap.size 0 (cellsOf F)) := rangeAt_G HR1.out hl.1; have HG4 : Hid (G w w4) := G.trans HG3.out hl.1; clear hl) | (refine wpList_load_mid rfl 93 _ rfl w1.heap.size 0 rfl (cellsOf F) _ HR3.out Tryz.underlying93 rfl (by rw [cellsOf_len]; kernel_rfl) ?_) | (refine wpList_load_mid rfl 92 _ rfl w3.heap.size 0 rfl (cellsOf F) _ HR2.out Tryz.underlying92 rfl (by rw [cellsOf_len]; kernel_rfl) ?_))
  go_ret
  exact ⟨by simp, HG4.out⟩
set_option maxRecDepth 100000 in
set_option maxHeartbeats 16000000 in
theorem plays_n (e : Ent) (kk : e.kind = 12 ∨ e.kind = 13 ∨ e.kind = 14) (hs : e.s.size ≤ 4611686018427387904) (ha : R64 e.a) (hn : R64 e.n) (w : World) (hT : Tabs w) : Calls Tryz.prog 10 #[e.V] w fun r w' => r = .returned (.bool true) ∧ G w w' := by
  obtain ⟨kind, op, k, a, b, s, k', a', b', s', vs, st, tt, bb, n, x, y, o1, o2⟩ := e
  simp only at kk hs ha hn
  rcases kk with rfl | rfl | rfl
  · have HF : Hid (∀ w, Tabs w → Calls Tryz.prog 27 #[.agg #[I 12, I op, I k, I a, I b, .string s, I k', I a', I b', .string s', vs, .string st, .string tt, bb, I n, I x, I y, I o1, I o2]] w fun r w' => r = .returned (.bool true) ∧ G w w') := fun w _ => law_pack op k a b s k' a' b' s' vs st tt bb n x y o1 o2 w
    clear hs ha hn
    have hr : (w.alloc (.cells #[I 12, I op, I k, I a, I b, .string s, I k', I a', I b', .string s', vs, .string st, .string tt, bb, I n, I x, I y, I o1, I o2] 35)).rangeAt w.heap.size 0 [I 12, I op, I k, I a, I b, .string s, I k', I a', I b', .string s', vs, .string st, .string tt, bb, I n, I x, I y, I o1, I o2] := fun j v hv => by rw [Nat.zero_add]; simpa using hv
    go_enter Tryz.func10, Tryz.ntmps10
    go_wp2_with (first | (refine wpList_load_mid rfl 35 _ rfl w.heap.size 0 rfl [I 12, I op, I k, I a, I b, .string s, I k', I a', I b', .string s', vs, .string st, .string tt, bb, I n, I x, I y, I o1, I o2] _ hr Tryz.underlying35 rfl (by kernel_rfl) ?_) | (go_at_call 27; refine (HF.out _ (hT.G ((G.refl w).alloc _))).mono ?_; rintro e w1 ⟨rfl, hb1⟩))
    go_wp2
    go_ret
    exact ⟨rfl, ((G.refl w).alloc _).trans hb1⟩
  · have HF : Hid (∀ w, Tabs w → Calls Tryz.prog 27 #[.agg #[I 13, I op, I k, I a, I b, .string s, I k', I a', I b', .string s', vs, .string st, .string tt, bb, I n, I x, I y, I o1, I o2]] w fun r w' => r = .returned (.bool true) ∧ G w w') := fun w _ => law_unpack op k a b s k' a' b' s' vs st tt bb n x y o1 o2 hn.1 hn.2 w
    clear hs ha hn
    have hr : (w.alloc (.cells #[I 13, I op, I k, I a, I b, .string s, I k', I a', I b', .string s', vs, .string st, .string tt, bb, I n, I x, I y, I o1, I o2] 35)).rangeAt w.heap.size 0 [I 13, I op, I k, I a, I b, .string s, I k', I a', I b', .string s', vs, .string st, .string tt, bb, I n, I x, I y, I o1, I o2] := fun j v hv => by rw [Nat.zero_add]; simpa using hv
    go_enter Tryz.func10, Tryz.ntmps10
    go_wp2_with (first | (refine wpList_load_mid rfl 35 _ rfl w.heap.size 0 rfl [I 13, I op, I k, I a, I b, .string s, I k', I a', I b', .string s', vs, .string st, .string tt, bb, I n, I x, I y, I o1, I o2] _ hr Tryz.underlying35 rfl (by kernel_rfl) ?_) | (go_at_call 27; refine (HF.out _ (hT.G ((G.refl w).alloc _))).mono ?_; rintro e w1 ⟨rfl, hb1⟩))
    go_wp2
    go_ret
    exact ⟨rfl, ((G.refl w).alloc _).trans hb1⟩
  · have HF : Hid (∀ w, Tabs w → Calls Tryz.prog 27 #[.agg #[I 14, I op, I k, I a, I b, .string s, I k', I a', I b', .string s', vs, .string st, .string tt, bb, I n, I x, I y, I o1, I o2]] w fun r w' => r = .returned (.bool true) ∧ G w w') := law_key op k a b s k' a' b' s' vs st tt bb n x y o1 o2 ha hs
    clear hs ha hn
    have hr : (w.alloc (.cells #[I 14, I op, I k, I a, I b, .string s, I k', I a', I b', .string s', vs, .string st, .string tt, bb, I n, I x, I y, I o1, I o2] 35)).rangeAt w.heap.size 0 [I 14, I op, I k, I a, I b, .string s, I k', I a', I b', .string s', vs, .string st, .string tt, bb, I n, I x, I y, I o1, I o2] := fun j v hv => by rw [Nat.zero_add]; simpa using hv
    go_enter Tryz.func10, Tryz.ntmps10
    go_wp2_with (first | (refine wpList_load_mid rfl 35 _ rfl w.heap.size 0 rfl [I 14, I op, I k, I a, I b, .string s, I k', I a', I b', .string s', vs, .string st, .string tt, bb, I n, I x, I y, I o1, I o2] _ hr Tryz.underlying35 rfl (by kernel_rfl) ?_) | (go_at_call 27; refine (HF.out _ (hT.G ((G.refl w).alloc _))).mono ?_; rintro e w1 ⟨rfl, hb1⟩))
    go_wp2
    go_ret
    exact ⟨rfl, ((G.refl w).alloc _).trans hb1⟩
theorem names_plays (W : World) (hT : Tabs W) (e : Ent) (h : EntOk W e) (h1 : 12 ≤ e.kind) (h2 : e.kind ≤ 14) (w' : World) (g : G W w') : Calls Tryz.prog 10 #[e.V] w' fun r w'' => r = .returned (.bool true) ∧ G w' w'' :=
  plays_n e (by omega) (by have := h.s; unfold reachBytes at this; omega) h.a h.n w' (hT.G g)
end Go.Proofs.YtficmpaeochcgaaGreatDoor
