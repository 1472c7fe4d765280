/- The law texts; plays at its kinds. -/
import Derived.Test.YthmdjhfbhbheeaaGreatDoorRt7
import Derived.Test.YthmdjhfbhbheeaaGreatDoorScript
import Derived.Test.YthmdjhfbhbheeaaGreatDoorScriptOpen
namespace Go.Proofs.YthmdjhfbhbheeaaGreatDoor
open Go.RowKit Go.Lib Go.Shelf

theorem print_both (k a b : Int) (s : ByteArray) (hs : s.size ≤ 4611686018427387904) (ha : R64 a) (hb : R64 b) : ∃ x : ByteArray, (∀ w, Env w → Calls Tryz.prog 55 #[V k a b s] w fun e w' => e = .returned (.string x) ∧ G w w') ∧ (∀ w, Calls Tryz.prog 56 #[V k a b s] w fun e w' => e = .returned (.string x) ∧ G w w') := by
  cases h : okV k a b s with
  | true => exact ⟨_, fun w hE => print_yes k a b s h ha w hE, fun w => rprint_yes k a b s h hs ha hb w⟩
  | false => exact ⟨_, fun w hE => print_no k a b s h w hE, fun w => rprint_no k a b s h hs w⟩
set_option maxRecDepth 100000 in
set_option maxHeartbeats 4000000 in
theorem law_print (op k a b : Int) (s : ByteArray) (k' a' b' : Int) (s' : ByteArray) (vs : Value) (st tt : ByteArray) (bb : Value) (n x y o1 o2 : Int) (hs : s.size ≤ 4611686018427387904) (ha : R64 a) (hb : R64 b) (w : World) (hE : Env w) : Calls Tryz.prog 21 #[.agg #[I 6, I op, I k, I a, I b, .string s, I k', I a', I b', .string s', vs, .string st, .string tt, bb, I n, I x, I y, I o1, I o2]] w fun r w' => r = .returned (.bool true) ∧ G w w' := by
  obtain ⟨z, h1, h2⟩ := print_both k a b s hs ha hb
  have H1 := hide h1
  have H2 := hide h2
  have HE := hide hE
  have HG1 := hide ((G.refl w).alloc (.cells #[I 6, I op, I k, I a, I b, .string s, I k', I a', I b', .string s', vs, .string st, .string tt, bb, I n, I x, I y, I o1, I o2] 35))
  have HCC : Hid (∀ o, (w.alloc (.cells #[I 6, I op, I k, I a, I b, .string s, I k', I a', I b', .string s', vs, .string st, .string tt, bb, I n, I x, I y, I o1, I o2] 35)).cell? ⟨w.heap.size, o, none⟩ = ([I 6, I op, I k, I a, I b, .string s, I k', I a', I b', .string s', vs, .string st, .string tt, bb, I n, I x, I y, I o1, I o2] : List Value)[o]?) := fun o => by simp
  have HZ1 : Hid (w.heap.size < (w.alloc (.cells #[I 6, I op, I k, I a, I b, .string s, I k', I a', I b', .string s', vs, .string st, .string tt, bb, I n, I x, I y, I o1, I o2] 35)).heap.size) := by unfold Hid; simp
  clear h1 h2 hE
  go_enter Tryz.func21, Tryz.ntmps21
  go_wp2_with fail
  generalize w.alloc (.cells #[I 6, I op, I k, I a, I b, .string s, I k', I a', I b', .string s', vs, .string st, .string tt, bb, I n, I x, I y, I o1, I o2] 35) = w1 at HG1 HCC HZ1 ⊢
  refine wp_region_noPanic ?_
  refine wp_region_held_drew (S := (fun W => ∀ o, W.cell? ⟨w.heap.size, o, none⟩ = ([I 6, I op, I k, I a, I b, .string s, I k', I a', I b', .string s', vs, .string st, .string tt, bb, I n, I x, I y, I o1, I o2] : List Value)[o]?)) (by kernel_rfl) (HCC.out) (fun hHeld => ?_)
  refine wpAnyH_take (i := 0) (v := ?_) rfl (by kernel_rfl) (by kernel_rfl) (by kernel_rfl) (fun _ _ _ h => h) (Or.inl ⟨by rfl, ?_⟩) hHeld ?_
  rotate_left 1
  · (intro w hSw; (try dsimp only at hSw); go_simp; try with_reducible rfl)
  try simp only [Act.put, List.getElem_toArray, List.getElem_cons_zero, List.setIfInBounds_toArray, List.set_cons_zero, List.set_cons_succ]
  refine wpAnyH_take (i := 1) (v := ?_) rfl (by kernel_rfl) (by kernel_rfl) (by kernel_rfl) (fun _ _ _ h => h) (Or.inl ⟨by rfl, ?_⟩) hHeld ?_
  rotate_left 1
  · (intro w hSw; have q3 := hSw; go_simp; try with_reducible rfl)
  try simp only [Act.put, List.getElem_toArray, List.getElem_cons_zero, List.getElem_cons_succ, List.setIfInBounds_toArray, List.set_cons_zero, List.set_cons_succ]
  refine wpAnyH_take (i := 3) (v := ?_) rfl (by kernel_rfl) (by kernel_rfl) (by kernel_rfl) (fun _ _ _ h => h) (Or.inl ⟨by rfl, ?_⟩) hHeld ?_
  rotate_left 1
  · (intro w hSw; (try dsimp only at hSw); go_simp; try with_reducible rfl)
  try simp only [Act.put, List.getElem_toArray, List.getElem_cons_zero, List.getElem_cons_succ, List.setIfInBounds_toArray, List.set_cons_zero, List.set_cons_succ]
  refine wpAnyH_take (i := 4) (v := ?_) rfl (by kernel_rfl) (by kernel_rfl) (by kernel_rfl) (fun _ _ _ h => h) (Or.inl ⟨by rfl, ?_⟩) hHeld ?_
  rotate_left 1
  · (intro w hSw; have q3 := hSw; go_simp; try with_reducible rfl)
  try simp only [Act.put, List.getElem_toArray, List.getElem_cons_zero, List.getElem_cons_succ, List.setIfInBounds_toArray, List.set_cons_zero, List.set_cons_succ]
  refine wpAnyH_ready (rs := [2]) (by kernel_rfl) (by simp) (AllReadyH.cons rfl (fun K hK => ?_) AllReadyH.nil)
  clear hHeld
  go_simp
  with_reducible refine (H1.out _ (HE.out.G (HG1.out.trans (G.drew (G.refl _))))).mono ?_
  rintro e' w3 ⟨rfl, hb'⟩
  have HG3 := hide (G.trans (G.drew (G.refl _)) hb')
  clear hb'
  go_wp2_with fail
  refine hK.out _ _ (G.cells HG3.out HCC.out HZ1.out) (fun hHeld => ?_)
  clear hK K
  try simp only [Act.put, List.getElem_toArray, List.getElem_cons_zero, List.getElem_cons_succ, List.setIfInBounds_toArray, List.set_cons_zero, List.set_cons_succ]
  refine wpAnyH_ready (rs := [5]) (by kernel_rfl) (by simp) (AllReadyH.cons rfl (fun K hK => ?_) AllReadyH.nil)
  clear hHeld
  go_simp
  with_reducible refine (H2.out _).mono ?_
  rintro e' w4 ⟨rfl, hb'⟩
  have HG4 := hide (HG3.out.trans hb')
  clear hb'
  go_wp2_with fail
  refine hK.out _ _ (G.cells HG4.out HCC.out HZ1.out) (fun hHeld => ?_)
  clear hK K
  try simp only [Act.put, List.getElem_toArray, List.getElem_cons_zero, List.getElem_cons_succ, List.setIfInBounds_toArray, List.set_cons_zero, List.set_cons_succ]
  refine wpAnyH_take (i := 6) (v := ?_) rfl (by kernel_rfl) (by kernel_rfl) (by kernel_rfl) (fun _ _ _ h => h) (Or.inl ⟨by rfl, ?_⟩) hHeld ?_
  rotate_left 1
  · (intro w hSw; (try dsimp only at hSw); go_simp; try with_reducible rfl)
  try simp only [Act.put, List.getElem_toArray, List.getElem_cons_zero, List.getElem_cons_succ, List.setIfInBounds_toArray, List.set_cons_zero, List.set_cons_succ]
  refine wpAnyH_take (i := 7) (v := ?_) rfl (by kernel_rfl) (by kernel_rfl) (by kernel_rfl) (fun _ _ _ h => h) (Or.inl ⟨by rfl, ?_⟩) hHeld ?_
  rotate_left 1
  · (intro w hSw; (try dsimp only at hSw); go_simp; try with_reducible rfl)
  try simp only [Act.put, List.getElem_toArray, List.getElem_cons_zero, List.getElem_cons_succ, List.setIfInBounds_toArray, List.set_cons_zero, List.set_cons_succ]
  refine wpAnyH_done (by kernel_rfl) ?_ _
  refine NoPanic.normal ?_
  go_wp2
  go_ret
  exact ⟨by simp, HG1.out.trans HG4.out⟩
set_option maxRecDepth 100000 in
set_option maxHeartbeats 4000000 in
theorem law_scan (op k a b : Int) (s : ByteArray) (k' a' b' : Int) (s' : ByteArray) (vs : Value) (st tt : ByteArray) (bb : Value) (n x y o1 o2 : Int) (hst : st.size ≤ 140737488351232) (w : World) (hE : Env w) : Calls Tryz.prog 21 #[.agg #[I 7, I op, I k, I a, I b, .string s, I k', I a', I b', .string s', vs, .string st, .string tt, bb, I n, I x, I y, I o1, I o2]] w fun r w' => r = .returned (.bool true) ∧ G w w' := by
  have H1 := hide (fun w (h : Env w) => scan_any st (by omega) w h)
  have H2 := hide (fun w => rscan_all st hst w)
  have HE := hide hE
  clear hE hst
  go_enter Tryz.func21, Tryz.ntmps21
  go_wp2_with fail
  refine (H1.out _ (HE.out.G ((G.refl w).alloc _))).mono ?_
  rintro e w1 ⟨x1, rfl, hu1, hb1⟩
  have hc1 : ∀ o, w1.cell? { block := w.heap.size, off := o } = [I 7, I op, I k, I a, I b, .string s, I k', I a', I b', .string s', vs, .string st, .string tt, bb, I n, I x, I y, I o1, I o2][o]? := G.cells hb1 (by simp) (by simp)
  have hz1 : w.heap.size < w1.heap.size := by have := hb1.size; simp at this; omega
  have HG1 : Hid (G w w1) := G.trans ((G.refl w).alloc _) hb1
  have HU := hide hu1
  clear hb1 hu1
  obtain ⟨k1, a1, b1, s1, c1, rfl⟩ : ∃ k a b s c, x1 = .tuple #[V k a b s, .int .i64 c] := by
    rcases HU.out with ⟨k, a, b, s, _, _, _, _, rfl⟩ | ⟨_, rfl⟩
    · exact ⟨_, _, _, _, _, rfl⟩
    · exact ⟨_, _, _, _, _, rfl⟩
  go_wp2_with fail
  refine (H2.out _).mono ?_
  rintro e w2 ⟨x2, rfl, hu2, hb2⟩
  obtain rfl : Value.tuple #[V k1 a1 b1 s1, .int .i64 c1] = x2 := sc_one HU.out hu2
  have hc2 : ∀ o, w2.cell? { block := w1.heap.size, off := o } = [I k1, I a1, I b1, .string s1][o]? := G.cells hb2 (by simp) (by simp)
  have hz2 : w1.heap.size < w2.heap.size := by have := hb2.size; simp at this; omega
  have HG2 : Hid (G w w2) := G.trans (G.trans HG1.out ((G.refl w1).alloc _)) hb2
  clear hb2 hu2 HU
  have heq := eqV
  go_wp2
  go_ret
  exact ⟨by simp, by repeat (first | exact HG2.out | refine G.alloc ?_ _ | refine G.drew ?_)⟩
set_option maxRecDepth 100000 in
set_option maxHeartbeats 4000000 in
theorem plays_t (e : Ent) (kk : e.kind = 6 ∨ e.kind = 7) (hs : e.s.size ≤ 4611686018427387904) (ha : R64 e.a) (hb : R64 e.b) (hst : e.st.size ≤ 140737488351232) (w : World) (hT : Env w) : Calls Tryz.prog 7 #[e.V] w fun r w' => r = .returned (.bool true) ∧ G w w' := by
  obtain ⟨kind, op, k, a, b, s, k', a', b', s', vs, st, tt, bb, n, x, y, o1, o2⟩ := e
  simp only at kk hs ha hb hst
  rcases kk with rfl | rfl
  · have HF : Hid (∀ w, Env w → Calls Tryz.prog 21 #[.agg #[I 6, I op, I k, I a, I b, .string s, I k', I a', I b', .string s', vs, .string st, .string tt, bb, I n, I x, I y, I o1, I o2]] w fun r w' => r = .returned (.bool true) ∧ G w w') := fun w h => law_print op k a b s k' a' b' s' vs st tt bb n x y o1 o2 hs ha hb w h
    clear hs ha hb hst
    have hr : (w.alloc (.cells #[I 6, I op, I k, I a, I b, .string s, I k', I a', I b', .string s', vs, .string st, .string tt, bb, I n, I x, I y, I o1, I o2] 35)).rangeAt w.heap.size 0 [I 6, I op, I k, I a, I b, .string s, I k', I a', I b', .string s', vs, .string st, .string tt, bb, I n, I x, I y, I o1, I o2] := fun j v hv => by rw [Nat.zero_add]; simpa using hv
    go_enter Tryz.func7, Tryz.ntmps7
    go_wp2_with (first | (refine wpList_load_mid rfl 35 _ rfl w.heap.size 0 rfl [I 6, I op, I k, I a, I b, .string s, I k', I a', I b', .string s', vs, .string st, .string tt, bb, I n, I x, I y, I o1, I o2] _ hr Tryz.underlying35 rfl (by kernel_rfl) ?_) | (go_at_call 21; refine (HF.out _ (hT.G ((G.refl w).alloc _))).mono ?_; rintro e w1 ⟨rfl, hb1⟩))
    go_wp2
    go_ret
    exact ⟨rfl, ((G.refl w).alloc _).trans hb1⟩
  · have HF : Hid (∀ w, Env w → Calls Tryz.prog 21 #[.agg #[I 7, I op, I k, I a, I b, .string s, I k', I a', I b', .string s', vs, .string st, .string tt, bb, I n, I x, I y, I o1, I o2]] w fun r w' => r = .returned (.bool true) ∧ G w w') := fun w h => law_scan op k a b s k' a' b' s' vs st tt bb n x y o1 o2 hst w h
    clear hs ha hb hst
    have hr : (w.alloc (.cells #[I 7, I op, I k, I a, I b, .string s, I k', I a', I b', .string s', vs, .string st, .string tt, bb, I n, I x, I y, I o1, I o2] 35)).rangeAt w.heap.size 0 [I 7, I op, I k, I a, I b, .string s, I k', I a', I b', .string s', vs, .string st, .string tt, bb, I n, I x, I y, I o1, I o2] := fun j v hv => by rw [Nat.zero_add]; simpa using hv
    go_enter Tryz.func7, Tryz.ntmps7
    go_wp2_with (first | (refine wpList_load_mid rfl 35 _ rfl w.heap.size 0 rfl [I 7, I op, I k, I a, I b, .string s, I k', I a', I b', .string s', vs, .string st, .string tt, bb, I n, I x, I y, I o1, I o2] _ hr Tryz.underlying35 rfl (by kernel_rfl) ?_) | (go_at_call 21; refine (HF.out _ (hT.G ((G.refl w).alloc _))).mono ?_; rintro e w1 ⟨rfl, hb1⟩))
    go_wp2
    go_ret
    exact ⟨rfl, ((G.refl w).alloc _).trans hb1⟩
theorem texts_plays (W : World) (hT : Env W) (e : Ent) (h : EntOk W e) (h1 : 6 ≤ e.kind) (h2 : e.kind ≤ 7) (w' : World) (g : G W w') : Calls Tryz.prog 7 #[e.V] w' fun r w'' => r = .returned (.bool true) ∧ G w' w'' :=
  plays_t e (by omega) (by have := h.s; unfold reachBytes at this; omega) h.a h.b (by have := h.st; unfold reachBytes at this; omega) w' (hT.G g)
end Go.Proofs.YthmdjhfbhbheeaaGreatDoor
