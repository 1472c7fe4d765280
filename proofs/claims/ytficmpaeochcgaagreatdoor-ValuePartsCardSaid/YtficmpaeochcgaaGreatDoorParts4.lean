/- ToComplex: the program's answer and the document's; the law parts; plays at its kinds. -/
import Derived.Test.YtficmpaeochcgaaGreatDoorParts2
import Derived.Test.YtficmpaeochcgaaGreatDoorParts3
import Derived.Test.YtficmpaeochcgaaGreatDoorScriptOpen
namespace Go.Proofs.YtficmpaeochcgaaGreatDoor
open Go.RowKit Go.PlainAid Go.Lib Go.Shelf

/-- x is an item whose number is p + q i, with the code c. -/
def PNum (x : Value) (p q : Nat) (c : Int) : Prop :=
  ∃ (t f : Nat) (v : Value), x = .iface t v ∧ (∀ w, (method 351 t v "trellis/value.number").run Tryz.prog w = .ok (f, v) w) ∧ (∀ w, (callFunc f #[v]).run Tryz.prog w = .ok (.enter f #[v]) w) ∧
    ∀ w, Calls Tryz.prog f #[v] w fun e w' => e = .returned (.tuple #[.complex .f64 p q, .int .i64 c]) ∧ G w w'
set_option maxHeartbeats 400000 in
theorem pno_null  (w : World) : Calls Tryz.prog 236 #[.agg #[]] w fun e w' => e = .returned (.tuple #[.complex .f64 0 0, .int .i64 10]) ∧ G w w' := by
  go_enter Tryz.func236, Tryz.ntmps236
  go_wp2
  go_ret2
  exact ⟨rfl, by repeat (first | exact G.refl _ | assumption | refine G.alloc ?_ _ | refine G.drew ?_ | refine G.setCell ?_ (by simp) _ | refine G.trans ?_ (by assumption))⟩
theorem pn_null  : PNum (.iface 110 (.agg #[])) 0 0 10 := ⟨_, 236, _, rfl, fun w => by kernel_rfl, fun w => by simp [go_sem], pno_null⟩
set_option maxHeartbeats 400000 in
theorem pno_truth (m : Bool) (w : World) : Calls Tryz.prog 241 #[.bool m] w fun e w' => e = .returned (.tuple #[.complex .f64 0 0, .int .i64 10]) ∧ G w w' := by
  go_enter Tryz.func241, Tryz.ntmps241
  go_wp2
  go_ret2
  exact ⟨rfl, by repeat (first | exact G.refl _ | assumption | refine G.alloc ?_ _ | refine G.drew ?_ | refine G.setCell ?_ (by simp) _ | refine G.trans ?_ (by assumption))⟩
theorem pn_truth (m : Bool) : PNum (.iface 111 (.bool m)) 0 0 10 := ⟨_, 241, _, rfl, fun w => by kernel_rfl, fun w => by simp [go_sem], pno_truth m⟩
set_option maxHeartbeats 400000 in
theorem pno_str (m : ByteArray) (w : World) : Calls Tryz.prog 261 #[.string m] w fun e w' => e = .returned (.tuple #[.complex .f64 0 0, .int .i64 10]) ∧ G w w' := by
  go_enter Tryz.func261, Tryz.ntmps261
  go_wp2
  go_ret2
  exact ⟨rfl, by repeat (first | exact G.refl _ | assumption | refine G.alloc ?_ _ | refine G.drew ?_ | refine G.setCell ?_ (by simp) _ | refine G.trans ?_ (by assumption))⟩
theorem pn_str (m : ByteArray) : PNum (.iface 137 (.string m)) 0 0 10 := ⟨_, 261, _, rfl, fun w => by kernel_rfl, fun w => by simp [go_sem], pno_str m⟩
set_option maxHeartbeats 400000 in
theorem pno_node (m : Int) (w : World) : Calls Tryz.prog 269 #[.int .i64 m] w fun e w' => e = .returned (.tuple #[.complex .f64 0 0, .int .i64 10]) ∧ G w w' := by
  go_enter Tryz.func269, Tryz.ntmps269
  go_wp2
  go_ret2
  exact ⟨rfl, by repeat (first | exact G.refl _ | assumption | refine G.alloc ?_ _ | refine G.drew ?_ | refine G.setCell ?_ (by simp) _ | refine G.trans ?_ (by assumption))⟩
theorem pn_node (m : Int) : PNum (.iface 138 (.int .i64 m)) 0 0 10 := ⟨_, 269, _, rfl, fun w => by kernel_rfl, fun w => by simp [go_sem], pno_node m⟩
set_option maxHeartbeats 400000 in
theorem pno_edge (m : Int) (w : World) : Calls Tryz.prog 274 #[.int .i64 m] w fun e w' => e = .returned (.tuple #[.complex .f64 0 0, .int .i64 10]) ∧ G w w' := by
  go_enter Tryz.func274, Tryz.ntmps274
  go_wp2
  go_ret2
  exact ⟨rfl, by repeat (first | exact G.refl _ | assumption | refine G.alloc ?_ _ | refine G.drew ?_ | refine G.setCell ?_ (by simp) _ | refine G.trans ?_ (by assumption))⟩
theorem pn_edge (m : Int) : PNum (.iface 139 (.int .i64 m)) 0 0 10 := ⟨_, 274, _, rfl, fun w => by kernel_rfl, fun w => by simp [go_sem], pno_edge m⟩
set_option maxHeartbeats 400000 in
theorem pwh_no (n : Int) (h : partB n = false) (w : World) : Calls Tryz.prog 248 #[.int .i64 n] w fun e w' => e = .returned (.tuple #[.complex .f64 0 0, .int .i64 11]) ∧ w' = w := by
  have H : Hid _ := isPart_any n
  rw [h] at H
  clear h
  go_enter Tryz.func248, Tryz.ntmps248
  go_wp2_with fail
  refine (H.out _).mono ?_
  rintro e w1 ⟨rfl, rfl⟩
  go_wp2
  go_ret2
  exact ⟨rfl, rfl⟩
theorem pn_whole_no (n : Int) (h : partB n = false) : PNum (.iface 135 (.int .i64 n)) 0 0 11 := ⟨_, 248, _, rfl, m_num_whole n, fun w => by simp [go_sem], fun w => (pwh_no n h w).mono fun _ _ h => ⟨h.1, h.2 ▸ G.refl _⟩⟩
theorem pn_whole (n : Int) (h1 : -33554432 ≤ n) (h2 : n ≤ 33554432) : PNum (.iface 135 (.int .i64 n)) (fl n) 0 0 := ⟨_, 248, _, rfl, m_num_whole n, fun w => by simp [go_sem], fun w => (num_whole n h1 h2 w).mono fun _ _ h => ⟨h.1, h.2 ▸ G.refl _⟩⟩
theorem pn_cpx (x y : Nat) : PNum (.iface 136 (.complex .f64 x y)) x y 0 := ⟨_, 256, _, rfl, m_num_cpx x y, fun w => by simp [go_sem], fun w => (num_cpx x y w).mono fun _ _ h => ⟨h.1, h.2 ▸ G.refl _⟩⟩
set_option maxRecDepth 100000 in
set_option maxHeartbeats 1000000 in
theorem tc_no (k a b : Int) (s : ByteArray) (h : okV k a b s = false) (w : World) (hT : Tabs w) : Calls Tryz.prog 64 #[V k a b s] w fun e w' => e = .returned (.tuple #[.complex .f64 0 0, .int .i64 16]) ∧ G w w' := by
  have HI : Hid (∀ w, Tabs w → Calls Tryz.prog 28 #[V k a b s] w fun e w' => e = .returned (.tuple #[itemV k a b s, .bool (okV k a b s)]) ∧ G w w') := itemOf_any k a b s
  rw [h] at HI
  generalize itemV k a b s = x at HI
  clear h
  go_enter Tryz.func64, Tryz.ntmps64
  go_wp2_with fail
  refine (HI.out _ (by exact hT.G ((G.refl w).alloc _))).mono ?_
  rintro e w1 ⟨rfl, hb1⟩
  go_wp2
  go_ret2
  exact ⟨rfl, ((G.refl w).alloc _).trans hb1⟩
set_option maxRecDepth 100000 in
set_option maxHeartbeats 1000000 in
theorem tc_yes (k a b : Int) (s : ByteArray) (h : okV k a b s = true) (p q : Nat) (c : Int) (hn : PNum (itemV k a b s) p q c) (w : World) (hT : Tabs w) : Calls Tryz.prog 64 #[V k a b s] w fun e w' => e = .returned (.tuple #[.complex .f64 p q, .int .i64 c]) ∧ G w w' := by
  have HI : Hid (∀ w, Tabs w → Calls Tryz.prog 28 #[V k a b s] w fun e w' => e = .returned (.tuple #[itemV k a b s, .bool (okV k a b s)]) ∧ G w w') := itemOf_any k a b s
  rw [h] at HI
  generalize itemV k a b s = x at HI hn
  clear h
  obtain ⟨t, f, v, rfl, hm, hf, g1⟩ := hn
  have H1 : Hid _ := g1
  clear g1
  go_enter Tryz.func64, Tryz.ntmps64
  go_wp2_with fail
  refine (HI.out _ (by exact hT.G ((G.refl w).alloc _))).mono ?_
  rintro e w1 ⟨rfl, hb1⟩
  go_wp2_with fail
  refine (H1.out _).mono ?_
  rintro e w2 ⟨rfl, hb2⟩
  go_wp2
  go_ret2
  exact ⟨rfl, (((G.refl w).alloc _).trans hb1).trans hb2⟩
set_option maxRecDepth 100000 in
set_option maxHeartbeats 1000000 in
theorem rp_no (k a b : Int) (s : ByteArray) (hs : s.size ≤ 4611686018427387904) (h : okV k a b s = false) (w : World) : Calls Tryz.prog 65 #[V k a b s] w fun e w' => e = .returned (.tuple #[.int .i64 0, .int .i64 0, .int .i64 16]) ∧ G w w' := by
  have HV : Hid (∀ w, Calls Tryz.prog 29 #[V k a b s] w fun e w' => e = .returned (.bool (okV k a b s)) ∧ G w w') := rv_any k a b s hs
  rw [h] at HV
  clear h hs
  go_enter Tryz.func65, Tryz.ntmps65
  go_wp2_with fail
  refine (HV.out _).mono ?_
  rintro e w1 ⟨rfl, hb1⟩
  obtain ⟨hc1, hf1⟩ := hb1.rules
  go_wp2
  exact bodyPost_ret (v := .tuple #[.int .i64 0, .int .i64 0, .int .i64 16]) (by simp [results, Tryz.results65, go_sem]) rfl ⟨rfl, by repeat (first | exact G.refl _ | assumption | refine G.alloc ?_ _ | refine G.drew ?_ | refine G.setCell ?_ (by simp) _ | refine G.trans ?_ (by assumption))⟩
set_option maxRecDepth 100000 in
set_option maxHeartbeats 1000000 in
theorem rp_kind (k a b : Int) (s : ByteArray) (hs : s.size ≤ 4611686018427387904) (h : okV k a b s = true) (h2n : (k != 2) = true) (h3n : (k != 3) = true) (w : World) : Calls Tryz.prog 65 #[V k a b s] w fun e w' => e = .returned (.tuple #[.int .i64 0, .int .i64 0, .int .i64 10]) ∧ G w w' := by
  have HV : Hid (∀ w, Calls Tryz.prog 29 #[V k a b s] w fun e w' => e = .returned (.bool (okV k a b s)) ∧ G w w') := rv_any k a b s hs
  rw [h] at HV
  clear h hs
  go_enter Tryz.func65, Tryz.ntmps65
  go_wp2_with fail
  refine (HV.out _).mono ?_
  rintro e w1 ⟨rfl, hb1⟩
  obtain ⟨hc1, hf1⟩ := hb1.rules
  go_wp2
  exact bodyPost_ret (v := .tuple #[.int .i64 0, .int .i64 0, .int .i64 10]) (by simp [results, Tryz.results65, go_sem]) rfl ⟨rfl, by repeat (first | exact G.refl _ | assumption | refine G.alloc ?_ _ | refine G.drew ?_ | refine G.setCell ?_ (by simp) _ | refine G.trans ?_ (by assumption))⟩
set_option maxRecDepth 100000 in
set_option maxHeartbeats 1000000 in
theorem rp_r2 (a b : Int) (s : ByteArray) (hs : s.size ≤ 4611686018427387904) (h : okV 2 a b s = true) (hp : partB a = false) (w : World) : Calls Tryz.prog 65 #[V 2 a b s] w fun e w' => e = .returned (.tuple #[.int .i64 0, .int .i64 0, .int .i64 11]) ∧ G w w' := by
  have HV : Hid (∀ w, Calls Tryz.prog 29 #[V 2 a b s] w fun e w' => e = .returned (.bool (okV 2 a b s)) ∧ G w w') := rv_any 2 a b s hs
  rw [h] at HV
  have HP : Hid _ := part_any a
  rw [hp] at HP
  clear hp
  clear h hs
  go_enter Tryz.func65, Tryz.ntmps65
  go_wp2_with fail
  refine (HV.out _).mono ?_
  rintro e w1 ⟨rfl, hb1⟩
  obtain ⟨hc1, hf1⟩ := hb1.rules
  go_wp2_with fail
  refine (HP.out _).mono ?_
  rintro e w2 ⟨rfl, rfl⟩
  go_wp2
  exact bodyPost_ret (v := .tuple #[.int .i64 0, .int .i64 0, .int .i64 11]) (by simp [results, Tryz.results65, go_sem]) rfl ⟨rfl, by repeat (first | exact G.refl _ | assumption | refine G.alloc ?_ _ | refine G.drew ?_ | refine G.setCell ?_ (by simp) _ | refine G.trans ?_ (by assumption))⟩
set_option maxRecDepth 100000 in
set_option maxHeartbeats 1000000 in
theorem rp_ok2 (a b : Int) (s : ByteArray) (hs : s.size ≤ 4611686018427387904) (h : okV 2 a b s = true) (hp : partB a = true) (w : World) : Calls Tryz.prog 65 #[V 2 a b s] w fun e w' => e = .returned (.tuple #[.int .i64 a, .int .i64 b, .int .i64 0]) ∧ G w w' := by
  have HV : Hid (∀ w, Calls Tryz.prog 29 #[V 2 a b s] w fun e w' => e = .returned (.bool (okV 2 a b s)) ∧ G w w') := rv_any 2 a b s hs
  rw [h] at HV
  have HP : Hid _ := part_any a
  rw [hp] at HP
  clear hp
  clear h hs
  go_enter Tryz.func65, Tryz.ntmps65
  go_wp2_with fail
  refine (HV.out _).mono ?_
  rintro e w1 ⟨rfl, hb1⟩
  obtain ⟨hc1, hf1⟩ := hb1.rules
  go_wp2_with fail
  refine (HP.out _).mono ?_
  rintro e w2 ⟨rfl, rfl⟩
  go_wp2
  have hG : G w w2 := ((G.refl w).alloc _).trans hb1
  have hc : ∀ o, w2.cell? { block := w.heap.size, off := o } = [I 2, I a, I b, .string s][o]? := G.cells hb1 (by simp) (by simp)
  have hz : w.heap.size < w2.heap.size := by have := hb1.size; simp at this; omega
  clear hb1 hc1 hf1
  go_region_held3 (fun W => (∀ (o : Nat), W.cell? { block := w.heap.size, off := o } = [I 2, I a, I b, .string s][o]?) ∧ G w W ∧ w.heap.size < W.heap.size) ((first | exact keepD ‹_› ‹_› ‹_›)) (fail)
  rename_i hH
  obtain ⟨-, hG2, -⟩ := hH
  go_wp2
  exact bodyPost_ret (v := .tuple #[.int .i64 a, .int .i64 b, .int .i64 0]) (by simp [results, Tryz.results65, go_sem]) rfl ⟨rfl, by repeat (first | exact G.refl _ | assumption | refine G.alloc ?_ _ | refine G.drew ?_ | refine G.setCell ?_ (by simp) _ | refine G.trans ?_ (by assumption))⟩
set_option maxRecDepth 100000 in
set_option maxHeartbeats 1000000 in
theorem rp_ok3 (a b : Int) (s : ByteArray) (hs : s.size ≤ 4611686018427387904) (h : okV 3 a b s = true) (hp : partB a = true) (w : World) : Calls Tryz.prog 65 #[V 3 a b s] w fun e w' => e = .returned (.tuple #[.int .i64 a, .int .i64 b, .int .i64 0]) ∧ G w w' := by
  have HV : Hid (∀ w, Calls Tryz.prog 29 #[V 3 a b s] w fun e w' => e = .returned (.bool (okV 3 a b s)) ∧ G w w') := rv_any 3 a b s hs
  rw [h] at HV
  have HP : Hid _ := part_any a
  rw [hp] at HP
  clear hp
  clear h hs
  go_enter Tryz.func65, Tryz.ntmps65
  go_wp2_with fail
  refine (HV.out _).mono ?_
  rintro e w1 ⟨rfl, hb1⟩
  obtain ⟨hc1, hf1⟩ := hb1.rules
  go_wp2_with fail
  refine (HP.out _).mono ?_
  rintro e w2 ⟨rfl, rfl⟩
  go_wp2
  have hG : G w w2 := ((G.refl w).alloc _).trans hb1
  have hc : ∀ o, w2.cell? { block := w.heap.size, off := o } = [I 3, I a, I b, .string s][o]? := G.cells hb1 (by simp) (by simp)
  have hz : w.heap.size < w2.heap.size := by have := hb1.size; simp at this; omega
  clear hb1 hc1 hf1
  go_region_held3 (fun W => (∀ (o : Nat), W.cell? { block := w.heap.size, off := o } = [I 3, I a, I b, .string s][o]?) ∧ G w W ∧ w.heap.size < W.heap.size) ((first | exact keepD ‹_› ‹_› ‹_›)) (fail)
  rename_i hH
  obtain ⟨-, hG2, -⟩ := hH
  go_wp2
  exact bodyPost_ret (v := .tuple #[.int .i64 a, .int .i64 b, .int .i64 0]) (by simp [results, Tryz.results65, go_sem]) rfl ⟨rfl, by repeat (first | exact G.refl _ | assumption | refine G.alloc ?_ _ | refine G.drew ?_ | refine G.setCell ?_ (by simp) _ | refine G.trans ?_ (by assumption))⟩
theorem ord_fl (n : Int) (h : n.natAbs < 2 ^ 53) : (ordD (fl n) (fl n) == some .eq) = true := by
  have := (Fl.ofInt n h).order (Fl.ofInt n h)
  show (Ieee.double.order (fl n) (fl n) == some .eq) = true
  rw [this]
  simp [compare, compareOfLessAndEq]
theorem fl_0 : fl 0 = 0 := by decide +kernel
/-- ToComplex and Parts answer the same. -/
theorem tc_both (k a b : Int) (s : ByteArray) (hs : s.size ≤ 4611686018427387904) : ∃ (p q : Nat) (c n m : Int), (ordD p (fl n) == some .eq) = true ∧ (ordD q (fl m) == some .eq) = true ∧
    (∀ w, Tabs w → Calls Tryz.prog 64 #[V k a b s] w fun e w' => e = .returned (.tuple #[.complex .f64 p q, .int .i64 c]) ∧ G w w') ∧
    (∀ w, Calls Tryz.prog 65 #[V k a b s] w fun e w' => e = .returned (.tuple #[.int .i64 n, .int .i64 m, .int .i64 c]) ∧ G w w') := by
  have z : (ordD 0 (fl 0) == some .eq) = true := by have := ord_fl 0 (by decide); rw [fl_0] at this ⊢; exact this
  cases h : okV k a b s
  · exact ⟨0, 0, 16, 0, 0, z, z, tc_no k a b s h, rp_no k a b s hs h⟩
  by_cases h2 : k = 2
  · subst h2
    have hb : b = 0 := by simp [okV, Bool.and_eq_true] at h; exact h.1
    have hi : itemV 2 a b s = .iface 135 (.int .i64 a) := by simp [itemV, h]
    cases hp : partB a
    · exact ⟨0, 0, 11, 0, 0, z, z, tc_yes 2 a b s h 0 0 11 (hi ▸ pn_whole_no a hp), rp_r2 a b s hs h hp⟩
    · have pa := (partB_iff a).1 hp
      refine ⟨fl a, 0, 0, a, b, ord_fl a (by omega), by rw [hb]; exact z, tc_yes 2 a b s h (fl a) 0 0 (hi ▸ pn_whole a pa.1 pa.2), rp_ok2 a b s hs h hp⟩
  by_cases h3 : k = 3
  · subst h3
    have hpp : partB a = true ∧ partB b = true := by simp [okV, Bool.and_eq_true] at h; exact h.1
    have hi : itemV 3 a b s = .iface 136 (.complex .f64 (fl a) (fl b)) := by simp [itemV, h]
    have pa := (partB_iff a).1 hpp.1; have pb := (partB_iff b).1 hpp.2
    exact ⟨fl a, fl b, 0, a, b, ord_fl a (by omega), ord_fl b (by omega), tc_yes 3 a b s h (fl a) (fl b) 0 (hi ▸ pn_cpx _ _), rp_ok3 a b s hs h hpp.1⟩
  have hn : PNum (itemV k a b s) 0 0 10 := by
    have hk := okV_kind k a b s h
    have : k = 0 ∨ k = 1 ∨ k = 4 ∨ k = 5 ∨ k = 6 := by omega
    rcases this with rfl | rfl | rfl | rfl | rfl
    · rw [show itemV 0 a b s = .iface 110 (.agg #[]) by simp [itemV, h]]; exact pn_null
    · rw [show itemV 1 a b s = .iface 111 (.bool (a == 1)) by simp [itemV, h]]; exact pn_truth _
    · rw [show itemV 4 a b s = .iface 137 (.string s) by simp [itemV, h]]; exact pn_str _
    · rw [show itemV 5 a b s = .iface 138 (.int .i64 a) by simp [itemV, h]]; exact pn_node _
    · rw [show itemV 6 a b s = .iface 139 (.int .i64 a) by simp [itemV, h]]; exact pn_edge _
  exact ⟨0, 0, 10, 0, 0, z, z, tc_yes k a b s h 0 0 10 hn, rp_kind k a b s hs h (bne_iff_ne.2 h2) (bne_iff_ne.2 h3)⟩
end Go.Proofs.YtficmpaeochcgaaGreatDoor
