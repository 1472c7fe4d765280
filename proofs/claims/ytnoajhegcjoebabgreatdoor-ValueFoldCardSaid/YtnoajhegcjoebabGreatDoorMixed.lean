/- arithmetic over items: numbers taken as complex, strings joined, what is refused. -/
import Derived.Test.YtnoajhegcjoebabGreatDoorBinE
import Derived.Test.YtnoajhegcjoebabGreatDoorCArith
namespace Go.Proofs.YtnoajhegcjoebabGreatDoor
open Go.RowKit Go.Lib Go.Shelf

/-- x is an item whose number is p + q i, with the code c. -/
def INum (x : Value) (p q : Nat) (c : Int) : Prop :=
  ∃ (t f : Nat) (v : Value), x = .iface t v ∧ (∀ w, (method 342 t v "trellis/value.number").run Tryz.prog w = .ok (f, v) w) ∧ (∀ w, (callFunc f #[v]).run Tryz.prog w = .ok (.enter f #[v]) w) ∧
    ∀ w, Calls Tryz.prog f #[v] w fun e w' => e = .returned (.tuple #[.complex .f64 p q, .int .i64 c]) ∧ w' = w
set_option maxHeartbeats 400000 in
theorem nno_truth (m : Bool) (w : World) : Calls Tryz.prog 238 #[.bool m] w fun e w' => e = .returned (.tuple #[.complex .f64 0 0, .int .i64 10]) ∧ w' = w := by
  go_enter Tryz.func238, Tryz.ntmps238
  go_wp2
  go_ret2
  exact ⟨rfl, rfl⟩
theorem in_truth (m : Bool) : INum (.iface 101 (.bool m)) 0 0 10 := ⟨_, 238, _, rfl, fun w => by kernel_rfl, fun w => by simp [go_sem], nno_truth m⟩
set_option maxHeartbeats 400000 in
theorem nno_str (m : ByteArray) (w : World) : Calls Tryz.prog 258 #[.string m] w fun e w' => e = .returned (.tuple #[.complex .f64 0 0, .int .i64 10]) ∧ w' = w := by
  go_enter Tryz.func258, Tryz.ntmps258
  go_wp2
  go_ret2
  exact ⟨rfl, rfl⟩
theorem in_str (m : ByteArray) : INum (.iface 128 (.string m)) 0 0 10 := ⟨_, 258, _, rfl, fun w => by kernel_rfl, fun w => by simp [go_sem], nno_str m⟩
set_option maxHeartbeats 400000 in
theorem nno_node (m : Int) (w : World) : Calls Tryz.prog 266 #[.int .i64 m] w fun e w' => e = .returned (.tuple #[.complex .f64 0 0, .int .i64 10]) ∧ w' = w := by
  go_enter Tryz.func266, Tryz.ntmps266
  go_wp2
  go_ret2
  exact ⟨rfl, rfl⟩
theorem in_node (m : Int) : INum (.iface 129 (.int .i64 m)) 0 0 10 := ⟨_, 266, _, rfl, fun w => by kernel_rfl, fun w => by simp [go_sem], nno_node m⟩
set_option maxHeartbeats 400000 in
theorem nno_edge (m : Int) (w : World) : Calls Tryz.prog 271 #[.int .i64 m] w fun e w' => e = .returned (.tuple #[.complex .f64 0 0, .int .i64 10]) ∧ w' = w := by
  go_enter Tryz.func271, Tryz.ntmps271
  go_wp2
  go_ret2
  exact ⟨rfl, rfl⟩
theorem in_edge (m : Int) : INum (.iface 130 (.int .i64 m)) 0 0 10 := ⟨_, 271, _, rfl, fun w => by kernel_rfl, fun w => by simp [go_sem], nno_edge m⟩
set_option maxHeartbeats 400000 in
theorem nwh_no (n : Int) (h : partB n = false) (w : World) : Calls Tryz.prog 245 #[.int .i64 n] w fun e w' => e = .returned (.tuple #[.complex .f64 0 0, .int .i64 11]) ∧ w' = w := by
  have H : Hid _ := ipart n
  rw [h] at H
  clear h
  go_enter Tryz.func245, Tryz.ntmps245
  go_wp2_with fail
  refine (H.out _).mono ?_
  rintro e w1 ⟨rfl, rfl⟩
  go_wp2
  go_ret2
  exact ⟨rfl, rfl⟩
theorem in_whole_no (n : Int) (h : partB n = false) : INum (.iface 126 (.int .i64 n)) 0 0 11 := ⟨_, 245, _, rfl, m_num_whole n, fun w => by simp [go_sem], nwh_no n h⟩
theorem in_whole (n : Int) (h1 : -33554432 ≤ n) (h2 : n ≤ 33554432) : INum (.iface 126 (.int .i64 n)) (fl n) 0 0 := ⟨_, 245, _, rfl, m_num_whole n, fun w => by simp [go_sem], num_whole n h1 h2⟩
theorem in_cpx (x y : Nat) : INum (.iface 127 (.complex .f64 x y)) x y 0 := ⟨_, 253, _, rfl, m_num_cpx x y, fun w => by simp [go_sem], num_cpx x y⟩
theorem in_no (k a b : Int) (s : ByteArray) (hok : okV k a b s = true) (h0 : k ≠ 0) (h2 : k ≠ 2) (h3 : k ≠ 3) : INum (itemV k a b s) 0 0 10 := by
  have hk := okV_kind k a b s hok
  have : k = 1 ∨ k = 4 ∨ k = 5 ∨ k = 6 := by omega
  rcases this with rfl | rfl | rfl | rfl
  · rw [itV_1 hok]; exact in_truth _
  · rw [itV_4 hok]; exact in_str _
  · rw [itV_5 hok]; exact in_node _
  · rw [itV_6 hok]; exact in_edge _
set_option maxRecDepth 100000 in
set_option maxHeartbeats 1000000 in
theorem mx_0_0 (op : Int) (x y : Value) (p q p' q' : Nat) (hx : INum x p q 0) (hy : INum y p' q' 0) (r : Value) (c : Int) (h : ∀ w, Calls Tryz.prog 158 #[.int .i64 op, .complex .f64 p q, .complex .f64 p' q'] w fun e w' => e = .returned (.tuple #[r, .int .i64 c]) ∧ G w w') (w : World) : Calls Tryz.prog 123 #[.int .i64 op, x, y] w fun e w' => e = .returned (.tuple #[r, .int .i64 c]) ∧ G w w' := by
  obtain ⟨t, f, v, rfl, hm, hf, g1⟩ := hx
  obtain ⟨t', f', v', rfl, hm', hf', g2⟩ := hy
  have H1 : Hid _ := g1
  have H2 : Hid _ := g2
  have H3 : Hid _ := h
  clear g1 g2 h
  go_enter Tryz.func123, Tryz.ntmps123
  go_wp2_with fail
  refine (H1.out _).mono ?_
  rintro e w1 ⟨rfl, rfl⟩
  go_wp2_with fail
  refine (H2.out _).mono ?_
  rintro e w1 ⟨rfl, rfl⟩
  go_wp2_with fail
  refine (H3.out _).mono ?_
  rintro e w3 ⟨rfl, hb3⟩
  go_wp2
  go_ret2
  exact ⟨rfl, hb3⟩
set_option maxRecDepth 100000 in
set_option maxHeartbeats 1000000 in
theorem mx_0_10 (op : Int) (x y : Value) (p q p' q' : Nat) (hx : INum x p q 0) (hy : INum y p' q' 10)  (w : World) : Calls Tryz.prog 123 #[.int .i64 op, x, y] w fun e w' => e = .returned (.tuple #[.nilIface, .int .i64 10]) ∧ G w w' := by
  obtain ⟨t, f, v, rfl, hm, hf, g1⟩ := hx
  obtain ⟨t', f', v', rfl, hm', hf', g2⟩ := hy
  have H1 : Hid _ := g1
  have H2 : Hid _ := g2
  
  clear g1 g2
  go_enter Tryz.func123, Tryz.ntmps123
  go_wp2_with fail
  refine (H1.out _).mono ?_
  rintro e w1 ⟨rfl, rfl⟩
  go_wp2_with fail
  refine (H2.out _).mono ?_
  rintro e w1 ⟨rfl, rfl⟩
  go_wp2
  go_ret2
  exact ⟨rfl, G.refl _⟩
set_option maxRecDepth 100000 in
set_option maxHeartbeats 1000000 in
theorem mx_0_11 (op : Int) (x y : Value) (p q p' q' : Nat) (hx : INum x p q 0) (hy : INum y p' q' 11)  (w : World) : Calls Tryz.prog 123 #[.int .i64 op, x, y] w fun e w' => e = .returned (.tuple #[.nilIface, .int .i64 11]) ∧ G w w' := by
  obtain ⟨t, f, v, rfl, hm, hf, g1⟩ := hx
  obtain ⟨t', f', v', rfl, hm', hf', g2⟩ := hy
  have H1 : Hid _ := g1
  have H2 : Hid _ := g2
  
  clear g1 g2
  go_enter Tryz.func123, Tryz.ntmps123
  go_wp2_with fail
  refine (H1.out _).mono ?_
  rintro e w1 ⟨rfl, rfl⟩
  go_wp2_with fail
  refine (H2.out _).mono ?_
  rintro e w1 ⟨rfl, rfl⟩
  go_wp2
  go_ret2
  exact ⟨rfl, G.refl _⟩
set_option maxRecDepth 100000 in
set_option maxHeartbeats 1000000 in
theorem mx_10_0 (op : Int) (x y : Value) (p q p' q' : Nat) (hx : INum x p q 10) (hy : INum y p' q' 0)  (w : World) : Calls Tryz.prog 123 #[.int .i64 op, x, y] w fun e w' => e = .returned (.tuple #[.nilIface, .int .i64 10]) ∧ G w w' := by
  obtain ⟨t, f, v, rfl, hm, hf, g1⟩ := hx
  obtain ⟨t', f', v', rfl, hm', hf', g2⟩ := hy
  have H1 : Hid _ := g1
  have H2 : Hid _ := g2
  
  clear g1 g2
  go_enter Tryz.func123, Tryz.ntmps123
  go_wp2_with fail
  refine (H1.out _).mono ?_
  rintro e w1 ⟨rfl, rfl⟩
  go_wp2_with fail
  refine (H2.out _).mono ?_
  rintro e w1 ⟨rfl, rfl⟩
  go_wp2
  go_ret2
  exact ⟨rfl, G.refl _⟩
set_option maxRecDepth 100000 in
set_option maxHeartbeats 1000000 in
theorem mx_10_10 (op : Int) (x y : Value) (p q p' q' : Nat) (hx : INum x p q 10) (hy : INum y p' q' 10)  (w : World) : Calls Tryz.prog 123 #[.int .i64 op, x, y] w fun e w' => e = .returned (.tuple #[.nilIface, .int .i64 10]) ∧ G w w' := by
  obtain ⟨t, f, v, rfl, hm, hf, g1⟩ := hx
  obtain ⟨t', f', v', rfl, hm', hf', g2⟩ := hy
  have H1 : Hid _ := g1
  have H2 : Hid _ := g2
  
  clear g1 g2
  go_enter Tryz.func123, Tryz.ntmps123
  go_wp2_with fail
  refine (H1.out _).mono ?_
  rintro e w1 ⟨rfl, rfl⟩
  go_wp2_with fail
  refine (H2.out _).mono ?_
  rintro e w1 ⟨rfl, rfl⟩
  go_wp2
  go_ret2
  exact ⟨rfl, G.refl _⟩
set_option maxRecDepth 100000 in
set_option maxHeartbeats 1000000 in
theorem mx_10_11 (op : Int) (x y : Value) (p q p' q' : Nat) (hx : INum x p q 10) (hy : INum y p' q' 11)  (w : World) : Calls Tryz.prog 123 #[.int .i64 op, x, y] w fun e w' => e = .returned (.tuple #[.nilIface, .int .i64 10]) ∧ G w w' := by
  obtain ⟨t, f, v, rfl, hm, hf, g1⟩ := hx
  obtain ⟨t', f', v', rfl, hm', hf', g2⟩ := hy
  have H1 : Hid _ := g1
  have H2 : Hid _ := g2
  
  clear g1 g2
  go_enter Tryz.func123, Tryz.ntmps123
  go_wp2_with fail
  refine (H1.out _).mono ?_
  rintro e w1 ⟨rfl, rfl⟩
  go_wp2_with fail
  refine (H2.out _).mono ?_
  rintro e w1 ⟨rfl, rfl⟩
  go_wp2
  go_ret2
  exact ⟨rfl, G.refl _⟩
set_option maxRecDepth 100000 in
set_option maxHeartbeats 1000000 in
theorem mx_11_0 (op : Int) (x y : Value) (p q p' q' : Nat) (hx : INum x p q 11) (hy : INum y p' q' 0)  (w : World) : Calls Tryz.prog 123 #[.int .i64 op, x, y] w fun e w' => e = .returned (.tuple #[.nilIface, .int .i64 11]) ∧ G w w' := by
  obtain ⟨t, f, v, rfl, hm, hf, g1⟩ := hx
  obtain ⟨t', f', v', rfl, hm', hf', g2⟩ := hy
  have H1 : Hid _ := g1
  have H2 : Hid _ := g2
  
  clear g1 g2
  go_enter Tryz.func123, Tryz.ntmps123
  go_wp2_with fail
  refine (H1.out _).mono ?_
  rintro e w1 ⟨rfl, rfl⟩
  go_wp2_with fail
  refine (H2.out _).mono ?_
  rintro e w1 ⟨rfl, rfl⟩
  go_wp2
  go_ret2
  exact ⟨rfl, G.refl _⟩
set_option maxRecDepth 100000 in
set_option maxHeartbeats 1000000 in
theorem mx_11_10 (op : Int) (x y : Value) (p q p' q' : Nat) (hx : INum x p q 11) (hy : INum y p' q' 10)  (w : World) : Calls Tryz.prog 123 #[.int .i64 op, x, y] w fun e w' => e = .returned (.tuple #[.nilIface, .int .i64 10]) ∧ G w w' := by
  obtain ⟨t, f, v, rfl, hm, hf, g1⟩ := hx
  obtain ⟨t', f', v', rfl, hm', hf', g2⟩ := hy
  have H1 : Hid _ := g1
  have H2 : Hid _ := g2
  
  clear g1 g2
  go_enter Tryz.func123, Tryz.ntmps123
  go_wp2_with fail
  refine (H1.out _).mono ?_
  rintro e w1 ⟨rfl, rfl⟩
  go_wp2_with fail
  refine (H2.out _).mono ?_
  rintro e w1 ⟨rfl, rfl⟩
  go_wp2
  go_ret2
  exact ⟨rfl, G.refl _⟩
set_option maxRecDepth 100000 in
set_option maxHeartbeats 1000000 in
theorem mx_11_11 (op : Int) (x y : Value) (p q p' q' : Nat) (hx : INum x p q 11) (hy : INum y p' q' 11)  (w : World) : Calls Tryz.prog 123 #[.int .i64 op, x, y] w fun e w' => e = .returned (.tuple #[.nilIface, .int .i64 11]) ∧ G w w' := by
  obtain ⟨t, f, v, rfl, hm, hf, g1⟩ := hx
  obtain ⟨t', f', v', rfl, hm', hf', g2⟩ := hy
  have H1 : Hid _ := g1
  have H2 : Hid _ := g2
  
  clear g1 g2
  go_enter Tryz.func123, Tryz.ntmps123
  go_wp2_with fail
  refine (H1.out _).mono ?_
  rintro e w1 ⟨rfl, rfl⟩
  go_wp2_with fail
  refine (H2.out _).mono ?_
  rintro e w1 ⟨rfl, rfl⟩
  go_wp2
  go_ret2
  exact ⟨rfl, G.refl _⟩
set_option maxRecDepth 100000 in
set_option maxHeartbeats 1000000 in
theorem ar_mx (op : Int) (x y r : Value) (c : Int) (h1 : ∀ w, (Instr.typeAssert x 43 128 true).run Tryz.prog w = .ok (.tuple #[.string E0, .bool false]) w) (h2 : ∀ w, (Instr.typeAssert x 43 126 true).run Tryz.prog w = .ok (.tuple #[.int .i64 0, .bool false]) w) (h : ∀ w, Calls Tryz.prog 123 #[.int .i64 op, x, y] w fun e w' => e = .returned (.tuple #[r, .int .i64 c]) ∧ G w w') (w : World) : Calls Tryz.prog 87 #[.int .i64 op, x, y] w fun e w' => e = .returned (.tuple #[r, .int .i64 c]) ∧ G w w' := by
  have H : Hid _ := h
  clear h
  go_enter Tryz.func87, Tryz.ntmps87
  go_wp2_with fail
  refine (H.out _).mono ?_
  rintro e w1 ⟨rfl, hb1⟩
  go_wp2
  go_ret2
  exact ⟨rfl, hb1⟩
set_option maxRecDepth 100000 in
set_option maxHeartbeats 1000000 in
theorem ar_wx (op n : Int) (y r : Value) (c : Int) (h2 : ∀ w, (Instr.typeAssert y 43 126 true).run Tryz.prog w = .ok (.tuple #[.int .i64 0, .bool false]) w) (h : ∀ w, Calls Tryz.prog 123 #[.int .i64 op, .iface 126 (.int .i64 n), y] w fun e w' => e = .returned (.tuple #[r, .int .i64 c]) ∧ G w w') (w : World) : Calls Tryz.prog 87 #[.int .i64 op, .iface 126 (.int .i64 n), y] w fun e w' => e = .returned (.tuple #[r, .int .i64 c]) ∧ G w w' := by
  have a1 := as_whole_str (.int .i64 n)
  have a2 := as_whole_whole (.int .i64 n)
  generalize Value.iface 126 (.int .i64 n) = x at a1 a2 h ⊢
  have H : Hid _ := h
  clear h
  go_enter Tryz.func87, Tryz.ntmps87
  go_wp2_with fail
  refine (H.out _).mono ?_
  rintro e w1 ⟨rfl, hb1⟩
  go_wp2
  go_ret2
  exact ⟨rfl, hb1⟩
set_option maxRecDepth 100000 in
set_option maxHeartbeats 1000000 in
theorem ar_s1 (op : Int) (s : ByteArray) (y : Value) (h2 : ∀ w, (Instr.typeAssert y 43 128 true).run Tryz.prog w = .ok (.tuple #[.string E0, .bool false]) w) (w : World) : Calls Tryz.prog 87 #[.int .i64 op, .iface 128 (.string s), y] w fun e w' => e = .returned (.tuple #[.nilIface, .int .i64 10]) ∧ G w w' := by
  have a1 := as_str_str (.string s)
  go_enter Tryz.func87, Tryz.ntmps87
  go_wp2
  go_ret2
  exact ⟨rfl, G.refl _⟩
set_option maxRecDepth 100000 in
set_option maxHeartbeats 1000000 in
theorem ar_s2 (op : Int) (s s' : ByteArray) (h : (op == 1) = false) (w : World) : Calls Tryz.prog 87 #[.int .i64 op, .iface 128 (.string s), .iface 128 (.string s')] w fun e w' => e = .returned (.tuple #[.nilIface, .int .i64 10]) ∧ G w w' := by
  have a1 := as_str_str (.string s)
  have a2 := as_str_str (.string s')
  go_enter Tryz.func87, Tryz.ntmps87
  go_wp2
  go_ret2
  exact ⟨rfl, G.refl _⟩
set_option maxRecDepth 100000 in
set_option maxHeartbeats 1000000 in
theorem jn_no (s s' : ByteArray) (h1 : s.size ≤ 4611686018427387903) (h2 : s'.size ≤ 4611686018427387903) (h : 32 < s.size + s'.size) (w : World) : Calls Tryz.prog 121 #[.string s, .string s'] w fun e w' => e = .returned (.tuple #[.nilIface, .int .i64 11]) ∧ G w w' := by
  have h' : (32 : Int) < (s.size : Int) + (s'.size : Int) := by omega
  go_enter Tryz.func121, Tryz.ntmps121
  go_wp2
  go_ret2
  exact ⟨rfl, G.refl _⟩
set_option maxRecDepth 100000 in
set_option maxHeartbeats 1000000 in
theorem jn_ok (s s' : ByteArray) (h : s.size + s'.size ≤ 32) (w : World) : Calls Tryz.prog 121 #[.string s, .string s'] w fun e w' => e = .returned (.tuple #[.iface 128 (.string (s ++ s')), .int .i64 0]) ∧ G w w' := by
  have h' : ¬ (32 : Int) < (s.size : Int) + (s'.size : Int) := by omega
  go_enter Tryz.func121, Tryz.ntmps121
  go_wp2
  go_ret2
  exact ⟨rfl, G.refl _⟩
set_option maxRecDepth 100000 in
set_option maxHeartbeats 1000000 in
theorem ar_jn (s s' : ByteArray) (r : Value) (c : Int) (h : ∀ w, Calls Tryz.prog 121 #[.string s, .string s'] w fun e w' => e = .returned (.tuple #[r, .int .i64 c]) ∧ G w w') (w : World) : Calls Tryz.prog 87 #[.int .i64 1, .iface 128 (.string s), .iface 128 (.string s')] w fun e w' => e = .returned (.tuple #[r, .int .i64 c]) ∧ G w w' := by
  have a1 := as_str_str (.string s)
  have a2 := as_str_str (.string s')
  have H : Hid _ := h
  clear h
  go_enter Tryz.func87, Tryz.ntmps87
  go_wp2_with fail
  refine (H.out _).mono ?_
  rintro e w1 ⟨rfl, hb1⟩
  go_wp2
  go_ret2
  exact ⟨rfl, hb1⟩
end Go.Proofs.YtnoajhegcjoebabGreatDoor
