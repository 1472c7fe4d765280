/- itemOfKind at whatever fields; itemOf: an item just where the value is one. -/
import Derived.Test.YtifioikdhfhljaaGreatDoorItemAll
namespace Go.Proofs.YtifioikdhfhljaaGreatDoor
open Go.RowKit Go.Lib Go.Shelf

set_option maxRecDepth 100000 in
set_option maxHeartbeats 400000 in
theorem isPart_any (n : Int) (w : World) : Calls Tryz.prog 174 #[.int .i64 n] w fun e w' => e = .returned (.bool (partB n)) ∧ w' = w := by
  unfold partB
  by_cases h : -33554432 ≤ n
  · go_enter Tryz.func174, Tryz.ntmps174
    go_wp2
    all_goals (go_ret; exact ⟨ret_b (by simp [*]), rfl⟩)
  · have h' : decide (-33554432 ≤ n) = false := by simp; omega
    go_enter Tryz.func174, Tryz.ntmps174
    go_wp2
    all_goals (go_ret; exact ⟨ret_b (by simp [*]), rfl⟩)
set_option maxRecDepth 100000 in
set_option maxHeartbeats 1000000 in
theorem ik_0 (a b : Int) (s : ByteArray) (w : World) (_ : Tabs w) : Calls Tryz.prog 160 #[V 0 a b s] w fun e w' => e = .returned (.iface 215 (.agg #[])) ∧ G w w' := by
  go_enter Tryz.func160, Tryz.ntmps160
  go_wp2
  go_ret
  exact ⟨rfl, (G.refl _).alloc _⟩
set_option maxRecDepth 100000 in
set_option maxHeartbeats 1000000 in
theorem ik_1 (a b : Int) (s : ByteArray) (w : World) (_ : Tabs w) : Calls Tryz.prog 160 #[V 1 a b s] w fun e w' => e = .returned (.iface 216 (.bool (a == 1))) ∧ G w w' := by
  go_enter Tryz.func160, Tryz.ntmps160
  go_wp2
  go_ret
  exact ⟨rfl, (G.refl _).alloc _⟩
set_option maxRecDepth 100000 in
set_option maxHeartbeats 1000000 in
theorem ik_2 (a b : Int) (s : ByteArray) (w : World) (_ : Tabs w) : Calls Tryz.prog 160 #[V 2 a b s] w fun e w' => e = .returned (.iface 217 (.int .i64 a)) ∧ G w w' := by
  go_enter Tryz.func160, Tryz.ntmps160
  go_wp2
  go_ret
  exact ⟨rfl, (G.refl _).alloc _⟩
set_option maxRecDepth 100000 in
set_option maxHeartbeats 1000000 in
theorem ik_3 (a b : Int) (s : ByteArray) (hp : partB a = true) (hq : partB b = true) (w : World) (_ : Tabs w) : Calls Tryz.prog 160 #[V 3 a b s] w fun e w' => e = .returned (.iface 219 (.complex .f64 (fl a) (fl b))) ∧ G w w' := by
  have HA : Hid _ := isPart_any a; have HB : Hid _ := isPart_any b
  rw [hp] at HA
  rw [hq] at HB
  go_enter Tryz.func160, Tryz.ntmps160
  go_wp2_with fail
  refine (HA.out _).mono ?_
  rintro e w1 ⟨rfl, rfl⟩
  go_wp2_with fail
  refine (HB.out _).mono ?_
  rintro e w1 ⟨rfl, rfl⟩
  go_wp2
  go_ret
  exact ⟨rfl, (G.refl _).alloc _⟩
set_option maxRecDepth 100000 in
set_option maxHeartbeats 1000000 in
theorem ik_3a (a b : Int) (s : ByteArray) (hp : partB a = false) (w : World) (_ : Tabs w) : Calls Tryz.prog 160 #[V 3 a b s] w fun e w' => e = .returned (.nilIface) ∧ G w w' := by
  have HA : Hid _ := isPart_any a
  rw [hp] at HA
  go_enter Tryz.func160, Tryz.ntmps160
  go_wp2_with fail
  refine (HA.out _).mono ?_
  rintro e w1 ⟨rfl, rfl⟩
  go_wp2
  go_ret
  exact ⟨rfl, (G.refl _).alloc _⟩
set_option maxRecDepth 100000 in
set_option maxHeartbeats 1000000 in
theorem ik_3b (a b : Int) (s : ByteArray) (hp : partB a = true) (hq : partB b = false) (w : World) (_ : Tabs w) : Calls Tryz.prog 160 #[V 3 a b s] w fun e w' => e = .returned (.nilIface) ∧ G w w' := by
  have HA : Hid _ := isPart_any a; have HB : Hid _ := isPart_any b
  rw [hp] at HA
  rw [hq] at HB
  go_enter Tryz.func160, Tryz.ntmps160
  go_wp2_with fail
  refine (HA.out _).mono ?_
  rintro e w1 ⟨rfl, rfl⟩
  go_wp2_with fail
  refine (HB.out _).mono ?_
  rintro e w1 ⟨rfl, rfl⟩
  go_wp2
  go_ret
  exact ⟨rfl, (G.refl _).alloc _⟩
set_option maxRecDepth 100000 in
set_option maxHeartbeats 1000000 in
theorem ik_4 (a b : Int) (s : ByteArray) (hs : s.size ≤ 32) (hv : validD s.data.toList = true) (w : World) (hT : Tabs w) : Calls Tryz.prog 160 #[V 4 a b s] w fun e w' => e = .returned (.iface 221 (.string s)) ∧ G w w' := by
  have HV : Hid (∀ w, Tabs w → Calls Tryz.prog 175 #[.string s] w fun e w' => e = .returned (.bool (validD s.data.toList)) ∧ G w w') := fun w h => valid_str s (by omega) w h
  rw [hv] at HV
  have h4 : (s.size : Int) ≤ 32 := by omega
  go_enter Tryz.func160, Tryz.ntmps160
  go_wp2_with fail
  refine (HV.out _ (by exact hT.G ((G.refl w).alloc _))).mono ?_
  rintro e w1 ⟨rfl, hb1⟩
  have hc' := G.cells hb1 (b := w.heap.size) (f := fun o => [Value.int IntKind.i64 4, Value.int IntKind.i64 a, Value.int IntKind.i64 b, Value.string s][o]?) (by simp) (by simp)
  go_wp2
  go_ret
  exact ⟨rfl, ((G.refl w).alloc _).trans hb1⟩
set_option maxRecDepth 100000 in
set_option maxHeartbeats 1000000 in
theorem ik_4a (a b : Int) (s : ByteArray) (hs : s.size ≤ 32) (hv : validD s.data.toList = false) (w : World) (hT : Tabs w) : Calls Tryz.prog 160 #[V 4 a b s] w fun e w' => e = .returned (.nilIface) ∧ G w w' := by
  have HV : Hid (∀ w, Tabs w → Calls Tryz.prog 175 #[.string s] w fun e w' => e = .returned (.bool (validD s.data.toList)) ∧ G w w') := fun w h => valid_str s (by omega) w h
  rw [hv] at HV
  have h4 : (s.size : Int) ≤ 32 := by omega
  go_enter Tryz.func160, Tryz.ntmps160
  go_wp2_with fail
  refine (HV.out _ (by exact hT.G ((G.refl w).alloc _))).mono ?_
  rintro e w1 ⟨rfl, hb1⟩
  have hc' := G.cells hb1 (b := w.heap.size) (f := fun o => [Value.int IntKind.i64 4, Value.int IntKind.i64 a, Value.int IntKind.i64 b, Value.string s][o]?) (by simp) (by simp)
  go_wp2
  go_ret
  exact ⟨rfl, ((G.refl w).alloc _).trans hb1⟩
set_option maxRecDepth 100000 in
set_option maxHeartbeats 1000000 in
theorem ik_4b (a b : Int) (s : ByteArray) (hs : ¬ s.size ≤ 32) (w : World) (_ : Tabs w) : Calls Tryz.prog 160 #[V 4 a b s] w fun e w' => e = .returned (.nilIface) ∧ G w w' := by
  have h4 : ¬ (s.size : Int) ≤ 32 := by omega
  go_enter Tryz.func160, Tryz.ntmps160
  go_wp2
  go_ret
  exact ⟨rfl, (G.refl _).alloc _⟩
set_option maxRecDepth 100000 in
set_option maxHeartbeats 1000000 in
theorem ik_5 (a b : Int) (s : ByteArray) (h : (a != 0) = true) (w : World) (_ : Tabs w) : Calls Tryz.prog 160 #[V 5 a b s] w fun e w' => e = .returned (.iface 222 (.int .i64 a)) ∧ G w w' := by
  go_enter Tryz.func160, Tryz.ntmps160
  go_wp2
  go_ret
  exact ⟨rfl, (G.refl _).alloc _⟩
set_option maxRecDepth 100000 in
set_option maxHeartbeats 1000000 in
theorem ik_5a (a b : Int) (s : ByteArray) (h : (a != 0) = false) (w : World) (_ : Tabs w) : Calls Tryz.prog 160 #[V 5 a b s] w fun e w' => e = .returned (.nilIface) ∧ G w w' := by
  go_enter Tryz.func160, Tryz.ntmps160
  go_wp2
  go_ret
  exact ⟨rfl, (G.refl _).alloc _⟩
set_option maxRecDepth 100000 in
set_option maxHeartbeats 1000000 in
theorem ik_6 (a b : Int) (s : ByteArray) (h : (a != 0) = true) (w : World) (_ : Tabs w) : Calls Tryz.prog 160 #[V 6 a b s] w fun e w' => e = .returned (.iface 223 (.int .i64 a)) ∧ G w w' := by
  go_enter Tryz.func160, Tryz.ntmps160
  go_wp2
  go_ret
  exact ⟨rfl, (G.refl _).alloc _⟩
set_option maxRecDepth 100000 in
set_option maxHeartbeats 1000000 in
theorem ik_6a (a b : Int) (s : ByteArray) (h : (a != 0) = false) (w : World) (_ : Tabs w) : Calls Tryz.prog 160 #[V 6 a b s] w fun e w' => e = .returned (.nilIface) ∧ G w w' := by
  go_enter Tryz.func160, Tryz.ntmps160
  go_wp2
  go_ret
  exact ⟨rfl, (G.refl _).alloc _⟩
set_option maxRecDepth 100000 in
set_option maxHeartbeats 1000000 in
theorem ik_no (k a b : Int) (s : ByteArray) (hk : k < 0 ∨ 6 < k) (w : World) (_ : Tabs w) : Calls Tryz.prog 160 #[V k a b s] w fun e w' => e = .returned (.nilIface) ∧ G w w' := by
  have n0 : (k == 0) = false := by simp; omega
  have n1 : (k == 1) = false := by simp; omega
  have n2 : (k == 2) = false := by simp; omega
  have n3 : (k == 3) = false := by simp; omega
  have n4 : (k == 4) = false := by simp; omega
  have n5 : (k == 5) = false := by simp; omega
  have n6 : (k == 6) = false := by simp; omega
  clear hk
  go_enter Tryz.func160, Tryz.ntmps160
  go_wp2
  go_ret
  exact ⟨rfl, (G.refl _).alloc _⟩
end Go.Proofs.YtifioikdhfhljaaGreatDoor
