/- value.Encode. -/
import Derived.Test.YtdiikofgilplkaaDoorEnc4
import Derived.Test.YtdiikofgilplkaaDoorScriptOpen
namespace Go.Proofs.YtdiikofgilplkaaDoor
open Go.RowKit Go.Shelf Go.PlainAid Go.Lib

theorem okV_kindE {k a b : Int} {s : ByteArray} (h : okV k a b s = true) : k = 0 ∨ k = 1 ∨ k = 2 ∨ k = 3 ∨ k = 4 ∨ k = 5 ∨ k = 6 := by
  have hk := okV_kind k a b s h
  omega
theorem icode_any (k a b : Int) (s : ByteArray) (h : okV k a b s = true) (ha : R64 a) : ICode (itemV k a b s) (encV k a b s) := by
  have hk := okV_kind k a b s h
  have : k = 0 ∨ k = 1 ∨ k = 2 ∨ k = 3 ∨ k = 4 ∨ k = 5 ∨ k = 6 := by omega
  rcases this with rfl | rfl | rfl | rfl | rfl | rfl | rfl
  · rw [show itemV 0 a b s = .iface 72 (.agg #[]) by simp [itemV, h]]
    exact ⟨_, 68, _, rfl, fun w => by kernel_rfl, fun w => by simp [go_sem], code_null⟩
  · rw [show itemV 1 a b s = .iface 74 (.bool (a == 1)) by simp [itemV, h]]
    have ha' : a = 0 ∨ a = 1 := by simp [okV, Bool.and_eq_true] at h; exact h.1.1
    rcases ha' with rfl | rfl
    · exact ⟨_, 73, _, rfl, fun w => by kernel_rfl, fun w => by simp [go_sem], code_false⟩
    · exact ⟨_, 73, _, rfl, fun w => by kernel_rfl, fun w => by simp [go_sem], code_true⟩
  · rw [show itemV 2 a b s = .iface 75 (.int .i64 a) by simp [itemV, h]]
    exact ⟨_, 78, _, rfl, fun w => by kernel_rfl, fun w => by simp [go_sem], code_whole a ha.1 ha.2⟩
  · rw [show itemV 3 a b s = .iface 77 (.complex .f64 (fl a) (fl b)) by simp [itemV, h]]
    have hpp : partB a = true ∧ partB b = true := by simp [okV, Bool.and_eq_true] at h; exact h.1
    have pa := (partB_iff a).1 hpp.1; have pb := (partB_iff b).1 hpp.2
    exact ⟨_, 85, _, rfl, fun w => by kernel_rfl, fun w => by simp [go_sem], code_cpx a b pa.1 pa.2 pb.1 pb.2⟩
  · rw [show itemV 4 a b s = .iface 78 (.string s) by simp [itemV, h]]
    have hs : s.size ≤ 32 := by simp [okV, Bool.and_eq_true] at h; exact h.1.2
    exact ⟨_, 91, _, rfl, fun w => by kernel_rfl, fun w => by simp [go_sem], code_str s hs⟩
  · rw [show itemV 5 a b s = .iface 91 (.int .i64 a) by simp [itemV, h]]
    exact ⟨_, 96, _, rfl, fun w => by kernel_rfl, fun w => by simp [go_sem], code_node a ha.1 ha.2⟩
  · rw [show itemV 6 a b s = .iface 92 (.int .i64 a) by simp [itemV, h]]
    exact ⟨_, 101, _, rfl, fun w => by kernel_rfl, fun w => by simp [go_sem], code_edge a ha.1 ha.2⟩
set_option maxRecDepth 100000 in
set_option maxHeartbeats 2000000 in
theorem enc_no (k a b : Int) (s : ByteArray) (h : okV k a b s = false) (w : World) (hT : Tabs w) : Calls Tryd.prog 16 #[V k a b s] w fun e w' => e = .returned (.tuple #[.slice none 0 0, .int .i64 16]) ∧ G w w' := by
  have HI : Hid (∀ w, Tabs w → Calls Tryd.prog 21 #[V k a b s] w fun e w' => e = .returned (.tuple #[itemV k a b s, .bool (okV k a b s)]) ∧ G w w') := itemOf_any k a b s
  rw [h] at HI
  generalize itemV k a b s = x at HI
  clear h
  go_enter Tryd.func16, Tryd.ntmps16
  go_wp2_with fail
  refine (HI.out _ (by exact hT.G ((G.refl w).alloc _))).mono ?_
  rintro e w1 ⟨rfl, hb1⟩
  go_wp2
  go_ret2
  exact ⟨rfl, ((G.refl w).alloc _).trans hb1⟩
set_option maxRecDepth 100000 in
set_option maxHeartbeats 2000000 in
theorem enc_yes (k a b : Int) (s : ByteArray) (h : okV k a b s = true) (ys : List Nat) (hn : ICode (itemV k a b s) ys) (w : World) (hT : Tabs w) :
    Calls Tryd.prog 16 #[V k a b s] w fun e w' => ∃ x', e = .returned (.tuple #[x', .int .i64 0]) ∧ Bw w w' x' ys := by
  have HI : Hid (∀ w, Tabs w → Calls Tryd.prog 21 #[V k a b s] w fun e w' => e = .returned (.tuple #[itemV k a b s, .bool (okV k a b s)]) ∧ G w w') := itemOf_any k a b s
  rw [h] at HI
  generalize itemV k a b s = x at HI hn
  clear h
  obtain ⟨t, f, v, rfl, hm, hf, g1⟩ := hn
  have H1 : Hid _ := g1
  clear g1
  go_enter Tryd.func16, Tryd.ntmps16
  go_wp2_with fail
  refine (HI.out _ (by exact hT.G ((G.refl w).alloc _))).mono ?_
  rintro e w1 ⟨rfl, hb1⟩
  have HG : Hid (G w w1) := ((G.refl w).alloc _).trans hb1
  clear hb1
  go_wp2_with fail
  refine (H1.out _).mono ?_
  rintro e w2 ⟨x2, rfl, hB2⟩
  have HB : Hid (Bw w w2 x2 ys) := hB2.down HG.out
  clear hB2
  go_wp2
  go_ret2
  exact ⟨x2, rfl, HB.out⟩
end Go.Proofs.YtdiikofgilplkaaDoor
