/- Every item, as far as its val goes. -/
import Derived.Test.YtdiikofgilplkaaDoorOkK
import Derived.Test.YtdiikofgilplkaaDoorCmp2
namespace Go.Proofs.YtdiikofgilplkaaDoor
open Go.RowKit Go.Lib Go.Shelf

theorem iv_null  : IVal (.iface 72 (.agg #[])) 0 0 0 E0 := ⟨_, 72, _, rfl, m_val_null, fun w => by simp [go_sem], val_null⟩
theorem iv_whole (n : Int) : IVal (.iface 75 (.int .i64 n)) 2 n 0 E0 := ⟨_, 82, _, rfl, m_val_whole n, fun w => by simp [go_sem], val_whole n⟩
theorem iv_str (t : ByteArray) : IVal (.iface 78 (.string t)) 4 0 0 t := ⟨_, 95, _, rfl, m_val_str t, fun w => by simp [go_sem], val_str t⟩
theorem iv_node (n : Int) : IVal (.iface 91 (.int .i64 n)) 5 n 0 E0 := ⟨_, 100, _, rfl, m_val_node n, fun w => by simp [go_sem], val_node n⟩
theorem iv_edge (n : Int) : IVal (.iface 92 (.int .i64 n)) 6 n 0 E0 := ⟨_, 105, _, rfl, m_val_edge n, fun w => by simp [go_sem], val_edge n⟩
theorem iv_ff : IVal (.iface 74 (.bool false)) 1 0 0 E0 := ⟨_, 77, _, rfl, m_val_ff, fun w => by simp [go_sem], val_ff⟩
theorem iv_tt : IVal (.iface 74 (.bool true)) 1 1 0 E0 := ⟨_, 77, _, rfl, m_val_tt, fun w => by simp [go_sem], val_tt⟩
theorem iv_cpx (x y : Nat) (a b : Int) (hx : Fl x a) (hy : Fl y b) (ha : a.natAbs < 2 ^ 53) (hb : b.natAbs < 2 ^ 53) : IVal (.iface 77 (.complex .f64 x y)) 3 a b E0 :=
  ⟨_, 89, _, rfl, m_val_cpx x y, fun w => by simp [go_sem], val_cpx x y a b hx hy ha hb⟩
theorem ok_5 {a b : Int} {s : ByteArray} (h : okV 5 a b s = true) : b = 0 ∧ s = E0 := by
  simp [okV, Bool.and_eq_true] at h
  exact ⟨h.1.2, empty_eq (List.isEmpty_iff.2 h.2)⟩
theorem ok_6 {a b : Int} {s : ByteArray} (h : okV 6 a b s = true) : b = 0 ∧ s = E0 := by
  simp [okV, Bool.and_eq_true] at h
  exact ⟨h.1.2, empty_eq (List.isEmpty_iff.2 h.2)⟩
theorem ival_any (k a b : Int) (s : ByteArray) (hok : okV k a b s = true) : IVal (itemV k a b s) k a b s := by
  have hk := okV_kind k a b s hok
  have : k = 0 ∨ k = 1 ∨ k = 2 ∨ k = 3 ∨ k = 4 ∨ k = 5 ∨ k = 6 := by omega
  rcases this with rfl | rfl | rfl | rfl | rfl | rfl | rfl
  · obtain ⟨rfl, rfl, rfl⟩ := ok_0 hok
    rw [itV_0 hok]; exact iv_null
  · obtain ⟨h, rfl, rfl⟩ := ok_1 hok
    rw [itV_1 hok]
    rcases h with rfl | rfl
    · exact iv_ff
    · exact iv_tt
  · obtain ⟨rfl, rfl⟩ := ok_2 hok
    rw [itV_2 hok]; exact iv_whole a
  · obtain ⟨⟨a1, a2⟩, ⟨b1, b2⟩, rfl⟩ := ok_3 hok
    rw [itV_3 hok]; exact iv_cpx _ _ a b (Fl.ofInt a (by omega)) (Fl.ofInt b (by omega)) (by omega) (by omega)
  · obtain ⟨rfl, rfl, _, _⟩ := ok_4 hok
    rw [itV_4 hok]; exact iv_str s
  · obtain ⟨rfl, rfl⟩ := ok_5 hok
    rw [itV_5 hok]; exact iv_node a
  · obtain ⟨rfl, rfl⟩ := ok_6 hok
    rw [itV_6 hok]; exact iv_edge a
end Go.Proofs.YtdiikofgilplkaaDoor
