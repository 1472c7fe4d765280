/- What a value of each kind is. -/
import Derived.Test.YthpflfkgbapbnaaGreatDoorValidSame
import Derived.Test.YthpflfkgbapbnaaGreatDoorScriptOpen
namespace Go.Proofs.YthpflfkgbapbnaaGreatDoor
open Go.RowKit Go.Lib Go.Shelf

theorem empty_eq {s : ByteArray} (h : s.toList.isEmpty = true) : s = E0 := by
  have h1 : s.toList = [] := List.isEmpty_iff.1 h
  rw [ByteArray.toList_eq] at h1
  cases s with
  | mk d =>
    have : d = #[] := Array.toList_eq_nil_iff.1 h1
    rw [this]
theorem ok_0 {a b : Int} {s : ByteArray} (h : okV 0 a b s = true) : a = 0 ∧ b = 0 ∧ s = E0 := by
  simp [okV, Bool.and_eq_true] at h
  exact ⟨h.1.1, h.1.2, empty_eq (List.isEmpty_iff.2 h.2)⟩
theorem ok_1 {a b : Int} {s : ByteArray} (h : okV 1 a b s = true) : (a = 0 ∨ a = 1) ∧ b = 0 ∧ s = E0 := by
  simp [okV, Bool.and_eq_true] at h
  exact ⟨h.1.1, h.1.2, empty_eq (List.isEmpty_iff.2 h.2)⟩
theorem ok_2 {a b : Int} {s : ByteArray} (h : okV 2 a b s = true) : b = 0 ∧ s = E0 := by
  simp [okV, Bool.and_eq_true] at h
  exact ⟨h.1, empty_eq (List.isEmpty_iff.2 h.2)⟩
theorem ok_3 {a b : Int} {s : ByteArray} (h : okV 3 a b s = true) : (-33554432 ≤ a ∧ a ≤ 33554432) ∧ (-33554432 ≤ b ∧ b ≤ 33554432) ∧ s = E0 := by
  simp [okV, Bool.and_eq_true] at h
  exact ⟨(partB_iff a).1 h.1.1, (partB_iff b).1 h.1.2, empty_eq (List.isEmpty_iff.2 h.2)⟩
theorem ok_4 {a b : Int} {s : ByteArray} (h : okV 4 a b s = true) : a = 0 ∧ b = 0 ∧ s.size ≤ 32 ∧ validD s.data.toList = true := by
  simp [okV, Bool.and_eq_true] at h
  exact ⟨h.1.1.1, h.1.1.2, h.1.2, h.2⟩
theorem itV_0 {a b : Int} {s : ByteArray} (h : okV 0 a b s = true) : itemV 0 a b s = .iface 199 (.agg #[]) := by
  simp [itemV, h]
theorem itV_1 {a b : Int} {s : ByteArray} (h : okV 1 a b s = true) : itemV 1 a b s = .iface 200 (.bool (a == 1)) := by
  simp [itemV, h]
theorem itV_2 {a b : Int} {s : ByteArray} (h : okV 2 a b s = true) : itemV 2 a b s = .iface 201 (.int .i64 a) := by
  simp [itemV, h]
theorem itV_3 {a b : Int} {s : ByteArray} (h : okV 3 a b s = true) : itemV 3 a b s = .iface 204 (.complex .f64 (fl a) (fl b)) := by
  simp [itemV, h]
theorem itV_4 {a b : Int} {s : ByteArray} (h : okV 4 a b s = true) : itemV 4 a b s = .iface 206 (.string s) := by
  simp [itemV, h]
theorem itV_5 {a b : Int} {s : ByteArray} (h : okV 5 a b s = true) : itemV 5 a b s = .iface 207 (.int .i64 a) := by
  simp [itemV, h]
theorem itV_6 {a b : Int} {s : ByteArray} (h : okV 6 a b s = true) : itemV 6 a b s = .iface 208 (.int .i64 a) := by
  simp [itemV, h]
end Go.Proofs.YthpflfkgbapbnaaGreatDoor
