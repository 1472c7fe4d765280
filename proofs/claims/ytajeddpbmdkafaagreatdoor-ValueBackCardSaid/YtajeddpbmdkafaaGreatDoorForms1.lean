/- Storable and Name: the program's and trellisref1's. -/
import Derived.Test.YtajeddpbmdkafaaGreatDoorValidSame
namespace Go.Proofs.YtajeddpbmdkafaaGreatDoor
open Go.RowKit Go.PlainAid Go.Lib Go.Shelf
attribute [local go_sem] as_null_null as_null_truth as_null_whole as_null_cpx as_null_str as_null_node as_null_edge as_truth_null as_truth_truth as_truth_whole as_truth_cpx as_truth_str as_truth_node as_truth_edge as_whole_null as_whole_truth as_whole_whole as_whole_cpx as_whole_str as_whole_node as_whole_edge as_cpx_null as_cpx_truth as_cpx_whole as_cpx_cpx as_cpx_str as_cpx_node as_cpx_edge as_str_null as_str_truth as_str_whole as_str_cpx as_str_str as_str_node as_str_edge as_node_null as_node_truth as_node_whole as_node_cpx as_node_str as_node_node as_node_edge as_edge_null as_edge_truth as_edge_whole as_edge_cpx as_edge_str as_edge_node as_edge_edge
/-- A value that a property can have. -/
def stoV (k a b : Int) (s : ByteArray) : Bool := okV k a b s && (decide (1 ≤ k) && decide (k ≤ 4))
theorem okV_kind (k a b : Int) (s : ByteArray) (h : okV k a b s = true) : 0 ≤ k ∧ k ≤ 6 := by
  by_cases hk : 0 ≤ k ∧ k ≤ 6
  · exact hk
  · exfalso
    unfold okV at h
    rw [if_neg (by omega), if_neg (by omega), if_neg (by omega), if_neg (by omega), if_neg (by omega), if_neg (by omega)] at h
    exact Bool.noConfusion h
/-- A byte of a name. -/
def chP (x : Int) : Prop := (97 ≤ x ∧ x ≤ 122) ∨ (48 ≤ x ∧ x ≤ 57)
def NameP (s : ByteArray) : Prop := 1 ≤ s.size ∧ s.size ≤ 8 ∧ 97 ≤ bt s 0 ∧ ∀ j, j < s.size → chP (bt s j)
noncomputable def nameB (s : ByteArray) : Bool := @decide (NameP s) (Classical.propDecidable _)
theorem nameB_yes {s : ByteArray} (h : NameP s) : Ending.returned (.bool true) = .returned (.bool (nameB s)) := by
  have : nameB s = true := @decide_eq_true _ (Classical.propDecidable _) h
  rw [this]
theorem nameB_no {s : ByteArray} (h : ¬ NameP s) : Ending.returned (.bool false) = .returned (.bool (nameB s)) := by
  have : nameB s = false := @decide_eq_false _ (Classical.propDecidable _) h
  rw [this]
theorem nameB_true {s : ByteArray} (h : nameB s = true) : NameP s := @of_decide_eq_true _ (Classical.propDecidable _) h
theorem nameB_iff (s : ByteArray) : nameB s = true ↔ NameP s := ⟨nameB_true, @decide_eq_true _ (Classical.propDecidable _)⟩
end Go.Proofs.YtajeddpbmdkafaaGreatDoor
