/- A script's loop: every entry of a kind from lo to hi is played. -/
import Derived.Test.YthpflfkgbapbnaaGreatDoorValidSame
import Derived.Deep.MidRow
namespace Go.Proofs.YthpflfkgbapbnaaGreatDoor
section
section
open Go.RowKit Go.PlainAid Go.Lib Go.Shelf
attribute [local go_sem] as_null_null as_null_truth as_null_whole as_null_cpx as_null_str as_null_node as_null_edge as_truth_null as_truth_truth as_truth_whole as_truth_cpx as_truth_str as_truth_node as_truth_edge as_whole_null as_whole_truth as_whole_whole as_whole_cpx as_whole_str as_whole_node as_whole_edge as_cpx_null as_cpx_truth as_cpx_whole as_cpx_cpx as_cpx_str as_cpx_node as_cpx_edge as_str_null as_str_truth as_str_whole as_str_cpx as_str_str as_str_node as_str_edge as_node_null as_node_truth as_node_whole as_node_cpx as_node_str as_node_node as_node_edge as_edge_null as_edge_truth as_edge_whole as_edge_cpx as_edge_str as_edge_node as_edge_edge
/-- A value that a property can have. -/
def stoV (k a b : Int) (s : ByteArray) : Bool := okV k a b s && (decide (1 ≤ k) && decide (k ≤ 4))
theorem okV_kind (k a b : Int) (s : ByteArray) (h : okV k a b s = true) : 0 ≤ k ∧ k ≤ 6 := by
  by_cases hk : 0 ≤ k ∧ k ≤ 6
  · exact hk
  · exfalso
    unfold okV at h
    rw [if_neg (by omega), if_neg (by omega), if_neg (by omega), if_neg (by omega), if_neg (by omega), if_neg (by omega)] at h
    exact Bool.noConfusion h
/-- A byte of a name. -/
def chP (x : Int) : Prop := (97 ≤ x ∧ x ≤ 122) ∨ (48 ≤ x ∧ x ≤ 57)
def NameP (s : ByteArray) : Prop := 1 ≤ s.size ∧ s.size ≤ 8 ∧ 97 ≤ bt s 0 ∧ ∀ j, j < s.size → chP (bt s j)
noncomputable def nameB (s : ByteArray) : Bool := @decide (NameP s) (Classical.propDecidable _)
theorem nameB_yes {s : ByteArray} (h : NameP s) : Ending.returned (.bool true) = .returned (.bool (nameB s)) := by
  have : nameB s = true := @decide_eq_true _ (Classical.propDecidable _) h
  rw [this]
theorem nameB_no {s : ByteArray} (h : ¬ NameP s) : Ending.returned (.bool false) = .returned (.bool (nameB s)) := by
  have : nameB s = false := @decide_eq_false _ (Classical.propDecidable _) h
  rw [this]
theorem nameB_true {s : ByteArray} (h : nameB s = true) : NameP s := @of_decide_eq_true _ (Classical.propDecidable _) h
theorem nameB_iff (s : ByteArray) : nameB s = true ↔ NameP s := ⟨nameB_true, @decide_eq_true _ (Classical.propDecidable _)⟩
end
open Go.RowKit Go.PlainAid Go.Lib Go.Shelf

/-- An entry of a script. -/
structure Ent where
  kind : Int
  op : Int
  k : Int
  a : Int
  b : Int
  s : ByteArray
  k' : Int
  a' : Int
  b' : Int
  s' : ByteArray
  vs : Value
  st : ByteArray
  tt : ByteArray
  bb : Value
  n : Int
  x : Int
  y : Int
  o1 : Int
  o2 : Int
abbrev Ent.L (e : Ent) : List Value := [I e.kind, I e.op, I e.k, I e.a, I e.b, .string e.s, I e.k', I e.a', I e.b', .string e.s', e.vs, .string e.st, .string e.tt, e.bb, I e.n, I e.x, I e.y, I e.o1, I e.o2]
abbrev Ent.V (e : Ent) : Value := .agg #[I e.kind, I e.op, I e.k, I e.a, I e.b, .string e.s, I e.k', I e.a', I e.b', .string e.s', e.vs, .string e.st, .string e.tt, e.bb, I e.n, I e.x, I e.y, I e.o1, I e.o2]
theorem keepC {w W W' : World} {b : Nat} {f : Nat → Option Value} (hb : G W W') (h : (∀ o, W.cell? ⟨b, o, none⟩ = f o) ∧ G w W ∧ b < W.heap.size) : (∀ o, W'.cell? ⟨b, o, none⟩ = f o) ∧ G w W' ∧ b < W'.heap.size := keepG h.1 h.2.1 h.2.2 hb
theorem neq_same (q : Bool) (w : World) : (binOp .neq 4 (.bool q) (.bool q)).run Tryz.prog w = .ok (.bool false) w := by
  cases q <;> simp [go_sem]
theorem eql_same (q : Bool) (w : World) : (binOp .eql 4 (.bool q) (.bool q)).run Tryz.prog w = .ok (.bool true) w := by
  cases q <;> simp [go_sem]
end
open Go.RowKit Go.PlainAid Go.Lib Go.Shelf
/-- n entries lie at (b, off) of W. -/
def Ents (W : World) (b off n : Nat) (E : Nat → Ent) : Prop := ∀ i, i < n → W.rangeAt b (off + i * 19) (E i).L
theorem cell_lt {W : World} {b o : Nat} {v : Value} (h : W.cell? ⟨b, o, none⟩ = some v) : b < W.heap.size := by
  rcases Nat.lt_or_ge b W.heap.size with h1 | h1
  · exact h1
  · exfalso
    have : W.heap[b]? = none := Array.getElem?_eq_none h1
    unfold World.cell? at h
    simp only [this] at h
    cases h
theorem rangeAt_G {W w : World} {b o : Nat} {cs : List Value} (h : W.rangeAt b o cs) (g : G W w) : w.rangeAt b o cs :=
  fun j v hv => (Below.cell g (p := ⟨b, o + j, none⟩) (cell_lt (h j v hv))).trans (h j v hv)
end Go.Proofs.YthpflfkgbapbnaaGreatDoor
