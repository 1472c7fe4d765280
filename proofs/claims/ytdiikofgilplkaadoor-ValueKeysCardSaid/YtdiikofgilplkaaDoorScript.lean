/- A script's loop: every entry of a kind from lo to hi is played. -/
import Derived.Test.YtdiikofgilplkaaDoorForms1
import Derived.Deep.MidRow
namespace Go.Proofs.YtdiikofgilplkaaDoor
section
open Go.RowKit Go.PlainAid Go.Lib Go.Shelf

/-- An entry of a script. -/
structure Ent where
  kind : Int
  op : Int
  k : Int
  a : Int
  b : Int
  s : ByteArray
  k' : Int
  a' : Int
  b' : Int
  s' : ByteArray
  vs : Value
  st : ByteArray
  tt : ByteArray
  bb : Value
  n : Int
  x : Int
  y : Int
  o1 : Int
  o2 : Int
abbrev Ent.L (e : Ent) : List Value := [I e.kind, I e.op, I e.k, I e.a, I e.b, .string e.s, I e.k', I e.a', I e.b', .string e.s', e.vs, .string e.st, .string e.tt, e.bb, I e.n, I e.x, I e.y, I e.o1, I e.o2]
abbrev Ent.V (e : Ent) : Value := .agg #[I e.kind, I e.op, I e.k, I e.a, I e.b, .string e.s, I e.k', I e.a', I e.b', .string e.s', e.vs, .string e.st, .string e.tt, e.bb, I e.n, I e.x, I e.y, I e.o1, I e.o2]
theorem keepC {w W W' : World} {b : Nat} {f : Nat → Option Value} (hb : G W W') (h : (∀ o, W.cell? ⟨b, o, none⟩ = f o) ∧ G w W ∧ b < W.heap.size) : (∀ o, W'.cell? ⟨b, o, none⟩ = f o) ∧ G w W' ∧ b < W'.heap.size := keepG h.1 h.2.1 h.2.2 hb
theorem neq_same (q : Bool) (w : World) : (binOp .neq 4 (.bool q) (.bool q)).run Tryd.prog w = .ok (.bool false) w := by
  cases q <;> simp [go_sem]
theorem eql_same (q : Bool) (w : World) : (binOp .eql 4 (.bool q) (.bool q)).run Tryd.prog w = .ok (.bool true) w := by
  cases q <;> simp [go_sem]
end
open Go.RowKit Go.PlainAid Go.Lib Go.Shelf
/-- n entries lie at (b, off) of W. -/
def Ents (W : World) (b off n : Nat) (E : Nat → Ent) : Prop := ∀ i, i < n → W.rangeAt b (off + i * 19) (E i).L
theorem cell_lt {W : World} {b o : Nat} {v : Value} (h : W.cell? ⟨b, o, none⟩ = some v) : b < W.heap.size := by
  rcases Nat.lt_or_ge b W.heap.size with h1 | h1
  · exact h1
  · exfalso
    have : W.heap[b]? = none := Array.getElem?_eq_none h1
    unfold World.cell? at h
    simp only [this] at h
    cases h
theorem rangeAt_G {W w : World} {b o : Nat} {cs : List Value} (h : W.rangeAt b o cs) (g : G W w) : w.rangeAt b o cs :=
  fun j v hv => (Below.cell g (p := ⟨b, o + j, none⟩) (cell_lt (h j v hv))).trans (h j v hv)
end Go.Proofs.YtdiikofgilplkaaDoor
