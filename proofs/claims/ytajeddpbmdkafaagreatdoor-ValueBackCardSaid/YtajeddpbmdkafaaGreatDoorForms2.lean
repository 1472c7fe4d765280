/- One entry of a script; trellislaw1.forms at it. -/
import Derived.Test.YtajeddpbmdkafaaGreatDoorForms1
namespace Go.Proofs.YtajeddpbmdkafaaGreatDoor
open Go.RowKit Go.PlainAid Go.Lib Go.Shelf

/-- An entry of a script. -/
structure Ent where
  kind : Int
  op : Int
  k : Int
  a : Int
  b : Int
  s : ByteArray
  k' : Int
  a' : Int
  b' : Int
  s' : ByteArray
  vs : Value
  st : ByteArray
  tt : ByteArray
  bb : Value
  n : Int
  x : Int
  y : Int
  o1 : Int
  o2 : Int
abbrev Ent.L (e : Ent) : List Value := [I e.kind, I e.op, I e.k, I e.a, I e.b, .string e.s, I e.k', I e.a', I e.b', .string e.s', e.vs, .string e.st, .string e.tt, e.bb, I e.n, I e.x, I e.y, I e.o1, I e.o2]
abbrev Ent.V (e : Ent) : Value := .agg #[I e.kind, I e.op, I e.k, I e.a, I e.b, .string e.s, I e.k', I e.a', I e.b', .string e.s', e.vs, .string e.st, .string e.tt, e.bb, I e.n, I e.x, I e.y, I e.o1, I e.o2]
theorem keepC {w W W' : World} {b : Nat} {f : Nat → Option Value} (hb : G W W') (h : (∀ o, W.cell? ⟨b, o, none⟩ = f o) ∧ G w W ∧ b < W.heap.size) : (∀ o, W'.cell? ⟨b, o, none⟩ = f o) ∧ G w W' ∧ b < W'.heap.size := keepG h.1 h.2.1 h.2.2 hb
theorem neq_same (q : Bool) (w : World) : (binOp .neq 4 (.bool q) (.bool q)).run Tryz.prog w = .ok (.bool false) w := by
  cases q <;> simp [go_sem]
theorem eql_same (q : Bool) (w : World) : (binOp .eql 4 (.bool q) (.bool q)).run Tryz.prog w = .ok (.bool true) w := by
  cases q <;> simp [go_sem]
end Go.Proofs.YtajeddpbmdkafaaGreatDoor
