/- One entry of a script; trellislaw1.forms at it. -/
import Derived.Test.YthmdjhfbhbheeaaGreatDoorForms1
namespace Go.Proofs.YthmdjhfbhbheeaaGreatDoor
open Go.RowKit Go.PlainAid Go.Lib Go.Shelf

/-- An entry of a script. -/
structure Ent where
  kind : Int
  op : Int
  k : Int
  a : Int
  b : Int
  s : ByteArray
  k' : Int
  a' : Int
  b' : Int
  s' : ByteArray
  vs : Value
  st : ByteArray
  tt : ByteArray
  bb : Value
  n : Int
  x : Int
  y : Int
  o1 : Int
  o2 : Int
abbrev Ent.L (e : Ent) : List Value := [I e.kind, I e.op, I e.k, I e.a, I e.b, .string e.s, I e.k', I e.a', I e.b', .string e.s', e.vs, .string e.st, .string e.tt, e.bb, I e.n, I e.x, I e.y, I e.o1, I e.o2]
abbrev Ent.V (e : Ent) : Value := .agg #[I e.kind, I e.op, I e.k, I e.a, I e.b, .string e.s, I e.k', I e.a', I e.b', .string e.s', e.vs, .string e.st, .string e.tt, e.bb, I e.n, I e.x, I e.y, I e.o1, I e.o2]
theorem keepC {w W W' : World} {b : Nat} {f : Nat → Option Value} (hb : G W W') (h : (∀ o, W.cell? ⟨b, o, none⟩ = f o) ∧ G w W ∧ b < W.heap.size) : (∀ o, W'.cell? ⟨b, o, none⟩ = f o) ∧ G w W' ∧ b < W'.heap.size := keepG h.1 h.2.1 h.2.2 hb
theorem neq_same (q : Bool) (w : World) : (binOp .neq 4 (.bool q) (.bool q)).run Tryz.prog w = .ok (.bool false) w := by
  cases q <;> simp [go_sem]
theorem eql_same (q : Bool) (w : World) : (binOp .eql 4 (.bool q) (.bool q)).run Tryz.prog w = .ok (.bool true) w := by
  cases q <;> simp [go_sem]
set_option maxRecDepth 100000 in
set_option maxHeartbeats 2000000 in
theorem forms_any (e : Ent) (hs : e.s.size ≤ 4611686018427387904) (w : World) (hT : Tabs w) : Calls Tryz.prog 13 #[e.V] w fun r w' => r = .returned (.bool true) ∧ G w w' := by
  obtain ⟨kind, op, k, a, b, s, k', a', b', s', vs, st, tt, bb, n, x, y, o1, o2⟩ := e
  have H1 : Hid _ := Valid_any k a b s
  have H2 : Hid _ := rv_any k a b s hs
  have H3 : Hid _ := Storable_any k a b s
  have H4 : Hid _ := rst_any k a b s hs
  have H5 : Hid _ := Name_any st
  have H6 : Hid _ := rnm_any st
  generalize okV k a b s = q1 at H1 H2
  generalize stoV k a b s = q2 at H3 H4
  generalize nameB st = q3 at H5 H6
  have n1 := neq_same q1
  have n2 := neq_same q2
  have n3 := eql_same q3
  have hc0 : ∀ o, (w.alloc (.cells #[I kind, I op, I k, I a, I b, .string s, I k', I a', I b', .string s', vs, .string st, .string tt, bb, I n, I x, I y, I o1, I o2] 35)).cell? { block := w.heap.size, off := o } = [I kind, I op, I k, I a, I b, .string s, I k', I a', I b', .string s', vs, .string st, .string tt, bb, I n, I x, I y, I o1, I o2][o]? := fun o => by simp
  have hg0 : G w (w.alloc (.cells #[I kind, I op, I k, I a, I b, .string s, I k', I a', I b', .string s', vs, .string st, .string tt, bb, I n, I x, I y, I o1, I o2] 35)) := (G.refl w).alloc _
  have hz0 : w.heap.size < (w.alloc (.cells #[I kind, I op, I k, I a, I b, .string s, I k', I a', I b', .string s', vs, .string st, .string tt, bb, I n, I x, I y, I o1, I o2] 35)).heap.size := by simp
  go_enter Tryz.func13, Tryz.ntmps13
  go_wp2
  generalize w.alloc (.cells #[I kind, I op, I k, I a, I b, .string s, I k', I a', I b', .string s', vs, .string st, .string tt, bb, I n, I x, I y, I o1, I o2] 35) = w1 at hc0 hg0 hz0 ⊢
  go_region_held3 (fun W => (∀ (o : Nat), W.cell? { block := w.heap.size, off := o } = [I kind, I op, I k, I a, I b, .string s, I k', I a', I b', .string s', vs, .string st, .string tt, bb, I n, I x, I y, I o1, I o2][o]?) ∧ G w W ∧ w.heap.size < W.heap.size) ((first | exact keepC ‹_› ‹_› | exact keepD ‹_› ‹_› ‹_› | exact keepG ‹_› ‹_› ‹_› ‹_› | exact keepG (keepD ‹_› ‹_› ‹_›).1 (keepD ‹_› ‹_› ‹_›).2.1 (keepD ‹_› ‹_› ‹_›).2.2 ‹_›)) (first | (go_at_call 30; refine (H1.out _ (hT.G (by first | assumption | exact G.drew (by assumption) | exact And.left (And.right (by assumption)) | exact G.drew (And.left (And.right (by assumption)))))).mono ?_; rintro e w2 ⟨rfl, hb2⟩) | (go_at_call 26; refine (H2.out _).mono ?_; rintro e w2 ⟨rfl, hb2⟩) | (go_at_call 31; refine (H3.out _ (hT.G (by first | assumption | exact G.drew (by assumption) | exact And.left (And.right (by assumption)) | exact G.drew (And.left (And.right (by assumption)))))).mono ?_; rintro e w2 ⟨rfl, hb2⟩) | (go_at_call 32; refine (H4.out _).mono ?_; rintro e w2 ⟨rfl, hb2⟩) | fail)
  rename_i hH
  obtain ⟨hc2, hg2, hz2⟩ := hH
  go_wp2
  go_region_held3 (fun W => (∀ (o : Nat), W.cell? { block := w.heap.size, off := o } = [I kind, I op, I k, I a, I b, .string s, I k', I a', I b', .string s', vs, .string st, .string tt, bb, I n, I x, I y, I o1, I o2][o]?) ∧ G w W ∧ w.heap.size < W.heap.size) ((first | exact keepC ‹_› ‹_› | exact keepD ‹_› ‹_› ‹_› | exact keepG ‹_› ‹_› ‹_› ‹_› | exact keepG (keepD ‹_› ‹_› ‹_›).1 (keepD ‹_› ‹_› ‹_›).2.1 (keepD ‹_› ‹_› ‹_›).2.2 ‹_›)) (first | (go_at_call 33; refine (H5.out _).mono ?_; rintro e w2 ⟨rfl, rfl⟩) | (go_at_call 34; refine (H6.out _).mono ?_; rintro e w2 ⟨rfl, rfl⟩) | fail)
  rename_i hH
  obtain ⟨hc3, hg3, hz3⟩ := hH
  go_wp2
  go_ret
  exact ⟨rfl, hg3⟩
end Go.Proofs.YthmdjhfbhbheeaaGreatDoor
