/- Graphs that came in. -/
import Derived.Test.YtifioikdhfhljaaGreatDoorWo
namespace Go.Proofs.YtifioikdhfhljaaGreatDoor
open Go.ChangeShapes Go.WideShapes Go.ChangeAt Go.RowKit

def R64 (n : Int) : Prop := -9223372036854775808 ≤ n ∧ n ≤ 9223372036854775807
theorem wf_R64 {n : Int} (h : (Lit.int .i64 n).wf = true) : R64 n := by simpa [Lit.wf, IntKind.min, IntKind.max, IntKind.signed, IntKind.bits, R64] using h
/-- A property. -/
structure Pv where
  key : ByteArray
  k : Int
  a : Int
  b : Int
  s : ByteArray
def Pv.ok (p : Pv) : Prop := p.key.size ≤ maxLen ∧ R64 p.k ∧ R64 p.a ∧ R64 p.b ∧ p.s.size ≤ maxLen
instance : Inhabited Pv := ⟨⟨ByteArray.empty, 0, 0, 0, ByteArray.empty⟩⟩
abbrev eP : Enc Pv := ⟨fun p => [.string p.key, I p.k, I p.a, I p.b, .string p.s], 5, fun _ => rfl, fun _ u hu => by simp at hu; rcases hu with rfl | rfl | rfl | rfl | rfl <;> rfl⟩
/-- A node, an edge. -/
structure Nd where
  id : Int
  lb : ByteArray
  ps : List Pv
structure Ed where
  id : Int
  ty : ByteArray
  fr : Int
  to : Int
  ps : List Pv
instance : Inhabited Nd := ⟨⟨0, ByteArray.empty, []⟩⟩
instance : Inhabited Ed := ⟨⟨0, ByteArray.empty, 0, 0, []⟩⟩
def Nd.ok (n : Nd) : Prop := R64 n.id ∧ n.lb.size ≤ maxLen ∧ ∀ p ∈ n.ps, p.ok
def Ed.ok (e : Ed) : Prop := R64 e.id ∧ e.ty.size ≤ maxLen ∧ R64 e.fr ∧ R64 e.to ∧ ∀ p ∈ e.ps, p.ok
abbrev relN : Rel Nd := ⟨3, fun w cs x => ∃ v, cs = [I x.id, .string x.lb, v] ∧ Row eP.rel w v x.ps, fun h => by obtain ⟨_, rfl, _⟩ := h; rfl, fun g h => by
  obtain ⟨v, e, h⟩ := h
  exact ⟨v, e, h.G g⟩⟩
abbrev relE : Rel Ed := ⟨5, fun w cs x => ∃ v, cs = [I x.id, .string x.ty, I x.fr, I x.to, v] ∧ Row eP.rel w v x.ps, fun h => by obtain ⟨_, rfl, _⟩ := h; rfl, fun g h => by
  obtain ⟨v, e, h⟩ := h
  exact ⟨v, e, h.G g⟩⟩
/-- A graph in memory, wherever it lies. -/
def GrV (w : World) (v : Value) (ns : List Nd) (es : List Ed) : Prop := ∃ nv ev, v = .agg #[nv, ev] ∧ Row relN w nv ns ∧ Row relE w ev es
theorem GrV.G {w w' : World} {v : Value} {ns : List Nd} {es : List Ed} (h : GrV w v ns es) (g : Go.Proofs.YtifioikdhfhljaaGreatDoor.G w w') : GrV w' v ns es := by
  obtain ⟨nv, ev, e, h1, h2⟩ := h
  exact ⟨nv, ev, e, h1.G g, h2.G g⟩
section
variable {H : Type} {enc : TypeId × Value → H} {w : World}
set_option maxRecDepth 100000 in
theorem open_val {fuel : Nat} {cs : List Value} {x : DataW H × List MemPlace} (h : trodA enc w fuel 41 cs = some x) : ∃ (k a b : Int) (s : ByteArray), cs = [I k, I a, I b, .string s] ∧ R64 k ∧ R64 a ∧ R64 b ∧ s.size ≤ maxLen := by
  obtain ⟨xs, n', rfl, rfl, hl', hx', hf⟩ := DataW.trod_struct Tryz.underlying41 h
  rw [show Tryz.prog.cellsOf 41 = 4 by kernel_rfl] at hl'
  match cs, hl' with
  | [c0, c1, c2, c3], _ =>
    have f0 : trodA enc w n' 3 (([c0, c1, c2, c3].drop 0).take 1) = xs[0]? := by have h0 := hf 0 _ rfl; exact h0
    have f1 : trodA enc w n' 2 (([c0, c1, c2, c3].drop 1).take 1) = xs[1]? := by have h0 := hf 1 _ rfl; exact h0
    have f2 : trodA enc w n' 2 (([c0, c1, c2, c3].drop 2).take 1) = xs[2]? := by have h0 := hf 2 _ rfl; exact h0
    have f3 : trodA enc w n' 9 (([c0, c1, c2, c3].drop 3).take 1) = xs[3]? := by have h0 := hf 3 _ rfl; exact h0
    simp only [List.drop_zero, List.drop_succ_cons, List.take_succ_cons, List.take_zero] at f0 f1 f2 f3
    match xs, hx' with
    | [y0, y1, y2, y3], _ =>
      simp only [List.getElem?_cons_zero, List.getElem?_cons_succ] at f0 f1 f2 f3
      obtain ⟨q0, e0, z0, w0⟩ := DataW.trod_int Tryz.underlying3 f0
      obtain ⟨q1, e1, z1, w1⟩ := DataW.trod_int Tryz.underlying2 f1
      obtain ⟨q2, e2, z2, w2⟩ := DataW.trod_int Tryz.underlying2 f2
      obtain ⟨q3, e3, z3, w3⟩ := DataW.trod_string Tryz.underlying9 f3
      simp only [List.cons.injEq, and_true] at e0 e1 e2 e3
      exact ⟨q0, q1, q2, q3, by rw [e0, e1, e2, e3], wf_R64 w0, wf_R64 w1, wf_R64 w2, w3⟩
set_option maxRecDepth 100000 in
theorem open_prop {fuel : Nat} {cs : List Value} {x : DataW H × List MemPlace} (h : trodA enc w fuel 101 cs = some x) : ∃ p : Pv, cs = eP.e p ∧ p.ok := by
  obtain ⟨xs, n', rfl, rfl, hl', hx', hf⟩ := DataW.trod_struct Tryz.underlying101 h
  rw [show Tryz.prog.cellsOf 101 = 5 by kernel_rfl] at hl'
  match cs, hl' with
  | [c0, c1, c2, c3, c4], _ =>
    have f0 : trodA enc w n' 9 (([c0, c1, c2, c3, c4].drop 0).take 1) = xs[0]? := by have h0 := hf 0 _ rfl; exact h0
    have f1 : trodA enc w n' 41 (([c0, c1, c2, c3, c4].drop 1).take 4) = xs[1]? := by have h0 := hf 1 _ rfl; exact h0
    simp only [List.drop_zero, List.drop_succ_cons, List.take_succ_cons, List.take_zero] at f0 f1
    match xs, hx' with
    | [y0, y1], _ =>
      simp only [List.getElem?_cons_zero, List.getElem?_cons_succ] at f0 f1
      obtain ⟨q0, e0, z0, w0⟩ := DataW.trod_string Tryz.underlying9 f0
      obtain ⟨k, a, b, s, e1, h1, h2, h3, h4⟩ := open_val f1
      simp only [List.cons.injEq, and_true] at e0 e1
      obtain ⟨g1, g2, g3, g4⟩ := e1
      exact ⟨⟨q0, k, a, b, s⟩, by rw [e0, g1, g2, g3, g4], w0, h1, h2, h3, h4⟩
theorem open_props {fuel : Nat} {c : Value} {x : DataW H × List MemPlace} (h : trodA enc w fuel 42 [c] = some x) : ∃ l, Row eP.rel w c l ∧ (∀ p ∈ l, p.ok) ∧ l.length + 1 ≤ Rows.uptoBulk x.1 := by
  obtain ⟨l, h1, h2, h3⟩ := open_row Tryz.underlying42 eP.rel (show Tryz.prog.cellsOf 101 = 5 by kernel_rfl) (by decide) Pv.ok (fun _ => 1) (fun f cs y hy => by
    obtain ⟨p, e, hp⟩ := open_prop hy
    exact ⟨p, e, hp, bulk_pos _⟩) h
  rw [sum_one] at h3
  exact ⟨l, h1, h2, h3⟩
set_option maxRecDepth 100000 in
theorem open_node {fuel : Nat} {cs : List Value} {x : DataW H × List MemPlace} (h : trodA enc w fuel 69 cs = some x) : ∃ n : Nd, relN.r w cs n ∧ n.ok ∧ n.ps.length + 1 ≤ Rows.uptoBulk x.1 := by
  obtain ⟨xs, n', rfl, rfl, hl', hx', hf⟩ := DataW.trod_struct Tryz.underlying69 h
  rw [show Tryz.prog.cellsOf 69 = 3 by kernel_rfl] at hl'
  match cs, hl' with
  | [c0, c1, c2], _ =>
    have f0 : trodA enc w n' 2 (([c0, c1, c2].drop 0).take 1) = xs[0]? := by have h0 := hf 0 _ rfl; exact h0
    have f1 : trodA enc w n' 9 (([c0, c1, c2].drop 1).take 1) = xs[1]? := by have h0 := hf 1 _ rfl; exact h0
    have f2 : trodA enc w n' 42 (([c0, c1, c2].drop 2).take 1) = xs[2]? := by have h0 := hf 2 _ rfl; exact h0
    simp only [List.drop_zero, List.drop_succ_cons, List.take_succ_cons, List.take_zero] at f0 f1 f2
    match xs, hx' with
    | [y0, y1, y2], _ =>
      simp only [List.getElem?_cons_zero, List.getElem?_cons_succ] at f0 f1 f2
      obtain ⟨q0, e0, z0, w0⟩ := DataW.trod_int Tryz.underlying2 f0
      obtain ⟨q1, e1, z1, w1⟩ := DataW.trod_string Tryz.underlying9 f1
      obtain ⟨l, r1, r2, r3⟩ := open_props f2
      simp only [List.cons.injEq, and_true] at e0 e1
      subst e0 e1
      refine ⟨⟨q0, q1, l⟩, ⟨_, rfl, r1⟩, ⟨wf_R64 w0, w1, r2⟩, ?_⟩
      show l.length + 1 ≤ _
      simp only [Rows.uptoBulk, List.map_cons, List.map_nil, Rows.uptoBulkAll]
      omega
set_option maxRecDepth 100000 in
theorem open_edge {fuel : Nat} {cs : List Value} {x : DataW H × List MemPlace} (h : trodA enc w fuel 72 cs = some x) : ∃ n : Ed, relE.r w cs n ∧ n.ok ∧ n.ps.length + 1 ≤ Rows.uptoBulk x.1 := by
  obtain ⟨xs, n', rfl, rfl, hl', hx', hf⟩ := DataW.trod_struct Tryz.underlying72 h
  rw [show Tryz.prog.cellsOf 72 = 5 by kernel_rfl] at hl'
  match cs, hl' with
  | [c0, c1, c2, c3, c4], _ =>
    have f0 : trodA enc w n' 2 (([c0, c1, c2, c3, c4].drop 0).take 1) = xs[0]? := by have h0 := hf 0 _ rfl; exact h0
    have f1 : trodA enc w n' 9 (([c0, c1, c2, c3, c4].drop 1).take 1) = xs[1]? := by have h0 := hf 1 _ rfl; exact h0
    have f2 : trodA enc w n' 2 (([c0, c1, c2, c3, c4].drop 2).take 1) = xs[2]? := by have h0 := hf 2 _ rfl; exact h0
    have f3 : trodA enc w n' 2 (([c0, c1, c2, c3, c4].drop 3).take 1) = xs[3]? := by have h0 := hf 3 _ rfl; exact h0
    have f4 : trodA enc w n' 42 (([c0, c1, c2, c3, c4].drop 4).take 1) = xs[4]? := by have h0 := hf 4 _ rfl; exact h0
    simp only [List.drop_zero, List.drop_succ_cons, List.take_succ_cons, List.take_zero] at f0 f1 f2 f3 f4
    match xs, hx' with
    | [y0, y1, y2, y3, y4], _ =>
      simp only [List.getElem?_cons_zero, List.getElem?_cons_succ] at f0 f1 f2 f3 f4
      obtain ⟨q0, e0, z0, w0⟩ := DataW.trod_int Tryz.underlying2 f0
      obtain ⟨q1, e1, z1, w1⟩ := DataW.trod_string Tryz.underlying9 f1
      obtain ⟨q2, e2, z2, w2⟩ := DataW.trod_int Tryz.underlying2 f2
      obtain ⟨q3, e3, z3, w3⟩ := DataW.trod_int Tryz.underlying2 f3
      obtain ⟨l, r1, r2, r3⟩ := open_props f4
      simp only [List.cons.injEq, and_true] at e0 e1 e2 e3
      subst e0 e1 e2 e3
      refine ⟨⟨q0, q1, q2, q3, l⟩, ⟨_, rfl, r1⟩, ⟨wf_R64 w0, w1, wf_R64 w2, wf_R64 w3, r2⟩, ?_⟩
      show l.length + 1 ≤ _
      simp only [Rows.uptoBulk, List.map_cons, List.map_nil, Rows.uptoBulkAll]
      omega
theorem open_nodes {fuel : Nat} {c : Value} {x : DataW H × List MemPlace} (h : trodA enc w fuel 22 [c] = some x) : ∃ l, Row relN w c l ∧ (∀ y ∈ l, Nd.ok y) ∧ (l.map fun y => y.ps.length + 1).sum + 1 ≤ Rows.uptoBulk x.1 :=
  open_row Tryz.underlying22 relN (show Tryz.prog.cellsOf 69 = 3 by kernel_rfl) (by decide) Nd.ok (fun y => y.ps.length + 1) (fun f cs y hy => by
    obtain ⟨p, e, hp, hb⟩ := open_node hy
    exact ⟨p, e, hp, hb⟩) h
theorem open_edges {fuel : Nat} {c : Value} {x : DataW H × List MemPlace} (h : trodA enc w fuel 23 [c] = some x) : ∃ l, Row relE w c l ∧ (∀ y ∈ l, Ed.ok y) ∧ (l.map fun y => y.ps.length + 1).sum + 1 ≤ Rows.uptoBulk x.1 :=
  open_row Tryz.underlying23 relE (show Tryz.prog.cellsOf 72 = 5 by kernel_rfl) (by decide) Ed.ok (fun y => y.ps.length + 1) (fun f cs y hy => by
    obtain ⟨p, e, hp, hb⟩ := open_edge hy
    exact ⟨p, e, hp, hb⟩) h
set_option maxRecDepth 100000 in
theorem open_graph {fuel : Nat} {cs : List Value} {x : DataW H × List MemPlace} (h : trodA enc w fuel 25 cs = some x) : ∃ ns es, GrV w (.agg cs.toArray) ns es ∧ (∀ y ∈ ns, Nd.ok y) ∧ (∀ y ∈ es, Ed.ok y) ∧ (ns.map fun y => y.ps.length + 1).sum + (es.map fun y => y.ps.length + 1).sum ≤ Rows.uptoBulk x.1 := by
  obtain ⟨xs, n', rfl, rfl, hl', hx', hf⟩ := DataW.trod_struct Tryz.underlying25 h
  rw [show Tryz.prog.cellsOf 25 = 2 by kernel_rfl] at hl'
  match cs, hl' with
  | [c0, c1], _ =>
    have f0 : trodA enc w n' 22 (([c0, c1].drop 0).take 1) = xs[0]? := by have h0 := hf 0 _ rfl; exact h0
    have f1 : trodA enc w n' 23 (([c0, c1].drop 1).take 1) = xs[1]? := by have h0 := hf 1 _ rfl; exact h0
    simp only [List.drop_zero, List.drop_succ_cons, List.take_succ_cons, List.take_zero] at f0 f1
    match xs, hx' with
    | [y0, y1], _ =>
      simp only [List.getElem?_cons_zero, List.getElem?_cons_succ] at f0 f1
      obtain ⟨ns, r1, r2, r3⟩ := open_nodes f0
      obtain ⟨es, s1, s2, s3⟩ := open_edges f1
      refine ⟨ns, es, ⟨_, _, rfl, r1, s1⟩, r2, s2, ?_⟩
      simp only [Rows.uptoBulk, List.map_cons, List.map_nil, Rows.uptoBulkAll]
      omega
end
end Go.Proofs.YtifioikdhfhljaaGreatDoor
