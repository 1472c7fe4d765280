/- Graphs: a graph that came in. -/
import Derived.Test.YtifioikdhfhljaaGreatDoorSh12
namespace Go.Proofs.YtifioikdhfhljaaGreatDoor
open Go.RowKit Go.ChangeShapes Go.WideShapes Go.ChangeAt
/-- The texts' sizes of a list of properties. -/
def mPs (l : List Pv) : Nat := (l.map fun p => p.s.size + 1).sum
section
variable {H : Type} {enc : TypeId × Value → H} {w : World}
set_option maxRecDepth 100000 in
theorem open_val2 {fuel : Nat} {cs : List Value} {x : DataW H × List MemPlace} (h : trodA enc w fuel 41 cs = some x) : ∃ (k a b : Int) (s : ByteArray), cs = [I k, I a, I b, .string s] ∧ R64 k ∧ R64 a ∧ R64 b ∧ s.size ≤ maxLen ∧ s.size + 1 ≤ Rows.uptoBulk x.1 := by
  obtain ⟨xs, n', rfl, rfl, hl', hx', hf⟩ := DataW.trod_struct Tryz.underlying41 h
  rw [show Tryz.prog.cellsOf 41 = 4 by kernel_rfl] at hl'
  match cs, hl' with
  | [c0, c1, c2, c3], _ =>
    have f0 : trodA enc w n' 3 (([c0, c1, c2, c3].drop 0).take 1) = xs[0]? := by have h0 := hf 0 _ rfl; exact h0
    have f1 : trodA enc w n' 2 (([c0, c1, c2, c3].drop 1).take 1) = xs[1]? := by have h0 := hf 1 _ rfl; exact h0
    have f2 : trodA enc w n' 2 (([c0, c1, c2, c3].drop 2).take 1) = xs[2]? := by have h0 := hf 2 _ rfl; exact h0
    have f3 : trodA enc w n' 9 (([c0, c1, c2, c3].drop 3).take 1) = xs[3]? := by have h0 := hf 3 _ rfl; exact h0
    simp only [List.drop_zero, List.drop_succ_cons, List.take_succ_cons, List.take_zero] at f0 f1 f2 f3
    match xs, hx' with
    | [y0, y1, y2, y3], _ =>
      simp only [List.getElem?_cons_zero, List.getElem?_cons_succ] at f0 f1 f2 f3
      obtain ⟨q0, e0, z0, w0⟩ := DataW.trod_int Tryz.underlying3 f0
      obtain ⟨q1, e1, z1, w1⟩ := DataW.trod_int Tryz.underlying2 f1
      obtain ⟨q2, e2, z2, w2⟩ := DataW.trod_int Tryz.underlying2 f2
      obtain ⟨q3, e3, z3, w3⟩ := DataW.trod_string Tryz.underlying9 f3
      simp only [List.cons.injEq, and_true] at e0 e1 e2 e3
      refine ⟨q0, q1, q2, q3, by rw [e0, e1, e2, e3], wf_R64 w0, wf_R64 w1, wf_R64 w2, w3, ?_⟩
      subst z3
      simp only [Rows.uptoBulk, List.map_cons, List.map_nil, Rows.uptoBulkAll]
      have : q3.data.toList.length = q3.size := Array.length_toList
      omega
set_option maxRecDepth 100000 in
theorem open_prop2 {fuel : Nat} {cs : List Value} {x : DataW H × List MemPlace} (h : trodA enc w fuel 101 cs = some x) : ∃ p : Pv, cs = eP.e p ∧ p.ok ∧ p.s.size + 1 ≤ Rows.uptoBulk x.1 := by
  obtain ⟨xs, n', rfl, rfl, hl', hx', hf⟩ := DataW.trod_struct Tryz.underlying101 h
  rw [show Tryz.prog.cellsOf 101 = 5 by kernel_rfl] at hl'
  match cs, hl' with
  | [c0, c1, c2, c3, c4], _ =>
    have f0 : trodA enc w n' 9 (([c0, c1, c2, c3, c4].drop 0).take 1) = xs[0]? := by have h0 := hf 0 _ rfl; exact h0
    have f1 : trodA enc w n' 41 (([c0, c1, c2, c3, c4].drop 1).take 4) = xs[1]? := by have h0 := hf 1 _ rfl; exact h0
    simp only [List.drop_zero, List.drop_succ_cons, List.take_succ_cons, List.take_zero] at f0 f1
    match xs, hx' with
    | [y0, y1], _ =>
      simp only [List.getElem?_cons_zero, List.getElem?_cons_succ] at f0 f1
      obtain ⟨q0, e0, z0, w0⟩ := DataW.trod_string Tryz.underlying9 f0
      obtain ⟨k, a, b, s, e1, h1, h2, h3, h4, h5⟩ := open_val2 f1
      simp only [List.cons.injEq, and_true] at e0 e1
      obtain ⟨g1, g2, g3, g4⟩ := e1
      refine ⟨⟨q0, k, a, b, s⟩, by rw [e0, g1, g2, g3, g4], ⟨w0, h1, h2, h3, h4⟩, ?_⟩
      show s.size + 1 ≤ _
      simp only [Rows.uptoBulk, List.map_cons, List.map_nil, Rows.uptoBulkAll]
      omega
theorem open_props2 {fuel : Nat} {c : Value} {x : DataW H × List MemPlace} (h : trodA enc w fuel 42 [c] = some x) : ∃ l, Row eP.rel w c l ∧ (∀ p ∈ l, p.ok) ∧ mPs l + 1 ≤ Rows.uptoBulk x.1 :=
  open_row Tryz.underlying42 eP.rel (show Tryz.prog.cellsOf 101 = 5 by kernel_rfl) (by decide) Pv.ok (fun p => p.s.size + 1) (fun f cs y hy => by
    obtain ⟨p, e, hp, hb⟩ := open_prop2 hy
    exact ⟨p, e, hp, hb⟩) h
set_option maxRecDepth 100000 in
theorem open_node2 {fuel : Nat} {cs : List Value} {x : DataW H × List MemPlace} (h : trodA enc w fuel 69 cs = some x) : ∃ n : Nd, relN.r w cs n ∧ n.ok ∧ mPs n.ps + 1 ≤ Rows.uptoBulk x.1 := by
  obtain ⟨xs, n', rfl, rfl, hl', hx', hf⟩ := DataW.trod_struct Tryz.underlying69 h
  rw [show Tryz.prog.cellsOf 69 = 3 by kernel_rfl] at hl'
  match cs, hl' with
  | [c0, c1, c2], _ =>
    have f0 : trodA enc w n' 2 (([c0, c1, c2].drop 0).take 1) = xs[0]? := by have h0 := hf 0 _ rfl; exact h0
    have f1 : trodA enc w n' 9 (([c0, c1, c2].drop 1).take 1) = xs[1]? := by have h0 := hf 1 _ rfl; exact h0
    have f2 : trodA enc w n' 42 (([c0, c1, c2].drop 2).take 1) = xs[2]? := by have h0 := hf 2 _ rfl; exact h0
    simp only [List.drop_zero, List.drop_succ_cons, List.take_succ_cons, List.take_zero] at f0 f1 f2
    match xs, hx' with
    | [y0, y1, y2], _ =>
      simp only [List.getElem?_cons_zero, List.getElem?_cons_succ] at f0 f1 f2
      obtain ⟨q0, e0, z0, w0⟩ := DataW.trod_int Tryz.underlying2 f0
      obtain ⟨q1, e1, z1, w1⟩ := DataW.trod_string Tryz.underlying9 f1
      obtain ⟨l, r1, r2, r3⟩ := open_props2 f2
      simp only [List.cons.injEq, and_true] at e0 e1
      subst e0 e1
      refine ⟨⟨q0, q1, l⟩, ⟨_, rfl, r1⟩, ⟨wf_R64 w0, w1, r2⟩, ?_⟩
      show mPs l + 1 ≤ _
      simp only [Rows.uptoBulk, List.map_cons, List.map_nil, Rows.uptoBulkAll]
      omega
set_option maxRecDepth 100000 in
theorem open_edge2 {fuel : Nat} {cs : List Value} {x : DataW H × List MemPlace} (h : trodA enc w fuel 72 cs = some x) : ∃ n : Ed, relE.r w cs n ∧ n.ok ∧ mPs n.ps + 1 ≤ Rows.uptoBulk x.1 := by
  obtain ⟨xs, n', rfl, rfl, hl', hx', hf⟩ := DataW.trod_struct Tryz.underlying72 h
  rw [show Tryz.prog.cellsOf 72 = 5 by kernel_rfl] at hl'
  match cs, hl' with
  | [c0, c1, c2, c3, c4], _ =>
    have f0 : trodA enc w n' 2 (([c0, c1, c2, c3, c4].drop 0).take 1) = xs[0]? := by have h0 := hf 0 _ rfl; exact h0
    have f1 : trodA enc w n' 9 (([c0, c1, c2, c3, c4].drop 1).take 1) = xs[1]? := by have h0 := hf 1 _ rfl; exact h0
    have f2 : trodA enc w n' 2 (([c0, c1, c2, c3, c4].drop 2).take 1) = xs[2]? := by have h0 := hf 2 _ rfl; exact h0
    have f3 : trodA enc w n' 2 (([c0, c1, c2, c3, c4].drop 3).take 1) = xs[3]? := by have h0 := hf 3 _ rfl; exact h0
    have f4 : trodA enc w n' 42 (([c0, c1, c2, c3, c4].drop 4).take 1) = xs[4]? := by have h0 := hf 4 _ rfl; exact h0
    simp only [List.drop_zero, List.drop_succ_cons, List.take_succ_cons, List.take_zero] at f0 f1 f2 f3 f4
    match xs, hx' with
    | [y0, y1, y2, y3, y4], _ =>
      simp only [List.getElem?_cons_zero, List.getElem?_cons_succ] at f0 f1 f2 f3 f4
      obtain ⟨q0, e0, z0, w0⟩ := DataW.trod_int Tryz.underlying2 f0
      obtain ⟨q1, e1, z1, w1⟩ := DataW.trod_string Tryz.underlying9 f1
      obtain ⟨q2, e2, z2, w2⟩ := DataW.trod_int Tryz.underlying2 f2
      obtain ⟨q3, e3, z3, w3⟩ := DataW.trod_int Tryz.underlying2 f3
      obtain ⟨l, r1, r2, r3⟩ := open_props2 f4
      simp only [List.cons.injEq, and_true] at e0 e1 e2 e3
      subst e0 e1 e2 e3
      refine ⟨⟨q0, q1, q2, q3, l⟩, ⟨_, rfl, r1⟩, ⟨wf_R64 w0, w1, wf_R64 w2, wf_R64 w3, r2⟩, ?_⟩
      show mPs l + 1 ≤ _
      simp only [Rows.uptoBulk, List.map_cons, List.map_nil, Rows.uptoBulkAll]
      omega
theorem open_nodes2 {fuel : Nat} {c : Value} {x : DataW H × List MemPlace} (h : trodA enc w fuel 22 [c] = some x) : ∃ l, Row relN w c l ∧ (∀ y ∈ l, Nd.ok y) ∧ (l.map fun y => mPs y.ps + 1).sum + 1 ≤ Rows.uptoBulk x.1 :=
  open_row Tryz.underlying22 relN (show Tryz.prog.cellsOf 69 = 3 by kernel_rfl) (by decide) Nd.ok (fun y => mPs y.ps + 1) (fun f cs y hy => by
    obtain ⟨p, e, hp, hb⟩ := open_node2 hy
    exact ⟨p, e, hp, hb⟩) h
theorem open_edges2 {fuel : Nat} {c : Value} {x : DataW H × List MemPlace} (h : trodA enc w fuel 23 [c] = some x) : ∃ l, Row relE w c l ∧ (∀ y ∈ l, Ed.ok y) ∧ (l.map fun y => mPs y.ps + 1).sum + 1 ≤ Rows.uptoBulk x.1 :=
  open_row Tryz.underlying23 relE (show Tryz.prog.cellsOf 72 = 5 by kernel_rfl) (by decide) Ed.ok (fun y => mPs y.ps + 1) (fun f cs y hy => by
    obtain ⟨p, e, hp, hb⟩ := open_edge2 hy
    exact ⟨p, e, hp, hb⟩) h
set_option maxRecDepth 100000 in
theorem open_graph2 {fuel : Nat} {cs : List Value} {x : DataW H × List MemPlace} (h : trodA enc w fuel 25 cs = some x) : ∃ ns es, GrV w (.agg cs.toArray) ns es ∧ (∀ y ∈ ns, Nd.ok y) ∧ (∀ y ∈ es, Ed.ok y) ∧ (ns.map fun y => mPs y.ps + 1).sum + (es.map fun y => mPs y.ps + 1).sum ≤ Rows.uptoBulk x.1 := by
  obtain ⟨xs, n', rfl, rfl, hl', hx', hf⟩ := DataW.trod_struct Tryz.underlying25 h
  rw [show Tryz.prog.cellsOf 25 = 2 by kernel_rfl] at hl'
  match cs, hl' with
  | [c0, c1], _ =>
    have f0 : trodA enc w n' 22 (([c0, c1].drop 0).take 1) = xs[0]? := by have h0 := hf 0 _ rfl; exact h0
    have f1 : trodA enc w n' 23 (([c0, c1].drop 1).take 1) = xs[1]? := by have h0 := hf 1 _ rfl; exact h0
    simp only [List.drop_zero, List.drop_succ_cons, List.take_succ_cons, List.take_zero] at f0 f1
    match xs, hx' with
    | [y0, y1], _ =>
      simp only [List.getElem?_cons_zero, List.getElem?_cons_succ] at f0 f1
      obtain ⟨ns, r1, r2, r3⟩ := open_nodes2 f0
      obtain ⟨es, s1, s2, s3⟩ := open_edges2 f1
      refine ⟨ns, es, ⟨_, _, rfl, r1, s1⟩, r2, s2, ?_⟩
      simp only [Rows.uptoBulk, List.map_cons, List.map_nil, Rows.uptoBulkAll]
      omega
theorem mem_sum {α : Type} (m : α → Nat) : ∀ (l : List α) (x : α), x ∈ l → m x ≤ (l.map m).sum
  | [], x, h => by cases h
  | y :: l, x, h => by
    simp only [List.map_cons, List.sum_cons]
    rcases List.mem_cons.1 h with rfl | h
    · omega
    · have := mem_sum m l x h; omega
theorem len_sum {α : Type} (m : α → Nat) (h1 : ∀ x, 1 ≤ m x) : ∀ l : List α, l.length ≤ (l.map m).sum
  | [] => by simp
  | y :: l => by
    simp only [List.map_cons, List.sum_cons, List.length_cons]
    have := len_sum m h1 l; have := h1 y; omega
/-- What a small graph is. -/
theorem sm_of {ns : List Nd} {es : List Ed} (h1 : ∀ y ∈ ns, Nd.ok y) (h2 : ∀ y ∈ es, Ed.ok y) (hb : (ns.map fun y => mPs y.ps + 1).sum + (es.map fun y => mPs y.ps + 1).sum ≤ 1048576) : SmB ns es ∧ IdOk ns es ∧ (∀ x ∈ ns, x.ps.length ≤ 1048576 ∧ ∀ p ∈ x.ps, p.ok ∧ p.s.size ≤ 4611686018427387904) ∧ ∀ x ∈ es, x.ps.length ≤ 1048576 ∧ ∀ p ∈ x.ps, p.ok ∧ p.s.size ≤ 4611686018427387904 := by
  have a1 := len_sum (fun y : Nd => mPs y.ps + 1) (fun _ => by omega) ns
  have a2 := len_sum (fun y : Ed => mPs y.ps + 1) (fun _ => by omega) es
  have b1 : ∀ x ∈ ns, mPs x.ps + 1 ≤ 1048576 := fun x hx => by have := mem_sum (fun y : Nd => mPs y.ps + 1) ns x hx; omega
  have b2 : ∀ x ∈ es, mPs x.ps + 1 ≤ 1048576 := fun x hx => by have := mem_sum (fun y : Ed => mPs y.ps + 1) es x hx; omega
  have c0 : ∀ l : List Pv, l.length ≤ mPs l := fun l => len_sum (fun p : Pv => p.s.size + 1) (fun _ => by omega) l
  have c1 : ∀ (l : List Pv), ∀ p ∈ l, p.s.size + 1 ≤ mPs l := fun l p hp => mem_sum (fun p : Pv => p.s.size + 1) l p hp
  have d1 : ∀ x ∈ ns, x.ps.length ≤ 1048576 := fun x hx => by have := b1 x hx; have := c0 x.ps; omega
  have d2 : ∀ x ∈ es, x.ps.length ≤ 1048576 := fun x hx => by have := b2 x hx; have := c0 x.ps; omega
  exact ⟨⟨by omega, by omega, d1, d2⟩, ⟨fun x hx => ⟨(h1 x hx).1, trivial⟩, fun x hx => ⟨(h2 x hx).1, (h2 x hx).2.2.1, (h2 x hx).2.2.2.1⟩⟩,
    fun x hx => ⟨d1 x hx, fun p hp => ⟨(h1 x hx).2.2 p hp, by have := b1 x hx; have := c1 x.ps p hp; omega⟩⟩,
    fun x hx => ⟨d2 x hx, fun p hp => ⟨(h2 x hx).2.2.2.2 p hp, by have := b2 x hx; have := c1 x.ps p hp; omega⟩⟩⟩
end
end Go.Proofs.YtifioikdhfhljaaGreatDoor
