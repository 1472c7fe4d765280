/- Graphs: a script that came in. -/
import Derived.Test.YtifioikdhfhljaaGreatDoorSm11
import Derived.Test.YtifioikdhfhljaaGreatDoorSh21
namespace Go.Proofs.YtifioikdhfhljaaGreatDoor
open Go.RowKit Go.ChangeShapes Go.WideShapes Go.ChangeAt
instance : Inhabited St := ⟨⟨0, 0, 0, ByteArray.empty, ByteArray.empty, 0, 0, 0, ByteArray.empty, false, 0, 0, ByteArray.empty, 0, 0⟩⟩
section
variable {H : Type} {enc : TypeId × Value → H} {w : World}
set_option maxRecDepth 100000 in
theorem open_res {fuel : Nat} {cs : List Value} {x : DataW H × List MemPlace} (h : trodA enc w fuel 44 cs = some x) : ∃ (lv : Int) (lb : ByteArray) (rid : Int), cs = [I lv, .string lb, I rid] := by
  obtain ⟨xs, n', rfl, rfl, hl', hx', hf⟩ := DataW.trod_struct Tryz.underlying44 h
  rw [show Tryz.prog.cellsOf 44 = 3 by kernel_rfl] at hl'
  match cs, hl' with
  | [c0, c1, c2], _ =>
    have f0 : trodA enc w n' 3 (([c0, c1, c2].drop 0).take 1) = xs[0]? := by have h0 := hf 0 _ rfl; exact h0
    have f1 : trodA enc w n' 9 (([c0, c1, c2].drop 1).take 1) = xs[1]? := by have h0 := hf 1 _ rfl; exact h0
    have f2 : trodA enc w n' 2 (([c0, c1, c2].drop 2).take 1) = xs[2]? := by have h0 := hf 2 _ rfl; exact h0
    simp only [List.drop_zero, List.drop_succ_cons, List.take_succ_cons, List.take_zero] at f0 f1 f2
    match xs, hx' with
    | [y0, y1, y2], _ =>
      simp only [List.getElem?_cons_zero, List.getElem?_cons_succ] at f0 f1 f2
      obtain ⟨q0, e0, z0, w0⟩ := DataW.trod_int Tryz.underlying3 f0
      obtain ⟨q1, e1, z1, w1⟩ := DataW.trod_string Tryz.underlying9 f1
      obtain ⟨q2, e2, z2, w2⟩ := DataW.trod_int Tryz.underlying2 f2
      simp only [List.cons.injEq, and_true] at e0 e1 e2
      exact ⟨q0, q1, q2, by rw [e0, e1, e2]⟩
set_option maxRecDepth 100000 in
theorem open_step {fuel : Nat} {cs : List Value} {x : DataW H × List MemPlace} (h : trodA enc w fuel 46 cs = some x) : ∃ y : St, relS.r w cs y ∧ R64 y.id ∧ y.s.size + 1 ≤ Rows.uptoBulk x.1 := by
  obtain ⟨xs, n', rfl, rfl, hl', hx', hf⟩ := DataW.trod_struct Tryz.underlying46 h
  rw [show Tryz.prog.cellsOf 46 = 16 by kernel_rfl] at hl'
  match cs, hl' with
  | [c0, c1, c2, c3, c4, c5, c6, c7, c8, c9, c10, c11, c12, c13, c14, c15], _ =>
    have f0 : trodA enc w n' 3 (([c0, c1, c2, c3, c4, c5, c6, c7, c8, c9, c10, c11, c12, c13, c14, c15].drop 0).take 1) = xs[0]? := by have h0 := hf 0 _ rfl; exact h0
    have f1 : trodA enc w n' 2 (([c0, c1, c2, c3, c4, c5, c6, c7, c8, c9, c10, c11, c12, c13, c14, c15].drop 1).take 1) = xs[1]? := by have h0 := hf 1 _ rfl; exact h0
    have f2 : trodA enc w n' 2 (([c0, c1, c2, c3, c4, c5, c6, c7, c8, c9, c10, c11, c12, c13, c14, c15].drop 2).take 1) = xs[2]? := by have h0 := hf 2 _ rfl; exact h0
    have f3 : trodA enc w n' 9 (([c0, c1, c2, c3, c4, c5, c6, c7, c8, c9, c10, c11, c12, c13, c14, c15].drop 3).take 1) = xs[3]? := by have h0 := hf 3 _ rfl; exact h0
    have f4 : trodA enc w n' 9 (([c0, c1, c2, c3, c4, c5, c6, c7, c8, c9, c10, c11, c12, c13, c14, c15].drop 4).take 1) = xs[4]? := by have h0 := hf 4 _ rfl; exact h0
    have f5 : trodA enc w n' 41 (([c0, c1, c2, c3, c4, c5, c6, c7, c8, c9, c10, c11, c12, c13, c14, c15].drop 5).take 4) = xs[5]? := by have h0 := hf 5 _ rfl; exact h0
    have f6 : trodA enc w n' 42 (([c0, c1, c2, c3, c4, c5, c6, c7, c8, c9, c10, c11, c12, c13, c14, c15].drop 9).take 1) = xs[6]? := by have h0 := hf 6 _ rfl; exact h0
    have f7 : trodA enc w n' 4 (([c0, c1, c2, c3, c4, c5, c6, c7, c8, c9, c10, c11, c12, c13, c14, c15].drop 10).take 1) = xs[7]? := by have h0 := hf 7 _ rfl; exact h0
    have f8 : trodA enc w n' 3 (([c0, c1, c2, c3, c4, c5, c6, c7, c8, c9, c10, c11, c12, c13, c14, c15].drop 11).take 1) = xs[8]? := by have h0 := hf 8 _ rfl; exact h0
    have f9 : trodA enc w n' 44 (([c0, c1, c2, c3, c4, c5, c6, c7, c8, c9, c10, c11, c12, c13, c14, c15].drop 12).take 3) = xs[9]? := by have h0 := hf 9 _ rfl; exact h0
    have f10 : trodA enc w n' 3 (([c0, c1, c2, c3, c4, c5, c6, c7, c8, c9, c10, c11, c12, c13, c14, c15].drop 15).take 1) = xs[10]? := by have h0 := hf 10 _ rfl; exact h0
    simp only [List.drop_zero, List.drop_succ_cons, List.take_succ_cons, List.take_zero] at f0 f1 f2 f3 f4 f5 f6 f7 f8 f9 f10
    match xs, hx' with
    | [y0, y1, y2, y3, y4, y5, y6, y7, y8, y9, y10], _ =>
      simp only [List.getElem?_cons_zero, List.getElem?_cons_succ] at f0 f1 f2 f3 f4 f5 f6 f7 f8 f9 f10
      obtain ⟨q0, e0, z0, w0⟩ := DataW.trod_int Tryz.underlying3 f0
      obtain ⟨q1, e1, z1, w1⟩ := DataW.trod_int Tryz.underlying2 f1
      obtain ⟨q2, e2, z2, w2⟩ := DataW.trod_int Tryz.underlying2 f2
      obtain ⟨q8, e8, z8, w8⟩ := DataW.trod_int Tryz.underlying3 f8
      obtain ⟨q10, e10, z10, w10⟩ := DataW.trod_int Tryz.underlying3 f10
      obtain ⟨q3, e3, z3, w3⟩ := DataW.trod_string Tryz.underlying9 f3
      obtain ⟨q4, e4, z4, w4⟩ := DataW.trod_string Tryz.underlying9 f4
      obtain ⟨q7, e7, z7⟩ := DataW.trod_bool Tryz.underlying4 f7
      obtain ⟨k, a, b, s, e5, -, -, -, -, h5⟩ := open_val2 f5
      obtain ⟨l, hl, -, -⟩ := open_props2 f6
      obtain ⟨lv, lb, rid, e9⟩ := open_res f9
      obtain ⟨pa, pc, e6⟩ := hl.form
      simp only [List.cons.injEq, and_true] at e0 e1 e2 e3 e4 e5 e7 e8 e9 e10
      obtain ⟨g1, g2, g3, g4⟩ := e5
      obtain ⟨g5, g6, g7⟩ := e9
      refine ⟨⟨q0, q1, q2, q3, q4, k, a, b, s, q7, q8, lv, lb, rid, q10⟩, ⟨pa, l.length, pc, by rw [e0, e1, e2, e3, e4, g1, g2, g3, g4, e6, e7, e8, g5, g6, g7, e10]⟩, wf_R64 w1, ?_⟩
      show s.size + 1 ≤ _
      simp only [Rows.uptoBulk, List.map_cons, List.map_nil, Rows.uptoBulkAll]
      omega
theorem open_steps {fuel : Nat} {c : Value} {x : DataW H × List MemPlace} (h : trodA enc w fuel 38 [c] = some x) : ∃ l, Row relS w c l ∧ (∀ y ∈ l, R64 y.id) ∧ (l.map fun y => y.s.size + 1).sum + 1 ≤ Rows.uptoBulk x.1 :=
  open_row Tryz.underlying38 relS (show Tryz.prog.cellsOf 46 = 16 by kernel_rfl) (by decide) (fun y => R64 y.id) (fun y => y.s.size + 1) (fun f cs y hy => by
    obtain ⟨p, e, hp, hb⟩ := open_step hy
    exact ⟨p, e, hp, hb⟩) h
end
theorem st_of {l : List St} (h : ∀ y ∈ l, R64 y.id) (hb : (l.map fun y => y.s.size + 1).sum ≤ 1048576) : l.length ≤ 1048576 ∧ ∀ y ∈ l, y.ok := by
  have h1 := len_sum (fun y : St => y.s.size + 1) (fun _ => by omega) l
  exact ⟨by omega, fun y hy => ⟨h y hy, by have := mem_sum (fun y : St => y.s.size + 1) l y hy; omega⟩⟩
end Go.Proofs.YtifioikdhfhljaaGreatDoor
