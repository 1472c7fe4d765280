/- Wire: frames, opened. -/
import Derived.Test.YtnjeingpjoadjaaDoorWq
namespace Go.Proofs.YtnjeingpjoadjaaDoor
open Go.ChangeShapes Go.WideShapes Go.ChangeAt Go.RowKit

section
variable {H : Type} {enc : TypeId × Value → H} {w : World}
theorem cells_er : Tryd.prog.cellsOf 28 = 1 := by kernel_rfl
theorem cells_fr : Tryd.prog.cellsOf 35 = 3 := by kernel_rfl
set_option maxRecDepth 100000 in
theorem open_frame {fuel : Nat} {cs : List Value} {x : DataW H × List MemPlace} (h : trodA enc w fuel 35 cs = some x) (hb : Rows.uptoBulk x.1 ≤ 1048576) : ∃ f : Int × Int × Value × List Nat, (Value.agg cs.toArray = .agg #[I f.1, I f.2.1, f.2.2.1] ∧ Rb w f.2.2.1 f.2.2.2 ∧ By f.2.2.2) ∧ f.2.2.2.length ≤ 1048576 := by
  obtain ⟨xs, n, rfl, rfl, hl, hx, hf⟩ := DataW.trod_struct Tryd.underlying35 h
  rw [cells_fr] at hl
  match cs, hl with
  | [c0, c1, c2], _ =>
    have f0 : trodA enc w n 28 (([c0, c1, c2].drop 0).take (Tryd.prog.cellsOf 28)) = xs[0]? := hf 0 _ rfl
    have f1 : trodA enc w n 3 (([c0, c1, c2].drop 1).take (Tryd.prog.cellsOf 3)) = xs[1]? := hf 1 _ rfl
    have f2 : trodA enc w n 27 (([c0, c1, c2].drop 2).take (Tryd.prog.cellsOf 27)) = xs[2]? := hf 2 _ rfl
    simp only [cells_er, cells_in, cells_bs, List.drop_zero, List.drop_succ_cons, List.take_succ_cons, List.take_zero] at f0 f1 f2
    match xs, hx with
    | [y0, y1, y2], _ =>
      simp only [List.getElem?_cons_zero, List.getElem?_cons_succ] at f0 f1 f2
      obtain ⟨c, e0, _, _⟩ := DataW.trod_int Tryd.underlying28 f0
      obtain ⟨k, e1, _, _⟩ := DataW.trod_int Tryd.underlying3 f1
      obtain ⟨l, r1, r2, r3⟩ := open_bytes f2
      simp only [List.cons.injEq, and_true] at e0 e1
      subst e0 e1
      simp only [List.map_cons, List.map_nil, Rows.uptoBulk, Rows.uptoBulkAll] at hb
      refine ⟨(c, k, c2, l), ⟨rfl, r1, r2⟩, ?_⟩
      show l.length ≤ _; omega
end
end Go.Proofs.YtnjeingpjoadjaaDoor
