/- WireAsked: the row, and its tied card. -/
import Derived.Test.YtcdjjmjhdoanlaaGreatDoorWq
import Derived.SizedLaws
import Derived.Test.YtcdjjmjhdoanlaaGreatDoorW17
import Derived.Test.YtcdjjmjhdoanlaaGreatDoorRows
import Derived.Test.YtcdjjmjhdoanlaaGreatDoorCards
import Derived.Test.YtcdjjmjhdoanlaaGreatDoorTie
import Derived.Test.YtcdjjmjhdoanlaaGreatDoorW84
import Derived.OpenShut
import Derived.JoinedCond
import Derived.Deep.DeepHandedRow
import Derived.LaidMore
import Derived.Lib.LaidU8T
import Derived.Lib.LaidTab
import Derived.ProofKit
import Derived.Lay
import Derived.SevenTiedAt
namespace Go.Proofs.YtcdjjmjhdoanlaaGreatDoor
section
section
section
open Go.ChangeShapes Go.WideShapes Go.ChangeAt Go.RowKit

section
variable {H : Type} {enc : TypeId × Value → H} {w : World}
theorem cells_er : Tryz.prog.cellsOf 22 = 1 := by kernel_rfl
theorem cells_fr : Tryz.prog.cellsOf 25 = 3 := by kernel_rfl
set_option maxRecDepth 100000 in
theorem open_frame {fuel : Nat} {cs : List Value} {x : DataW H × List MemPlace} (h : trodA enc w fuel 25 cs = some x) (hb : Rows.uptoBulk x.1 ≤ 1048576) : ∃ f : Int × Int × Value × List Nat, (Value.agg cs.toArray = .agg #[I f.1, I f.2.1, f.2.2.1] ∧ Rb w f.2.2.1 f.2.2.2 ∧ By f.2.2.2) ∧ f.2.2.2.length ≤ 1048576 := by
  obtain ⟨xs, n, rfl, rfl, hl, hx, hf⟩ := DataW.trod_struct Tryz.underlying25 h
  rw [cells_fr] at hl
  match cs, hl with
  | [c0, c1, c2], _ =>
    have f0 : trodA enc w n 22 (([c0, c1, c2].drop 0).take (Tryz.prog.cellsOf 22)) = xs[0]? := hf 0 _ rfl
    have f1 : trodA enc w n 3 (([c0, c1, c2].drop 1).take (Tryz.prog.cellsOf 3)) = xs[1]? := hf 1 _ rfl
    have f2 : trodA enc w n 23 (([c0, c1, c2].drop 2).take (Tryz.prog.cellsOf 23)) = xs[2]? := hf 2 _ rfl
    simp only [cells_er, cells_in, cells_bs, List.drop_zero, List.drop_succ_cons, List.take_succ_cons, List.take_zero] at f0 f1 f2
    match xs, hx with
    | [y0, y1, y2], _ =>
      simp only [List.getElem?_cons_zero, List.getElem?_cons_succ] at f0 f1 f2
      obtain ⟨c, e0, _, _⟩ := DataW.trod_int Tryz.underlying22 f0
      obtain ⟨k, e1, _, _⟩ := DataW.trod_int Tryz.underlying3 f1
      obtain ⟨l, r1, r2, r3⟩ := open_bytes f2
      simp only [List.cons.injEq, and_true] at e0 e1
      subst e0 e1
      simp only [List.map_cons, List.map_nil, Rows.uptoBulk, Rows.uptoBulkAll] at hb
      refine ⟨(c, k, c2, l), ⟨rfl, r1, r2⟩, ?_⟩
      show l.length ≤ _; omega
end
end
open Go.ChangeShapes Go.WideShapes Go.ChangeAt Go.RowKit

section
variable {H : Type} {enc : TypeId × Value → H} {w : World}
theorem bytes_u : Tryz.prog.bytesOf 5 = 1 := by kernel_rfl
theorem open_bytes2 {fuel : Nat} {c : Value} {x : DataW H × List MemPlace} (h : trodA enc w fuel 23 [c] = some x) : ∃ l, Rb w c l ∧ By l ∧ (l = [] ∨ ∃ es ss, x.1 = .slice es ss ∧ es.length = l.length) := by
  obtain ⟨l, r1, r2, _⟩ := open_bytes h
  obtain ⟨p, cap, e⟩ := r1.form
  refine ⟨l, r1, r2, ?_⟩
  rcases Go.Deep.open_slice Tryz.underlying23 h with ⟨hc, rfl⟩ | ⟨a, len, cap', m, n, D, Pl, hc, _, hl, hm, rfl, rfl, hx⟩
  · have hc : c = .slice none 0 0 := by simpa using hc
    rw [e] at hc
    injection hc with _ h2 _
    exact .inl (List.length_eq_zero_iff.1 h2)
  · have hc : c = .slice (some a) len m := by simpa using hc
    rw [e] at hc
    injection hc with _ h2 _
    exact .inr ⟨_, _, rfl, by simp; omega⟩
set_option maxRecDepth 100000 in
theorem open_frame2 {fuel : Nat} {cs : List Value} {x : DataW H × List MemPlace} (h : trodA enc w fuel 25 cs = some x) : ∃ f : Int × Int × Value × List Nat, (Value.agg cs.toArray = .agg #[I f.1, I f.2.1, f.2.2.1] ∧ Rb w f.2.2.1 f.2.2.2 ∧ By f.2.2.2) ∧ (f.2.2.2 = [] ∨ ∃ d0 d1 es ss, x.1 = .agg [d0, d1, .slice es ss] ∧ es.length = f.2.2.2.length) := by
  obtain ⟨xs, n, rfl, rfl, hl, hx, hf⟩ := DataW.trod_struct Tryz.underlying25 h
  rw [cells_fr] at hl
  match cs, hl with
  | [c0, c1, c2], _ =>
    have f0 : trodA enc w n 22 (([c0, c1, c2].drop 0).take (Tryz.prog.cellsOf 22)) = xs[0]? := hf 0 _ rfl
    have f1 : trodA enc w n 3 (([c0, c1, c2].drop 1).take (Tryz.prog.cellsOf 3)) = xs[1]? := hf 1 _ rfl
    have f2 : trodA enc w n 23 (([c0, c1, c2].drop 2).take (Tryz.prog.cellsOf 23)) = xs[2]? := hf 2 _ rfl
    simp only [cells_er, cells_in, cells_bs, List.drop_zero, List.drop_succ_cons, List.take_succ_cons, List.take_zero] at f0 f1 f2
    match xs, hx with
    | [y0, y1, y2], _ =>
      simp only [List.getElem?_cons_zero, List.getElem?_cons_succ] at f0 f1 f2
      obtain ⟨c, e0, _, _⟩ := DataW.trod_int Tryz.underlying22 f0
      obtain ⟨k, e1, _, _⟩ := DataW.trod_int Tryz.underlying3 f1
      obtain ⟨l, r1, r2, r3⟩ := open_bytes2 f2
      simp only [List.cons.injEq, and_true] at e0 e1
      subst e0 e1
      refine ⟨(c, k, c2, l), ⟨rfl, r1, r2⟩, ?_⟩
      rcases r3 with r3 | ⟨es, ss, r3, r4⟩
      · exact .inl r3
      · exact .inr ⟨y0.1, y1.1, es, ss, by rw [← r3]; rfl, r4⟩
end
end
open Go.ChangeShapes Go.WideShapes Go.ChangeAt Go.RowKit

section
variable {H : Type} {enc : TypeId × Value → H} {w : World}
set_option maxRecDepth 100000 in
theorem open_frame3 {fuel : Nat} {cs : List Value} {x : DataW H × List MemPlace} (h : trodA enc w fuel 25 cs = some x) : ∃ f : Int × Int × Value × List Nat, (Value.agg cs.toArray = .agg #[I f.1, I f.2.1, f.2.2.1] ∧ Rb w f.2.2.1 f.2.2.2 ∧ By f.2.2.2 ∧ R64 f.2.1) ∧ (f.2.2.2 = [] ∨ ∃ d0 d1 es ss, x.1 = .agg [d0, d1, .slice es ss] ∧ es.length = f.2.2.2.length) := by
  obtain ⟨xs, n, rfl, rfl, hl, hx, hf⟩ := DataW.trod_struct Tryz.underlying25 h
  rw [cells_fr] at hl
  match cs, hl with
  | [c0, c1, c2], _ =>
    have f0 : trodA enc w n 22 (([c0, c1, c2].drop 0).take (Tryz.prog.cellsOf 22)) = xs[0]? := hf 0 _ rfl
    have f1 : trodA enc w n 3 (([c0, c1, c2].drop 1).take (Tryz.prog.cellsOf 3)) = xs[1]? := hf 1 _ rfl
    have f2 : trodA enc w n 23 (([c0, c1, c2].drop 2).take (Tryz.prog.cellsOf 23)) = xs[2]? := hf 2 _ rfl
    simp only [cells_er, cells_in, cells_bs, List.drop_zero, List.drop_succ_cons, List.take_succ_cons, List.take_zero] at f0 f1 f2
    match xs, hx with
    | [y0, y1, y2], _ =>
      simp only [List.getElem?_cons_zero, List.getElem?_cons_succ] at f0 f1 f2
      obtain ⟨c, e0, _, _⟩ := DataW.trod_int Tryz.underlying22 f0
      obtain ⟨k, e1, _, hw1⟩ := DataW.trod_int Tryz.underlying3 f1
      obtain ⟨l, r1, r2, r3⟩ := open_bytes2 f2
      simp only [List.cons.injEq, and_true] at e0 e1
      subst e0 e1
      refine ⟨(c, k, c2, l), ⟨rfl, r1, r2, bounds_i64 hw1⟩, ?_⟩
      rcases r3 with r3 | ⟨es, ss, r3, r4⟩
      · exact .inl r3
      · exact .inr ⟨y0.1, y1.1, es, ss, by rw [← r3]; rfl, r4⟩
end
end
theorem wireOne_card : Rows.WireOneCardSaid :=
  Claim7.holds_tied_plain_at .later [] _ _ _ _ wireOne.said (fun _ h => by cases h) (by kernel_rfl) (fun _ h => by cases h) wireOne_row_tie rfl ⟨rfl, rfl⟩ (by kernel_rfl) rfl wireOne.plain (by kernel_rfl)
#print axioms wireOne_card
end Go.Proofs.YtcdjjmjhdoanlaaGreatDoor
