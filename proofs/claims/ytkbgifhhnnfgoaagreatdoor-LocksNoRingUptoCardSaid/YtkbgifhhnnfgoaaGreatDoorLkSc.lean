/- Locks: a script that came in, opened. -/
import Derived.Test.YtkbgifhhnnfgoaaGreatDoorLk76
import Derived.Deep.Slices
import Derived.SizedLaws
import Derived.ProofKit
import Derived.OpenShut
namespace Go.Proofs.YtkbgifhhnnfgoaaGreatDoor
open Go.ChangeShapes Go.WideShapes Go.ChangeAt Go.RowKit

instance : Inhabited Lo := ⟨⟨0, 0, 0, 0, ⟨0, ByteArray.empty, 0⟩, 0⟩⟩
section
variable {H : Type} {enc : TypeId × Value → H} {w : World}
noncomputable abbrev trodA (enc : TypeId × Value → H) (w : World) (fuel : Nat) (t : TypeId) (cs : List Value) : Option (DataW H × List MemPlace) := DataW.trod enc Tryz.prog w 0 (fun _ => true) true fuel t cs
theorem spot_of {a : Addr} {v : Value} (h : w.cell? (a.add 0) = some v) : ∃ b o, a = ⟨b, o, none⟩ := by
  obtain ⟨b, o, s⟩ := a
  have e : Addr.add ⟨b, o, s⟩ 0 = ⟨b, o, s⟩ := by simp [Addr.add]
  rw [e] at h
  cases s with
  | none => exact ⟨b, o, rfl⟩
  | some x =>
    unfold World.cell? at h
    split at h
    · simp at h
    · cases h
theorem cells_i : Tryz.prog.cellsOf 3 = 1 := by kernel_rfl
theorem cells_6 : Tryz.prog.cellsOf 2 = 1 := by kernel_rfl
theorem cells_s : Tryz.prog.cellsOf 9 = 1 := by kernel_rfl
theorem cells_r : Tryz.prog.cellsOf 24 = 3 := by kernel_rfl
theorem cells_o : Tryz.prog.cellsOf 34 = 8 := by kernel_rfl
theorem r64_wf {n : Int} (h : (Lit.int .i64 n).wf = true) : R64 n := kyI_ok.1 ⟨_, Maps.keyOf_int_mk Tryz.underlying3 h⟩
set_option maxRecDepth 100000 in
theorem open_rs {n : Nat} {c0 c1 c2 : Value} {y : DataW H × List MemPlace} (h : trodA enc w n 24 [c0, c1, c2] = some y) : ∃ r : Rs, c0 = I r.lv ∧ c1 = .string r.lb ∧ c2 = I r.id ∧ r.ok := by
  obtain ⟨xs, n', rfl, _, hl', hx', hf⟩ := DataW.trod_struct Tryz.underlying24 h
  have f0 : trodA enc w n' 3 (([c0, c1, c2].drop 0).take (Tryz.prog.cellsOf 3)) = xs[0]? := hf 0 _ rfl
  have f1 : trodA enc w n' 9 (([c0, c1, c2].drop 1).take (Tryz.prog.cellsOf 9)) = xs[1]? := hf 1 _ rfl
  have f2 : trodA enc w n' 2 (([c0, c1, c2].drop 2).take (Tryz.prog.cellsOf 2)) = xs[2]? := hf 2 _ rfl
  simp only [cells_i, cells_s, cells_6, List.drop_zero, List.drop_succ_cons, List.take_succ_cons, List.take_zero] at f0 f1 f2
  match xs, hx' with
  | [y0, y1, y2], _ =>
    simp only [List.getElem?_cons_zero, List.getElem?_cons_succ] at f0 f1 f2
    obtain ⟨q0, e0, _, w0⟩ := DataW.trod_int Tryz.underlying3 f0
    obtain ⟨q1, e1, _, w1⟩ := DataW.trod_string Tryz.underlying9 f1
    obtain ⟨q2, e2, _, w2⟩ := DataW.trod_int Tryz.underlying2 f2
    simp only [List.cons.injEq, and_true] at e0 e1 e2
    exact ⟨⟨q0, q1, q2⟩, e0, e1, e2, r64_wf w0, w1, r64_wf w2⟩
set_option maxRecDepth 100000 in
theorem open_lop {n : Nat} {cs : List Value} {y : DataW H × List MemPlace} (h : trodA enc w n 34 cs = some y) : ∃ o : Lo, cs = o.c ∧ R64 o.x ∧ o.r.ok := by
  obtain ⟨xs, n', rfl, _, hl', hx', hf⟩ := DataW.trod_struct Tryz.underlying34 h
  rw [cells_o] at hl'
  match cs, hl' with
  | [c0, c1, c2, c3, c4, c5, c6, c7], _ =>
    have f0 : trodA enc w n' 3 (([c0, c1, c2, c3, c4, c5, c6, c7].drop 0).take (Tryz.prog.cellsOf 3)) = xs[0]? := hf 0 _ rfl
    have f1 : trodA enc w n' 3 (([c0, c1, c2, c3, c4, c5, c6, c7].drop 1).take (Tryz.prog.cellsOf 3)) = xs[1]? := hf 1 _ rfl
    have f2 : trodA enc w n' 3 (([c0, c1, c2, c3, c4, c5, c6, c7].drop 2).take (Tryz.prog.cellsOf 3)) = xs[2]? := hf 2 _ rfl
    have f3 : trodA enc w n' 2 (([c0, c1, c2, c3, c4, c5, c6, c7].drop 3).take (Tryz.prog.cellsOf 2)) = xs[3]? := hf 3 _ rfl
    have f4 : trodA enc w n' 24 (([c0, c1, c2, c3, c4, c5, c6, c7].drop 4).take (Tryz.prog.cellsOf 24)) = xs[4]? := hf 4 _ rfl
    have f5 : trodA enc w n' 3 (([c0, c1, c2, c3, c4, c5, c6, c7].drop 7).take (Tryz.prog.cellsOf 3)) = xs[5]? := hf 5 _ rfl
    simp only [cells_i, cells_6, cells_r, List.drop_zero, List.drop_succ_cons, List.take_succ_cons, List.take_zero] at f0 f1 f2 f3 f4 f5
    match xs, hx' with
    | [y0, y1, y2, y3, y4, y5], _ =>
      simp only [List.getElem?_cons_zero, List.getElem?_cons_succ] at f0 f1 f2 f3 f4 f5
      obtain ⟨q0, e0, _, w0⟩ := DataW.trod_int Tryz.underlying3 f0
      obtain ⟨q1, e1, _, w1⟩ := DataW.trod_int Tryz.underlying3 f1
      obtain ⟨q2, e2, _, w2⟩ := DataW.trod_int Tryz.underlying3 f2
      obtain ⟨q3, e3, _, w3⟩ := DataW.trod_int Tryz.underlying2 f3
      obtain ⟨r, e4, e5, e6, hr⟩ := open_rs f4
      obtain ⟨q7, e7, _, w7⟩ := DataW.trod_int Tryz.underlying3 f5
      simp only [List.cons.injEq, and_true] at e0 e1 e2 e3 e7
      refine ⟨⟨q0, q1, q2, q3, r, q7⟩, ?_, r64_wf w2, hr⟩
      rw [e0, e1, e2, e3, e4, e5, e6, e7]; rfl
theorem open_lops {fuel : Nat} {c : Value} {x : DataW H × List MemPlace} (h : trodA enc w fuel 22 [c] = some x) :
    ∃ (N : Nat) (X : Nat → Lo), ScL w c N X ∧ (∀ i, i < N → R64 (X i).x ∧ (X i).r.ok) ∧ (N = 0 ∨ ∃ es ss, x.1 = .slice es ss ∧ es.length = N) := by
  rcases Go.Deep.open_slice Tryz.underlying22 h with ⟨hc, rfl⟩ | ⟨a, len, cap, m, n, D, Pl, hc, _, hl, hm, rfl, rfl, hx⟩
  · obtain rfl : c = .slice none 0 0 := by simpa using hc
    exact ⟨0, fun _ => ⟨0, 0, 0, 0, ⟨0, ByteArray.empty, 0⟩, 0⟩, ⟨none, 0, rfl, .inl rfl⟩, fun i hi => (by omega), .inl rfl⟩
  · have each : ∀ i, i < m → ∃ q : Lo, (∀ j, j < 8 → w.cell? (a.add (i * 8 + j)) = q.c[j]?) ∧ R64 q.x ∧ q.r.ok := by
      intro i hi
      obtain ⟨cs', h1, h2⟩ := hx i hi
      obtain ⟨o, rfl, k1, k2⟩ := open_lop h2
      rw [cells_o] at h1
      obtain ⟨_, _, hcell⟩ := World.cells?_some h1
      refine ⟨o, fun j hj => ?_, k1, k2⟩
      have := hcell j hj
      rw [Go.Deep.add_add] at this
      exact this
    obtain ⟨X, hX⟩ := Go.Deep.choose_lt each
    obtain rfl : c = .slice (some a) len m := by simpa using hc
    refine ⟨len, X, ⟨some a, m, rfl, ?_⟩, fun i hi => (hX i (by omega)).2, .inr ⟨_, _, rfl, by simp⟩⟩
    by_cases h0 : len = 0
    · exact .inl h0
    · obtain ⟨b, o, rfl⟩ := spot_of (by have := (hX 0 (by omega)).1 0 (by omega); simpa [Lo.c] using this)
      refine .inr ⟨b, o, rfl, fun i hi j hj => ?_⟩
      have := (hX i (by omega)).1 j hj
      rw [Addr.add_mid, ← Nat.add_assoc] at this
      exact this
end
end Go.Proofs.YtkbgifhhnnfgoaaGreatDoor
