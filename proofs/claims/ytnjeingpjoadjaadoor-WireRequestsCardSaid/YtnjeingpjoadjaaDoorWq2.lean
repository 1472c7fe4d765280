/- Wire: requests, opened, of any size. -/
import Derived.Test.YtnjeingpjoadjaaDoorWq
import Derived.SizedLaws
namespace Go.Proofs.YtnjeingpjoadjaaDoor
open Go.ChangeShapes Go.WideShapes Go.ChangeAt Go.RowKit

section
variable {H : Type} {enc : TypeId × Value → H} {w : World}
theorem bytes_64 : Tryd.prog.bytesOf 2 = 8 := by kernel_rfl
theorem bytes_bo : Tryd.prog.bytesOf 4 = 1 := by kernel_rfl
theorem open_64s2 {fuel : Nat} {c : Value} {x : DataW H × List MemPlace} (h : trodA enc w fuel 22 [c] = some x) : ∃ l, (Row eI.rel w c l ∧ ∀ n ∈ l, R64 n) ∧ (l = [] ∨ ∃ es ss, x.1 = .slice es ss ∧ es.length = l.length) := by
  obtain ⟨l, r1, r2, _⟩ := open_64s h
  obtain ⟨p, cap, e⟩ := r1.form
  refine ⟨l, ⟨r1, r2⟩, ?_⟩
  rcases Go.Deep.open_slice Tryd.underlying22 h with ⟨hc, rfl⟩ | ⟨a, len, cap', m, n, D, Pl, hc, _, hl, hm, rfl, rfl, hx⟩
  · have hc : c = .slice none 0 0 := by simpa using hc
    rw [e] at hc
    injection hc with _ h2 _
    exact .inl (List.length_eq_zero_iff.1 h2)
  · have hc : c = .slice (some a) len m := by simpa using hc
    rw [e] at hc
    injection hc with _ h2 _
    exact .inr ⟨_, _, rfl, by simp; omega⟩
theorem open_bls2 {fuel : Nat} {c : Value} {x : DataW H × List MemPlace} (h : trodA enc w fuel 23 [c] = some x) : ∃ l, Row eZ.rel w c l ∧ (l = [] ∨ ∃ es ss, x.1 = .slice es ss ∧ es.length = l.length) := by
  obtain ⟨l, r1, _⟩ := open_bls h
  obtain ⟨p, cap, e⟩ := r1.form
  refine ⟨l, r1, ?_⟩
  rcases Go.Deep.open_slice Tryd.underlying23 h with ⟨hc, rfl⟩ | ⟨a, len, cap', m, n, D, Pl, hc, _, hl, hm, rfl, rfl, hx⟩
  · have hc : c = .slice none 0 0 := by simpa using hc
    rw [e] at hc
    injection hc with _ h2 _
    exact .inl (List.length_eq_zero_iff.1 h2)
  · have hc : c = .slice (some a) len m := by simpa using hc
    rw [e] at hc
    injection hc with _ h2 _
    exact .inr ⟨_, _, rfl, by simp; omega⟩
set_option maxRecDepth 100000 in
theorem open_req2 {fuel : Nat} {cs : List Value} {x : DataW H × List MemPlace} (h : trodA enc w fuel 25 cs = some x) (hs : ∀ n ∈ x.1.weights Tryd.prog 25, n ≤ 140737488351232) : ∃ q : Rq, RqV w (.agg cs.toArray) q := by
  obtain ⟨xs, n, rfl, rfl, hl, hx, hf⟩ := DataW.trod_struct Tryd.underlying25 h
  rw [cells_rq] at hl
  match cs, hl with
  | [c0, c1, c2, c3], _ =>
    have f0 : trodA enc w n 3 (([c0, c1, c2, c3].drop 0).take (Tryd.prog.cellsOf 3)) = xs[0]? := hf 0 _ rfl
    have f1 : trodA enc w n 22 (([c0, c1, c2, c3].drop 1).take (Tryd.prog.cellsOf 22)) = xs[1]? := hf 1 _ rfl
    have f2 : trodA enc w n 9 (([c0, c1, c2, c3].drop 2).take (Tryd.prog.cellsOf 9)) = xs[2]? := hf 2 _ rfl
    have f3 : trodA enc w n 23 (([c0, c1, c2, c3].drop 3).take (Tryd.prog.cellsOf 23)) = xs[3]? := hf 3 _ rfl
    simp only [cells_in, cells_64s, cells_st, cells_bls, List.drop_zero, List.drop_succ_cons, List.take_succ_cons, List.take_zero] at f0 f1 f2 f3
    match xs, hx with
    | [y0, y1, y2, y3], _ =>
      simp only [List.getElem?_cons_zero, List.getElem?_cons_succ] at f0 f1 f2 f3
      obtain ⟨k, e0, _, _⟩ := DataW.trod_int Tryd.underlying3 f0
      obtain ⟨ns, ⟨r1, r2⟩, r3⟩ := open_64s2 f1
      obtain ⟨t, e2, e2', _⟩ := DataW.trod_string Tryd.underlying9 f2
      obtain ⟨bs, z1, z2⟩ := open_bls2 f3
      simp only [List.cons.injEq, and_true] at e0 e2
      subst e0 e2
      have hs : ∀ n ∈ DataW.weights Tryd.prog 25 (.agg [y0.1, y1.1, y2.1, y3.1]), n ≤ 140737488351232 := hs
      have hts : t.data.toList.length = t.size := by rw [Array.length_toList]; rfl
      refine ⟨⟨k, ns, t, bs⟩, ⟨c1, c3, rfl, r1, z1⟩, r2, ?_, ?_, ?_⟩
      · show ns.length ≤ _
        rcases r3 with r3 | ⟨es, ss, r3, r4⟩
        · rw [r3]; simp
        · have h8 := hs ((es.length + ss.length) * Tryd.prog.bytesOf 2) (by rw [r3]; simp [DataW.weights, Tryd.underlying25, DataW.weightsEach, Tryd.underlying22])
          rw [bytes_64] at h8
          omega
      · show t.size ≤ _
        have h8 := hs t.data.toList.length (by rw [e2']; simp [DataW.weights, Tryd.underlying25, DataW.weightsEach])
        omega
      · show bs.length ≤ _
        rcases z2 with z2 | ⟨es, ss, z2, z4⟩
        · rw [z2]; simp
        · have h8 := hs ((es.length + ss.length) * Tryd.prog.bytesOf 4) (by rw [z2]; simp [DataW.weights, Tryd.underlying25, DataW.weightsEach, Tryd.underlying23])
          rw [bytes_bo] at h8
          omega
end
end Go.Proofs.YtnjeingpjoadjaaDoor
