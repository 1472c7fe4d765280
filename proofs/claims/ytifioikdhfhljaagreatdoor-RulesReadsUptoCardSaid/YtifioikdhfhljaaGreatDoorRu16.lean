/- Rules: the tables, as the rows lay them. -/
import Derived.Test.YtifioikdhfhljaaGreatDoorRows
import Derived.Test.YtifioikdhfhljaaGreatDoorRu1
import Derived.Lib.LaidU8T
import Derived.OpenShut
import Derived.JoinedCond
import Derived.LaidMore
namespace Go.Proofs.YtifioikdhfhljaaGreatDoor
open Go.ChangeShapes Go.WideShapes Go.ChangeAt Go.RowKit Go.Lib

def frL : List (List UInt8 × Int × Bool × Bool × Bool × Bool) := [([], 0, false, false, false, false), ([117, 110, 105, 113, 117, 101], 3, true, false, false, false), ([110, 101, 101, 100, 115], 3, true, false, false, false), ([111, 110, 108, 121], 4, true, true, false, false), ([108, 105, 110, 107], 4, false, false, true, false), ([109, 111, 115, 116], 3, false, false, false, true), ([111, 114, 100, 101, 114], 2, false, false, false, false)]
def grp6 (e : List UInt8 × Int × Bool × Bool × Bool × Bool) : List Value := [.string ⟨e.1.toArray⟩, I e.2.1, .bool e.2.2.1, .bool e.2.2.2.1, .bool e.2.2.2.2.1, .bool e.2.2.2.2.2]
theorem groups6 : ∀ (L : List (List UInt8 × Int × Bool × Bool × Bool × Bool)) (cs : List Value), cs.length = L.length * 6 → (∀ i e, L[i]? = some e → (cs.drop (i * 6)).take 6 = grp6 e) → cs = L.flatMap grp6
  | [], cs, hl, _ => List.eq_nil_of_length_eq_zero (by simpa using hl)
  | e :: L, cs, hl, h => by
    have h0 := h 0 e rfl
    have h1 := groups6 L (cs.drop 6) (by rw [List.length_drop, hl, List.length_cons]; omega) (fun i e' he => by
      have := h (i + 1) e' (by simpa using he)
      rw [List.drop_drop, show 6 + i * 6 = (i + 1) * 6 by omega]
      exact this)
    rw [List.flatMap_cons, ← h1, ← h0, Nat.zero_mul, List.drop_zero, List.take_append_drop]
set_option maxRecDepth 100000 in
theorem six_open {w : World} {fuel : Nat} {cs : List Value} {y : DataW Unit × List MemPlace} {e : List UInt8 × Int × Bool × Bool × Bool × Bool} (h : DataW.trod (fun _ => ()) Tryz.prog w 0 (fun _ => true) false fuel 146 cs = some y) (hy : y.1 = .agg [.lit (.string e.1), .lit (.int .i64 e.2.1), .lit (.bool e.2.2.1), .lit (.bool e.2.2.2.1), .lit (.bool e.2.2.2.2.1), .lit (.bool e.2.2.2.2.2)]) : cs = grp6 e := by
  obtain ⟨xs, n, rfl, rfl, hl, hx, hf⟩ := DataW.trod_struct Tryz.underlying146 h
  have hl6 : cs.length = 6 := by rw [hl]; kernel_rfl
  obtain ⟨c0, c1, c2, c3, c4, c5, rfl⟩ : ∃ c0 c1 c2 c3 c4 c5, cs = [c0, c1, c2, c3, c4, c5] := by
    match cs, hl6 with
    | [c0, c1, c2, c3, c4, c5], _ => exact ⟨c0, c1, c2, c3, c4, c5, rfl⟩
  clear hl hl6
  have f0 : DataW.trod (fun _ => ()) Tryz.prog w 0 (fun _ => true) false n 9 (([c0, c1, c2, c3, c4, c5].drop 0).take (Tryz.prog.cellsOf 9)) = xs[0]? := hf 0 _ rfl
  have f1 : DataW.trod (fun _ => ()) Tryz.prog w 0 (fun _ => true) false n 3 (([c0, c1, c2, c3, c4, c5].drop 1).take (Tryz.prog.cellsOf 3)) = xs[1]? := hf 1 _ rfl
  have f2 : DataW.trod (fun _ => ()) Tryz.prog w 0 (fun _ => true) false n 4 (([c0, c1, c2, c3, c4, c5].drop 2).take (Tryz.prog.cellsOf 4)) = xs[2]? := hf 2 _ rfl
  have f3 : DataW.trod (fun _ => ()) Tryz.prog w 0 (fun _ => true) false n 4 (([c0, c1, c2, c3, c4, c5].drop 3).take (Tryz.prog.cellsOf 4)) = xs[3]? := hf 3 _ rfl
  have f4 : DataW.trod (fun _ => ()) Tryz.prog w 0 (fun _ => true) false n 4 (([c0, c1, c2, c3, c4, c5].drop 4).take (Tryz.prog.cellsOf 4)) = xs[4]? := hf 4 _ rfl
  have f5 : DataW.trod (fun _ => ()) Tryz.prog w 0 (fun _ => true) false n 4 (([c0, c1, c2, c3, c4, c5].drop 5).take (Tryz.prog.cellsOf 4)) = xs[5]? := hf 5 _ rfl
  simp only [show Tryz.prog.cellsOf 9 = 1 by kernel_rfl, show Tryz.prog.cellsOf 3 = 1 by kernel_rfl, show Tryz.prog.cellsOf 4 = 1 by kernel_rfl, List.drop_zero, List.drop_succ_cons, List.take_succ_cons, List.take_zero] at f0 f1 f2 f3 f4 f5
  match xs, hx with
  | [y0, y1, y2, y3, y4, y5], _ =>
      simp only [List.getElem?_cons_zero, List.getElem?_cons_succ] at f0 f1 f2 f3 f4 f5
      obtain ⟨a0, e0, q0, _⟩ := DataW.trod_string Tryz.underlying9 f0
      obtain ⟨a1, e1, q1, _⟩ := DataW.trod_int Tryz.underlying3 f1
      obtain ⟨a2, e2, q2⟩ := DataW.trod_bool Tryz.underlying4 f2
      obtain ⟨a3, e3, q3⟩ := DataW.trod_bool Tryz.underlying4 f3
      obtain ⟨a4, e4, q4⟩ := DataW.trod_bool Tryz.underlying4 f4
      obtain ⟨a5, e5, q5⟩ := DataW.trod_bool Tryz.underlying4 f5
      simp only [List.map_cons, List.map_nil, DataW.agg.injEq, List.cons.injEq, and_true] at hy
      rw [q0, q1, q2, q3, q4, q5] at hy
      simp only [DataW.lit.injEq, Lit.int.injEq, Lit.string.injEq, Lit.bool.injEq, true_and] at hy
      obtain ⟨h0, h1, h2, h3, h4, h5⟩ := hy
      simp only [List.cons.injEq, and_true] at e0 e1 e2 e3 e4 e5
      rw [e0, e1, e2, e3, e4, e5, h1, h2, h3, h4, h5]
      unfold grp6
      rw [← h0]
set_option maxRecDepth 100000 in
theorem rt_f {W : World} (hv : VarReads Tryz.prog W "trellis/rules.forms" Rows.laid_trellis_rules_forms) : ∀ o, W.cell? ⟨0, o, none⟩ = formsC[o]? := by
  obtain ⟨g, t, cs, fuel, p, hg, hty, hvar, hd⟩ := hv
  obtain rfl : 0 = g := Option.some.inj ((show Tryz.prog.globalNamed "trellis/rules.forms" = some 0 by kernel_rfl).symm.trans hg)
  obtain rfl : 147 = t := Option.some.inj ((show (Tryz.prog.globals[0]?).map (·.type) = some 147 by kernel_rfl).symm.trans hty)
  have hcs : cs.toList = frL.flatMap grp6 := by
    cases fuel with
    | zero => simp [DataW.trod] at hd
    | succ fuel =>
      simp only [DataW.trod, Tryz.underlying147, show Tryz.prog.cellsOf 146 = 6 by kernel_rfl, show Tryz.prog.cellsOf 147 = 42 by kernel_rfl] at hd
      split at hd
      · rename_i hl
        obtain ⟨xs, hm, hx⟩ := Option.map_eq_some_iff.1 hd
        have hxl : xs.length = 7 := by simpa using mapM_length hm
        have hxs : xs.map (·.1) = frL.map fun e => .agg [.lit (.string e.1), .lit (.int .i64 e.2.1), .lit (.bool e.2.2.1), .lit (.bool e.2.2.2.1), .lit (.bool e.2.2.2.2.1), .lit (.bool e.2.2.2.2.2)] := by
          have h1 := congrArg Prod.fst hx
          have h2 : Rows.laid_trellis_rules_forms (H := Unit) = .agg (frL.map fun e => .agg [.lit (.string e.1), .lit (.int .i64 e.2.1), .lit (.bool e.2.2.1), .lit (.bool e.2.2.2.1), .lit (.bool e.2.2.2.2.1), .lit (.bool e.2.2.2.2.2)]) := rfl
          rw [h2] at h1
          simpa using h1
        refine groups6 frL _ (by rw [hl]; rfl) (fun i e he => ?_)
        have hi : i < 7 := (List.getElem?_eq_some_iff.1 he).1
        obtain ⟨y, g1, k1⟩ := mapM_at hm i i (by simp [hi])
        have hyi : y.1 = .agg [.lit (.string e.1), .lit (.int .i64 e.2.1), .lit (.bool e.2.2.1), .lit (.bool e.2.2.2.1), .lit (.bool e.2.2.2.2.1), .lit (.bool e.2.2.2.2.2)] := by
          have h1 := congrArg (fun l => l[i]?) hxs
          simp only [List.getElem?_map, g1, he, Option.map_some, Option.some.injEq] at h1
          exact h1
        exact six_open k1 hyi
      · cases hd
  intro o
  rw [var?_cell hg hvar o, ← Array.getElem?_toList, hcs]
  rfl
theorem strs_open9 {w : World} {fuel ty n : Nat} {cs : List Value} {p : List MemPlace} {L : List (List UInt8)} (ht : Tryz.prog.underlying ty = some (.array n 9)) (hcn : Tryz.prog.cellsOf ty = n) (h : DataW.trod (fun _ => ()) Tryz.prog w 0 (fun _ => true) false fuel ty cs = some (.agg (L.map fun x => .lit (.string x)), p)) : cs = L.map fun x => Value.string ⟨x.toArray⟩ := by
  cases fuel with
  | zero => simp [DataW.trod] at h
  | succ fuel =>
    simp only [DataW.trod, ht, show Tryz.prog.cellsOf 9 = 1 by kernel_rfl] at h
    split at h
    · rename_i hl
      obtain ⟨xs, hm, hx⟩ := Option.map_eq_some_iff.1 h
      rw [hcn] at hl
      have hxl : xs.length = n := by simpa using mapM_length hm
      have hxs : xs.map (·.1) = L.map fun x => DataW.lit (Lit.string x) := by
        have := congrArg Prod.fst hx
        simpa using this
      have hLl : L.length = n := by
        have := congrArg List.length hxs
        simpa [hxl] using this.symm
      apply List.ext_getElem?
      intro i
      by_cases hi : i < n
      · obtain ⟨y, g1, k1⟩ := mapM_at hm i i (by simp [hi])
        have hc1 : (cs.drop (i * 1)).take 1 = [cs[i]'(by omega)] := by
          rw [Nat.mul_one, List.drop_eq_getElem_cons (by omega), List.take_succ_cons, List.take_zero]
        rw [hc1] at k1
        obtain ⟨s, hs, hy, _⟩ := DataW.trod_string Tryz.underlying9 k1
        have hLi : L[i]? = some s.data.toList := by
          have h1 := congrArg (fun l => l[i]?) hxs
          simp only [List.getElem?_map, g1, hy, Option.map_some] at h1
          cases hL : L[i]? with
          | none => rw [hL] at h1; cases h1
          | some z => rw [hL] at h1; simp at h1; rw [h1]
        rw [List.getElem?_map, hLi, List.getElem?_eq_getElem (by omega)]
        simp only [List.cons.injEq, and_true] at hs
        rw [hs]
        simp
      · rw [List.getElem?_eq_none (by omega), List.getElem?_eq_none (by rw [List.length_map]; omega)]
    · cases h
theorem rt_t {W : World} (hv : VarReads Tryz.prog W "trellis/rules.types" Rows.laid_trellis_rules_types) : ∀ o, W.cell? ⟨1, o, none⟩ = typesC[o]? := by
  obtain ⟨g, t, cs, fuel, p, hg, hty, hvar, hd⟩ := hv
  obtain rfl : 1 = g := Option.some.inj ((show Tryz.prog.globalNamed "trellis/rules.types" = some 1 by kernel_rfl).symm.trans hg)
  obtain rfl : 203 = t := Option.some.inj ((show (Tryz.prog.globals[1]?).map (·.type) = some 203 by kernel_rfl).symm.trans hty)
  have hcs := strs_open9 Tryz.underlying203 (by kernel_rfl) (L := wdT) hd
  intro o
  rw [var?_cell hg hvar o, ← Array.getElem?_toList, hcs]
  rfl
end Go.Proofs.YtifioikdhfhljaaGreatDoor
