/- SyntaxDeep: the row and its tied card. -/
import Derived.Test.YthpflfkgbapbnaaGreatDoorRows
import Derived.Test.YthpflfkgbapbnaaGreatDoorCards
import Derived.Test.YthpflfkgbapbnaaGreatDoorTie
import Derived.Test.YthpflfkgbapbnaaGreatDoorScriptOpen
import Derived.Test.YthpflfkgbapbnaaGreatDoorRe24
import Derived.Lib.LaidU8T
import Derived.Lib.LaidTab
import Derived.ProofKit
import Derived.LaidMore
import Derived.OpenShut
import Derived.ChangeMaps5
import Derived.Stop.Joined
import Derived.Lay
import Derived.SevenTiedAt
namespace Go.Proofs.YthpflfkgbapbnaaGreatDoor.syntaxDeep
open Go.ChangeShapes Go.WideShapes Go.ChangeAt Go.RowKit Go.Lib Go.Shelf

theorem own : ownKnob Tryz.prog.godebug = none := by kernel_rfl
theorem laidOut : laidOutB Tryz.prog = true := by kernel_rfl
theorem tabs {W : World} (h : laidMet Tryz.prog Rows.syntaxDeepRow.laid W) : Tabs W :=
  utf8Tabs_of_readsT (U8Types.of196 Tryz.laysValid) ⟨by kernel_rfl, by kernel_rfl, by kernel_rfl, by kernel_rfl, by kernel_rfl, by kernel_rfl, by kernel_rfl⟩
    ((by kernel_rfl : Rows.laid_unicode_utf8_first = firstData) ▸ Lib.laidMet.reads h (.tail _ (.tail _ (.tail _ (.tail _ (.tail _ (.tail _ (.tail _ (.tail _ (.tail _ (.tail _ (.tail _ (.tail _ (.head _))))))))))))))
    ((by kernel_rfl : Rows.laid_unicode_utf8_acceptRanges (H := Unit) = acceptData) ▸ Lib.laidMet.reads h (.tail _ (.tail _ (.tail _ (.head _)))))
theorem pair_open {w : World} {fuel : Nat} {c d : Value} {y : DataW Unit × List MemPlace} {a b : Int} (h : DataW.trod (fun _ => ()) Tryz.prog w 0 (fun _ => true) false fuel 215 [c, d] = some y) (hy : y.1 = .agg [.lit (.int .u8 a), .lit (.int .u8 b)]) : c = .int .u8 a ∧ d = .int .u8 b := by
  obtain ⟨xs, n, rfl, rfl, hl, hx, hf⟩ := DataW.trod_struct Tryz.underlying215 h
  have f0 : DataW.trod (fun _ => ()) Tryz.prog w 0 (fun _ => true) false n 5 (([c, d].drop 0).take (Tryz.prog.cellsOf 5)) = xs[0]? := hf 0 _ rfl
  have f1 : DataW.trod (fun _ => ()) Tryz.prog w 0 (fun _ => true) false n 5 (([c, d].drop 1).take (Tryz.prog.cellsOf 5)) = xs[1]? := hf 1 _ rfl
  simp only [show Tryz.prog.cellsOf 5 = 1 by kernel_rfl, List.drop_zero, List.drop_succ_cons, List.take_succ_cons, List.take_zero] at f0 f1
  match xs, hx with
  | [y0, y1], _ =>
    simp only [List.getElem?_cons_zero, List.getElem?_cons_succ] at f0 f1
    obtain ⟨a', e0, q0, _⟩ := DataW.trod_int Tryz.underlying5 f0
    obtain ⟨b', e1, q1, _⟩ := DataW.trod_int Tryz.underlying5 f1
    simp only [List.map_cons, List.map_nil, DataW.agg.injEq, List.cons.injEq, and_true] at hy
    rw [q0, q1] at hy
    simp only [DataW.lit.injEq, Lit.int.injEq, true_and] at hy
    obtain ⟨rfl, rfl⟩ := hy
    simp only [List.cons.injEq, and_true] at e0 e1
    exact ⟨e0, e1⟩
set_option maxRecDepth 100000 in
theorem esc_open {w : World} {fuel : Nat} {cs : List Value} {p : List MemPlace} (h : DataW.trod (fun _ => ()) Tryz.prog w 0 (fun _ => true) false fuel 216 cs = some (Rows.laid_trellis_value_escapes, p)) : cs = [.int .u8 92, .int .u8 92, .int .u8 39, .int .u8 39, .int .u8 10, .int .u8 110, .int .u8 9, .int .u8 116, .int .u8 13, .int .u8 114] := by
  cases fuel with
  | zero => simp [DataW.trod] at h
  | succ fuel =>
    simp only [DataW.trod, Tryz.underlying216, show Tryz.prog.cellsOf 215 = 2 by kernel_rfl, show Tryz.prog.cellsOf 216 = 10 by kernel_rfl] at h
    split at h
    · rename_i hl
      obtain ⟨xs, hm, hx⟩ := Option.map_eq_some_iff.1 h
      have hxs : xs.map (·.1) = [.agg [.lit (.int .u8 92), .lit (.int .u8 92)], .agg [.lit (.int .u8 39), .lit (.int .u8 39)], .agg [.lit (.int .u8 10), .lit (.int .u8 110)], .agg [.lit (.int .u8 9), .lit (.int .u8 116)], .agg [.lit (.int .u8 13), .lit (.int .u8 114)]] := by
        have := congrArg Prod.fst hx
        simpa [Rows.laid_trellis_value_escapes] using this
      have hxl : xs.length = 5 := by simpa using mapM_length hm
      match cs, hl with
      | [c0, c1, c2, c3, c4, c5, c6, c7, c8, c9], _ =>
        match xs, hxl, hxs, hm with
        | [y0, y1, y2, y3, y4], _, hxs, hm =>
          simp only [List.map_cons, List.map_nil, List.cons.injEq, and_true] at hxs
          obtain ⟨z0, z1, z2, z3, z4⟩ := hxs
          obtain ⟨b0, g0, k0⟩ := mapM_at hm 0 0 (by simp)
          obtain rfl : y0 = b0 := Option.some.inj g0
          simp at k0
          obtain ⟨rfl, rfl⟩ := pair_open k0 z0
          obtain ⟨b1, g1, k1⟩ := mapM_at hm 1 1 (by simp)
          obtain rfl : y1 = b1 := Option.some.inj g1
          simp at k1
          obtain ⟨rfl, rfl⟩ := pair_open k1 z1
          obtain ⟨b2, g2, k2⟩ := mapM_at hm 2 2 (by simp)
          obtain rfl : y2 = b2 := Option.some.inj g2
          simp at k2
          obtain ⟨rfl, rfl⟩ := pair_open k2 z2
          obtain ⟨b3, g3, k3⟩ := mapM_at hm 3 3 (by simp)
          obtain rfl : y3 = b3 := Option.some.inj g3
          simp at k3
          obtain ⟨rfl, rfl⟩ := pair_open k3 z3
          obtain ⟨b4, g4, k4⟩ := mapM_at hm 4 4 (by simp)
          obtain rfl : y4 = b4 := Option.some.inj g4
          simp at k4
          obtain ⟨rfl, rfl⟩ := pair_open k4 z4
          rfl
    · cases h
theorem err_open {w : World} {fuel : Nat} {cs : List Value} {p : List MemPlace} {nm : String} {d : DataW Unit} (h : DataW.trod (fun _ => ()) Tryz.prog w 0 (fun _ => true) false fuel 105 cs = some (.iface nm d, p)) : ∃ tp q, cs = [.iface tp q] := by
  obtain ⟨_, u, v, rfl, _⟩ := iface_of_trod Tryz.underlying105 h
  exact ⟨u, v, rfl⟩
theorem arr_of {cs : Array Value} {l : List Value} (h : cs.toList = l) : cs = l.toArray := by rw [← h]
theorem env {W : World} (h : laidMet Tryz.prog Rows.syntaxDeepRow.laid W) : Env W := by
  refine ⟨tabs h, ?_, ?_, ?_, ?_⟩
  · have hv : VarReads Tryz.prog W "internal/strconv.uint64pow10" (tabData .u64 pow10Tab) := (by kernel_rfl : Rows.laid_internal_strconv_uint64pow10 = tabData .u64 pow10Tab) ▸ Lib.laidMet.reads h (.tail _ (.tail _ (.head _)))
    obtain ⟨g, t, cs, fuel, p, hg, hty, hvar, hd⟩ := hv
    obtain rfl : 0 = g := Option.some.inj ((show Tryz.prog.globalNamed "internal/strconv.uint64pow10" = some 0 by kernel_rfl).symm.trans hg)
    obtain rfl : 84 = t := Option.some.inj ((show (Tryz.prog.globals[0]?).map (·.type) = some 84 by kernel_rfl).symm.trans hty)
    have hcs := cells_of_tab Tryz.underlying84 Tryz.underlying65 (by kernel_rfl) (by kernel_rfl) hd
    unfold TabIs
    rw [hvar, arr_of hcs]
  · have hv : VarReads Tryz.prog W "strconv.ErrSyntax" Rows.laid_strconv_ErrSyntax := Lib.laidMet.reads h (.tail _ (.tail _ (.tail _ (.tail _ (.tail _ (.head _))))))
    obtain ⟨g, t, cs, fuel, p, hg, hty, hvar, hd⟩ := hv
    obtain rfl : 7 = g := Option.some.inj ((show Tryz.prog.globalNamed "strconv.ErrSyntax" = some 7 by kernel_rfl).symm.trans hg)
    obtain rfl : 105 = t := Option.some.inj ((show (Tryz.prog.globals[7]?).map (·.type) = some 105 by kernel_rfl).symm.trans hty)
    obtain ⟨tp, q, hcs⟩ := err_open hd
    exact ⟨tp, q, by rw [hvar, arr_of hcs]⟩
  · have hv : VarReads Tryz.prog W "strconv.ErrRange" Rows.laid_strconv_ErrRange := Lib.laidMet.reads h (.tail _ (.tail _ (.tail _ (.tail _ (.head _)))))
    obtain ⟨g, t, cs, fuel, p, hg, hty, hvar, hd⟩ := hv
    obtain rfl : 8 = g := Option.some.inj ((show Tryz.prog.globalNamed "strconv.ErrRange" = some 8 by kernel_rfl).symm.trans hg)
    obtain rfl : 105 = t := Option.some.inj ((show (Tryz.prog.globals[8]?).map (·.type) = some 105 by kernel_rfl).symm.trans hty)
    obtain ⟨tp, q, hcs⟩ := err_open hd
    exact ⟨tp, q, by rw [hvar, arr_of hcs]⟩
  · have hv : VarReads Tryz.prog W "trellis/value.escapes" Rows.laid_trellis_value_escapes := Lib.laidMet.reads h (.tail _ (.tail _ (.tail _ (.tail _ (.tail _ (.tail _ (.head _)))))))
    obtain ⟨g, t, cs, fuel, p, hg, hty, hvar, hd⟩ := hv
    obtain rfl : 11 = g := Option.some.inj ((show Tryz.prog.globalNamed "trellis/value.escapes" = some 11 by kernel_rfl).symm.trans hg)
    obtain rfl : 216 = t := Option.some.inj ((show (Tryz.prog.globals[11]?).map (·.type) = some 216 by kernel_rfl).symm.trans hty)
    rw [hvar, arr_of (esc_open hd)]
theorem strs_open {w : World} {fuel ty n : Nat} {cs : List Value} {p : List MemPlace} {L : List (List UInt8)} (ht : Tryz.prog.underlying ty = some (.array n 9)) (hcn : Tryz.prog.cellsOf ty = n) (h : DataW.trod (fun _ => ()) Tryz.prog w 0 (fun _ => true) false fuel ty cs = some (.agg (L.map fun x => .lit (.string x)), p)) : cs = L.map fun x => Value.string (sU x) := by
  cases fuel with
  | zero => simp [DataW.trod] at h
  | succ fuel =>
    simp only [DataW.trod, ht, show Tryz.prog.cellsOf 9 = 1 by kernel_rfl] at h
    split at h
    · rename_i hl
      obtain ⟨xs, hm, hx⟩ := Option.map_eq_some_iff.1 h
      rw [hcn] at hl
      have hxl : xs.length = n := by simpa using mapM_length hm
      have hxs : xs.map (·.1) = L.map fun x => DataW.lit (Lit.string x) := by
        have := congrArg Prod.fst hx
        simpa using this
      have hLl : L.length = n := by
        have := congrArg List.length hxs
        simpa [hxl] using this.symm
      apply List.ext_getElem?
      intro i
      by_cases hi : i < n
      · obtain ⟨y, g1, k1⟩ := mapM_at hm i i (by simp [hi])
        have hc1 : (cs.drop (i * 1)).take 1 = [cs[i]'(by omega)] := by
          rw [Nat.mul_one, List.drop_eq_getElem_cons (by omega), List.take_succ_cons, List.take_zero]
        rw [hc1] at k1
        obtain ⟨s, hs, hy, _⟩ := DataW.trod_string Tryz.underlying9 k1
        have hLi : L[i]? = some s.data.toList := by
          have h1 := congrArg (fun l => l[i]?) hxs
          simp only [List.getElem?_map, g1, hy, Option.map_some] at h1
          cases hL : L[i]? with
          | none => rw [hL] at h1; cases h1
          | some z => rw [hL] at h1; simp at h1; rw [h1]
        rw [List.getElem?_map, hLi, List.getElem?_eq_getElem (by omega)]
        simp only [List.cons.injEq, and_true] at hs
        rw [hs]
        simp [sU]
      · rw [List.getElem?_eq_none (by omega), List.getElem?_eq_none (by rw [List.length_map]; omega)]
    · cases h
theorem lxe {W : World} (h : laidMet Tryz.prog Rows.syntaxDeepRow.laid W) : Lxe W := by
  refine ⟨env h, ?_, ?_⟩
  · have hv : VarReads Tryz.prog W "trellis/syntax.words" Rows.laid_trellis_syntax_words := Lib.laidMet.reads h (.tail _ (.tail _ (.tail _ (.tail _ (.tail _ (.tail _ (.tail _ (.head _))))))))
    obtain ⟨g, t, cs, fuel, p, hg, hty, hvar, hd⟩ := hv
    obtain rfl : 1 = g := Option.some.inj ((show Tryz.prog.globalNamed "trellis/syntax.words" = some 1 by kernel_rfl).symm.trans hg)
    obtain rfl : 137 = t := Option.some.inj ((show (Tryz.prog.globals[1]?).map (·.type) = some 137 by kernel_rfl).symm.trans hty)
    rw [hvar]
    exact congrArg some (arr_of (strs_open Tryz.underlying137 (by kernel_rfl) (L := wdL) hd))
  · have hv : VarReads Tryz.prog W "trellis/syntax.marks" Rows.laid_trellis_syntax_marks := Lib.laidMet.reads h (.tail _ (.tail _ (.tail _ (.tail _ (.tail _ (.tail _ (.tail _ (.tail _ (.head _)))))))))
    obtain ⟨g, t, cs, fuel, p, hg, hty, hvar, hd⟩ := hv
    obtain rfl : 5 = g := Option.some.inj ((show Tryz.prog.globalNamed "trellis/syntax.marks" = some 5 by kernel_rfl).symm.trans hg)
    obtain rfl : 159 = t := Option.some.inj ((show (Tryz.prog.globals[5]?).map (·.type) = some 159 by kernel_rfl).symm.trans hty)
    rw [hvar]
    exact congrArg some (arr_of (strs_open Tryz.underlying159 (by kernel_rfl) (L := mkL) hd))
def grp (e : List UInt8 × Int × Bool) : List Value := [.string (sU e.1), I e.2.1, .bool e.2.2]
theorem groups : ∀ (L : List (List UInt8 × Int × Bool)) (cs : List Value), cs.length = L.length * 3 → (∀ i e, L[i]? = some e → (cs.drop (i * 3)).take 3 = grp e) → cs = L.flatMap grp
  | [], cs, hl, _ => List.eq_nil_of_length_eq_zero (by simpa using hl)
  | e :: L, cs, hl, h => by
    have h0 := h 0 e rfl
    have h1 := groups L (cs.drop 3) (by rw [List.length_drop, hl, List.length_cons]; omega) (fun i e' he => by
      have := h (i + 1) e' (by simpa using he)
      rw [List.drop_drop, show 3 + i * 3 = (i + 1) * 3 by omega]
      exact this)
    rw [List.flatMap_cons, ← h1, ← h0, Nat.zero_mul, List.drop_zero, List.take_append_drop]
set_option maxRecDepth 100000 in
theorem trip_open {w : World} {fuel : Nat} {cs : List Value} {y : DataW Unit × List MemPlace} {e : List UInt8 × Int × Bool} (h : DataW.trod (fun _ => ()) Tryz.prog w 0 (fun _ => true) false fuel 143 cs = some y) (hy : y.1 = .agg [.lit (.string e.1), .lit (.int .i64 e.2.1), .lit (.bool e.2.2)]) : cs = grp e := by
  obtain ⟨xs, n, rfl, rfl, hl, hx, hf⟩ := DataW.trod_struct Tryz.underlying143 h
  have hl3 : cs.length = 3 := by rw [hl]; kernel_rfl
  obtain ⟨c, d, f, rfl⟩ : ∃ c d f, cs = [c, d, f] := by
    match cs, hl3 with
    | [c, d, f], _ => exact ⟨c, d, f, rfl⟩
  clear hl hl3
  · have f0 : DataW.trod (fun _ => ()) Tryz.prog w 0 (fun _ => true) false n 9 (([c, d, f].drop 0).take (Tryz.prog.cellsOf 9)) = xs[0]? := hf 0 _ rfl
    have f1 : DataW.trod (fun _ => ()) Tryz.prog w 0 (fun _ => true) false n 3 (([c, d, f].drop 1).take (Tryz.prog.cellsOf 3)) = xs[1]? := hf 1 _ rfl
    have f2 : DataW.trod (fun _ => ()) Tryz.prog w 0 (fun _ => true) false n 4 (([c, d, f].drop 2).take (Tryz.prog.cellsOf 4)) = xs[2]? := hf 2 _ rfl
    simp only [show Tryz.prog.cellsOf 9 = 1 by kernel_rfl, show Tryz.prog.cellsOf 3 = 1 by kernel_rfl, show Tryz.prog.cellsOf 4 = 1 by kernel_rfl, List.drop_zero, List.drop_succ_cons, List.take_succ_cons, List.take_zero] at f0 f1 f2
    match xs, hx with
    | [y0, y1, y2], _ =>
      simp only [List.getElem?_cons_zero, List.getElem?_cons_succ] at f0 f1 f2
      obtain ⟨a', e0, q0, _⟩ := DataW.trod_string Tryz.underlying9 f0
      obtain ⟨b', e1, q1, _⟩ := DataW.trod_int Tryz.underlying3 f1
      obtain ⟨c', e2, q2⟩ := DataW.trod_bool Tryz.underlying4 f2
      simp only [List.map_cons, List.map_nil, DataW.agg.injEq, List.cons.injEq, and_true] at hy
      rw [q0, q1, q2] at hy
      simp only [DataW.lit.injEq, Lit.int.injEq, Lit.string.injEq, Lit.bool.injEq, true_and] at hy
      obtain ⟨h0, h1, h2⟩ := hy
      simp only [List.cons.injEq, and_true] at e0 e1 e2
      rw [e0, e1, e2, h1, h2]
      unfold grp
      rw [← h0]
      simp [sU]
set_option maxRecDepth 100000 in
theorem opv {W : World} (h : laidMet Tryz.prog Rows.syntaxDeepRow.laid W) : OpV W := by
  have hv : VarReads Tryz.prog W "trellis/syntax.operators" Rows.laid_trellis_syntax_operators := Lib.laidMet.reads h (.tail _ (.tail _ (.tail _ (.tail _ (.tail _ (.tail _ (.tail _ (.tail _ (.tail _ (.head _))))))))))
  obtain ⟨g, t, cs, fuel, p, hg, hty, hvar, hd⟩ := hv
  obtain rfl : 2 = g := Option.some.inj ((show Tryz.prog.globalNamed "trellis/syntax.operators" = some 2 by kernel_rfl).symm.trans hg)
  obtain rfl : 144 = t := Option.some.inj ((show (Tryz.prog.globals[2]?).map (·.type) = some 144 by kernel_rfl).symm.trans hty)
  unfold OpV
  rw [hvar]
  have hcs : cs.toList = opsL.flatMap grp := by
    cases fuel with
    | zero => simp [DataW.trod] at hd
    | succ fuel =>
      simp only [DataW.trod, Tryz.underlying144, show Tryz.prog.cellsOf 143 = 3 by kernel_rfl, show Tryz.prog.cellsOf 144 = 57 by kernel_rfl] at hd
      split at hd
      · rename_i hl
        obtain ⟨xs, hm, hx⟩ := Option.map_eq_some_iff.1 hd
        have hxl : xs.length = 19 := by simpa using mapM_length hm
        have hxs : xs.map (·.1) = opsL.map fun e => .agg [.lit (.string e.1), .lit (.int .i64 e.2.1), .lit (.bool e.2.2)] := by
          have h1 := congrArg Prod.fst hx
          have h2 : Rows.laid_trellis_syntax_operators (H := Unit) = .agg (opsL.map fun e => .agg [.lit (.string e.1), .lit (.int .i64 e.2.1), .lit (.bool e.2.2)]) := rfl
          rw [h2] at h1
          simpa using h1
        refine groups opsL _ (by rw [hl]; rfl) (fun i e he => ?_)
        have hi : i < 19 := (List.getElem?_eq_some_iff.1 he).1
        obtain ⟨y, g1, k1⟩ := mapM_at hm i i (by simp [hi])
        have hyi : y.1 = .agg [.lit (.string e.1), .lit (.int .i64 e.2.1), .lit (.bool e.2.2)] := by
          have h1 := congrArg (fun l => l[i]?) hxs
          simp only [List.getElem?_map, g1, he, Option.map_some, Option.some.injEq] at h1
          exact h1
        exact trip_open k1 hyi
      · cases hd
  rw [arr_of hcs]
  rfl
def fnL : List (List UInt8 × Int × Int × Int × Int) := [([], 0, 0, 0, 0), ([114, 101], 1, 1, 0, 0), ([105, 109], 1, 1, 0, 0), ([99, 111, 110, 106], 1, 1, 0, 0), ([110, 111, 114, 109], 1, 1, 0, 0), ([108, 101, 110], 1, 1, 0, 0), ([97, 98, 115], 1, 1, 0, 0), ([99, 112, 120], 2, 2, 0, 0), ([108, 97, 98, 101, 108], 1, 1, 0, 0), ([116, 121, 112, 101], 1, 1, 0, 0), ([100, 101, 103], 1, 1, 0, 1), ([100, 105, 115, 116], 2, 2, 2, 2), ([104, 111, 112, 115], 2, 2, 0, 1), ([99, 111, 97, 108, 101, 115, 99, 101], 1, 9, 0, 0)]
def grp5 (e : List UInt8 × Int × Int × Int × Int) : List Value := [.string (sU e.1), I e.2.1, I e.2.2.1, I e.2.2.2.1, I e.2.2.2.2]
theorem groups5 : ∀ (L : List (List UInt8 × Int × Int × Int × Int)) (cs : List Value), cs.length = L.length * 5 → (∀ i e, L[i]? = some e → (cs.drop (i * 5)).take 5 = grp5 e) → cs = L.flatMap grp5
  | [], cs, hl, _ => List.eq_nil_of_length_eq_zero (by simpa using hl)
  | e :: L, cs, hl, h => by
    have h0 := h 0 e rfl
    have h1 := groups5 L (cs.drop 5) (by rw [List.length_drop, hl, List.length_cons]; omega) (fun i e' he => by
      have := h (i + 1) e' (by simpa using he)
      rw [List.drop_drop, show 5 + i * 5 = (i + 1) * 5 by omega]
      exact this)
    rw [List.flatMap_cons, ← h1, ← h0, Nat.zero_mul, List.drop_zero, List.take_append_drop]
set_option maxRecDepth 100000 in
theorem five_open {w : World} {fuel : Nat} {cs : List Value} {y : DataW Unit × List MemPlace} {e : List UInt8 × Int × Int × Int × Int} (h : DataW.trod (fun _ => ()) Tryz.prog w 0 (fun _ => true) false fuel 210 cs = some y) (hy : y.1 = .agg [.lit (.string e.1), .lit (.int .i64 e.2.1), .lit (.int .i64 e.2.2.1), .lit (.int .i64 e.2.2.2.1), .lit (.int .i64 e.2.2.2.2)]) : cs = grp5 e := by
  obtain ⟨xs, n, rfl, rfl, hl, hx, hf⟩ := DataW.trod_struct Tryz.underlying210 h
  have hl5 : cs.length = 5 := by rw [hl]; kernel_rfl
  obtain ⟨c0, c1, c2, c3, c4, rfl⟩ : ∃ c0 c1 c2 c3 c4, cs = [c0, c1, c2, c3, c4] := by
    match cs, hl5 with
    | [c0, c1, c2, c3, c4], _ => exact ⟨c0, c1, c2, c3, c4, rfl⟩
  clear hl hl5
  have f0 : DataW.trod (fun _ => ()) Tryz.prog w 0 (fun _ => true) false n 9 (([c0, c1, c2, c3, c4].drop 0).take (Tryz.prog.cellsOf 9)) = xs[0]? := hf 0 _ rfl
  have f1 : DataW.trod (fun _ => ()) Tryz.prog w 0 (fun _ => true) false n 3 (([c0, c1, c2, c3, c4].drop 1).take (Tryz.prog.cellsOf 3)) = xs[1]? := hf 1 _ rfl
  have f2 : DataW.trod (fun _ => ()) Tryz.prog w 0 (fun _ => true) false n 3 (([c0, c1, c2, c3, c4].drop 2).take (Tryz.prog.cellsOf 3)) = xs[2]? := hf 2 _ rfl
  have f3 : DataW.trod (fun _ => ()) Tryz.prog w 0 (fun _ => true) false n 3 (([c0, c1, c2, c3, c4].drop 3).take (Tryz.prog.cellsOf 3)) = xs[3]? := hf 3 _ rfl
  have f4 : DataW.trod (fun _ => ()) Tryz.prog w 0 (fun _ => true) false n 3 (([c0, c1, c2, c3, c4].drop 4).take (Tryz.prog.cellsOf 3)) = xs[4]? := hf 4 _ rfl
  simp only [show Tryz.prog.cellsOf 9 = 1 by kernel_rfl, show Tryz.prog.cellsOf 3 = 1 by kernel_rfl, List.drop_zero, List.drop_succ_cons, List.take_succ_cons, List.take_zero] at f0 f1 f2 f3 f4
  match xs, hx with
  | [y0, y1, y2, y3, y4], _ =>
      simp only [List.getElem?_cons_zero, List.getElem?_cons_succ] at f0 f1 f2 f3 f4
      obtain ⟨a0, e0, q0, _⟩ := DataW.trod_string Tryz.underlying9 f0
      obtain ⟨a1, e1, q1, _⟩ := DataW.trod_int Tryz.underlying3 f1
      obtain ⟨a2, e2, q2, _⟩ := DataW.trod_int Tryz.underlying3 f2
      obtain ⟨a3, e3, q3, _⟩ := DataW.trod_int Tryz.underlying3 f3
      obtain ⟨a4, e4, q4, _⟩ := DataW.trod_int Tryz.underlying3 f4
      simp only [List.map_cons, List.map_nil, DataW.agg.injEq, List.cons.injEq, and_true] at hy
      rw [q0, q1, q2, q3, q4] at hy
      simp only [DataW.lit.injEq, Lit.int.injEq, Lit.string.injEq, true_and] at hy
      obtain ⟨h0, h1, h2, h3, h4⟩ := hy
      simp only [List.cons.injEq, and_true] at e0 e1 e2 e3 e4
      rw [e0, e1, e2, e3, e4, h1, h2, h3, h4]
      unfold grp5
      rw [← h0]
      simp [sU]
set_option maxRecDepth 100000 in
theorem fnv {W : World} (h : laidMet Tryz.prog Rows.syntaxDeepRow.laid W) : FnV W := by
  have hv : VarReads Tryz.prog W "trellis/syntax.functions" Rows.laid_trellis_syntax_functions := Lib.laidMet.reads h (.tail _ (.tail _ (.tail _ (.tail _ (.tail _ (.tail _ (.tail _ (.tail _ (.tail _ (.tail _ (.head _)))))))))))
  obtain ⟨g, t, cs, fuel, p, hg, hty, hvar, hd⟩ := hv
  obtain rfl : 9 = g := Option.some.inj ((show Tryz.prog.globalNamed "trellis/syntax.functions" = some 9 by kernel_rfl).symm.trans hg)
  obtain rfl : 211 = t := Option.some.inj ((show (Tryz.prog.globals[9]?).map (·.type) = some 211 by kernel_rfl).symm.trans hty)
  unfold FnV
  rw [hvar]
  have hcs : cs.toList = fnL.flatMap grp5 := by
    cases fuel with
    | zero => simp [DataW.trod] at hd
    | succ fuel =>
      simp only [DataW.trod, Tryz.underlying211, show Tryz.prog.cellsOf 210 = 5 by kernel_rfl, show Tryz.prog.cellsOf 211 = 70 by kernel_rfl] at hd
      split at hd
      · rename_i hl
        obtain ⟨xs, hm, hx⟩ := Option.map_eq_some_iff.1 hd
        have hxl : xs.length = 14 := by simpa using mapM_length hm
        have hxs : xs.map (·.1) = fnL.map fun e => .agg [.lit (.string e.1), .lit (.int .i64 e.2.1), .lit (.int .i64 e.2.2.1), .lit (.int .i64 e.2.2.2.1), .lit (.int .i64 e.2.2.2.2)] := by
          have h1 := congrArg Prod.fst hx
          have h2 : Rows.laid_trellis_syntax_functions (H := Unit) = .agg (fnL.map fun e => .agg [.lit (.string e.1), .lit (.int .i64 e.2.1), .lit (.int .i64 e.2.2.1), .lit (.int .i64 e.2.2.2.1), .lit (.int .i64 e.2.2.2.2)]) := rfl
          rw [h2] at h1
          simpa using h1
        refine groups5 fnL _ (by rw [hl]; rfl) (fun i e he => ?_)
        have hi : i < 14 := (List.getElem?_eq_some_iff.1 he).1
        obtain ⟨y, g1, k1⟩ := mapM_at hm i i (by simp [hi])
        have hyi : y.1 = .agg [.lit (.string e.1), .lit (.int .i64 e.2.1), .lit (.int .i64 e.2.2.1), .lit (.int .i64 e.2.2.2.1), .lit (.int .i64 e.2.2.2.2)] := by
          have h1 := congrArg (fun l => l[i]?) hxs
          simp only [List.getElem?_map, g1, he, Option.map_some, Option.some.injEq] at h1
          exact h1
        exact five_open k1 hyi
      · cases hd
  rw [arr_of hcs]
  rfl
set_option maxRecDepth 100000 in
set_option maxHeartbeats 2000000 in
theorem lifted (os : Os) (started : os.Started) (H : Type) (enc : TypeId × Value → H) :
    ReturnsInHanded {} Tryz.checked os 3 .any (fun w args => (Rows.syntaxDeepSpec.pre enc Tryz.prog Tryz.f3 [] false w args ∧ laidMetH Tryz.prog Rows.syntaxDeepRow.laid w) ∧ sizedMet enc Tryz.prog Tryz.f3 (OpenSpec.ofChange Rows.syntaxDeepSpec) false w args)
      (Rows.syntaxDeepSpec.post enc Tryz.prog Tryz.f3 false true false false) := by
  refine returnsInHanded_of_change_and (C := Tryz.checked) (X := fun w _ => laidMetH Tryz.prog Rows.syntaxDeepRow.laid w) (fun _ _ _ hh h => h.of_heap hh) own started (by kernel_rfl) Tryz.func3
    (ChangeSpec.witness_shaped (enc := enc) (C := Tryz.checked) (os := os) (X := fun w _ => laidMetH Tryz.prog Rows.syntaxDeepRow.laid w) false (World.laidAll Tryz.prog os Rows.syntaxDeepRow.laid) #[.int .i64 0, .int .i64 0, .int .i64 0] 8 (World.laidAll_os _ _ _)
      (World.shaped_of_ZipB (by kernel_rfl) (by kernel_rfl)) (by kernel_rfl) (by kernel_rfl) (by kernel_rfl)
      (by rw [MakeChecks.laidMetH_plain _ _ _ (by kernel_rfl)]; exact laidMet_laidAll _ (by kernel_rfl) (by kernel_rfl))) ?_
  intro W base args ds gs before hval0 hW _ hwt hL _
  have hval : ∀ (j : Nat) t v, Tryz.f3.params[j]? = some t → args[j]? = some v → Value.okWide Tryz.prog W .any base t v := hval0
  have hW' := hW
  obtain ⟨p, q, hA0, hV, rfl, _, _⟩ := hW
  have hA : DataW.TrodAll enc Tryz.prog W 0 (fun _ => true) true Tryz.f3.params.toList args.toList ds p := hA0
  rw [Tryz.params3] at hA hval
  obtain ⟨v0, vs0, d0, ds0, p0, q0, hargs, rfl, rfl, h0, r0⟩ := trodAll_cons hA
  obtain ⟨v1, vs1, d1, ds1, p1, q1, rfl, rfl, rfl, h1, r1⟩ := trodAll_cons r0
  obtain ⟨v2, vs2, d2, ds2, p2, q2, rfl, rfl, rfl, h2, r2⟩ := trodAll_cons r1
  obtain ⟨rfl, rfl, rfl⟩ := trodAll_nil r2
  obtain rfl : args = #[v0, v1, v2] := by cases args; simp_all
  obtain ⟨rfl, rfl⟩ := trodVars_none hV
  have hlt : ∀ x ∈ p0 ++ (p1 ++ (p2 ++ [])), x.block < W.heap.size := fun x hx => by simpa using hW'.lt x (by simpa using hx)
  have hlt0 : ∀ x ∈ p0, x.block < W.heap.size := fun x hx => hlt x (by simp [hx])
  have hlt1 : ∀ x ∈ p1, x.block < W.heap.size := fun x hx => hlt x (by simp [hx])
  have hlt2 : ∀ x ∈ p2, x.block < W.heap.size := fun x hx => hlt x (by simp [hx])
  have hs0 : Small 3 d0 := fun n hn => by
    have hm : n ∈ DataW.weightsEach Tryz.prog (Tryz.f3.params.toList ++ Rows.syntaxDeepSpec.plain.varTypes Tryz.prog) ([d0, d1, d2] ++ []) := by
      rw [Tryz.params3]
      exact DataW.weights_mem_each (j := 0) rfl rfl n hn
    simpa using List.all_eq_true.1 hwt n hm
  have t0 := h0
  have hs1 : Small 3 d1 := fun n hn => by
    have hm : n ∈ DataW.weightsEach Tryz.prog (Tryz.f3.params.toList ++ Rows.syntaxDeepSpec.plain.varTypes Tryz.prog) ([d0, d1, d2] ++ []) := by
      rw [Tryz.params3]
      exact DataW.weights_mem_each (j := 1) rfl rfl n hn
    simpa using List.all_eq_true.1 hwt n hm
  have t1 := h1
  have hs2 : Small 3 d2 := fun n hn => by
    have hm : n ∈ DataW.weightsEach Tryz.prog (Tryz.f3.params.toList ++ Rows.syntaxDeepSpec.plain.varTypes Tryz.prog) ([d0, d1, d2] ++ []) := by
      rw [Tryz.params3]
      exact DataW.weights_mem_each (j := 2) rfl rfl n hn
    simpa using List.all_eq_true.1 hwt n hm
  have t2 := h2
  obtain ⟨n0, rfl, _, _, w0⟩ := open_int Tryz.underlying3 (hval 0 3 v0 rfl rfl) t0
  obtain ⟨n1, rfl, _, _, w1⟩ := open_int Tryz.underlying3 (hval 1 3 v1 rfl rfl) t1
  obtain ⟨n2, rfl, _, _, w2⟩ := open_int Tryz.underlying3 (hval 2 3 v2 rfl rfl) t2
  have hL' : laidMet Tryz.prog Rows.syntaxDeepRow.laid W := by rw [MakeChecks.laidMetH_plain _ _ _ (by kernel_rfl)] at hL; exact hL
  have hE : Lxe W := lxe hL'
  refine (deep_law _ _ _ W hE (opv hL') (fnv hL')).mono fun e W' ⟨he, hg⟩ => ?_
  subst he
  exact ⟨_, rfl, _, _, _, [], _, [], hW', trodAll_mk1 (shut_bool Tryz.underlying4 _), (trodAll_cons_mk (Below.trod laidOut (by kernel_rfl) (of_decide_eq_true (by kernel_rfl)) h0 hg hlt0) (trodAll_cons_mk (Below.trod laidOut (by kernel_rfl) (of_decide_eq_true (by kernel_rfl)) h1 hg hlt1) (trodAll_cons_mk (Below.trod laidOut (by kernel_rfl) (of_decide_eq_true (by kernel_rfl)) h2 hg hlt2) trodAll_mk0))), rfl, Below.frame hg _, fun h => by cases h⟩

theorem holds : Rows.SyntaxDeepSaid :=
  OpenClaim.holds_of_wide 3 Tryz.f3 rfl rfl rfl rfl rfl rfl rfl ⟨rfl, rfl, rfl, rfl, rfl⟩ rfl rfl rfl rfl rfl (by kernel_rfl) Tryz.func3 (by kernel_rfl)
    (of_decide_eq_true (by kernel_rfl)) (by unfold Func.isWrapper; first | (rw [if_pos (by decide +kernel)]; kernel_rfl) | (rw [if_neg (by decide +kernel)]; exact ⟨rfl, rfl⟩))
    (fun os started H enc _ => lifted os started H enc)
end Go.Proofs.YthpflfkgbapbnaaGreatDoor.syntaxDeep
namespace Go.Proofs.YthpflfkgbapbnaaGreatDoor
theorem syntaxDeep_card : Rows.SyntaxDeepCardSaid :=
  Claim7.holds_tied_plain_at .later [] [.data, .data, .data, .data, .sentinel, .sentinel, .data, .data, .data, .data, .data, .data, .pinned] true (true, "09f0e70d8ab982ffbb091e17f04b0db0176b1fba7266e087ea2d7a1cc455e7d2") true syntaxDeep.holds (fun _ h => by cases h) (by kernel_rfl) (fun _ h => by cases h) syntaxDeep_row_tie rfl ⟨rfl, rfl⟩ (by kernel_rfl) rfl
    (fun f fn hf hfn => by
      obtain rfl : f = 3 := Option.some.inj ((show Tryz.prog.funcNamed "trellis/trellislaw10.SyntaxDeep" = some 3 by kernel_rfl).symm.trans hf) |>.symm
      obtain rfl : fn = Tryz.f3 := (Option.some.inj (Tryz.func3.symm.trans hfn)).symm
      exact ⟨by kernel_rfl, fun j t ht => by
        rw [Tryz.params3] at ht
        have hm : t ∈ [3, 3, 3] := by simpa using Array.mem_of_getElem? ht
        have hall : ([3, 3, 3].all fun u => !Tryz.prog.wantsStandIn u) = true := by kernel_rfl
        exact (show Tryz.prog.wantsStandIn t = false by simpa using List.all_eq_true.1 hall t hm)⟩)
    (by kernel_rfl)
#print axioms syntaxDeep_card
end Go.Proofs.YthpflfkgbapbnaaGreatDoor
