/- What came in, opened: nets; the mark. -/
import Derived.Test.YtemkilffagjmcaaDoorPj6
import Derived.Test.YtemkilffagjmcaaDoorRows
import Derived.Deep.Slices
import Derived.SizedLaws
import Derived.ProofKit
import Derived.Lib.LaidU8
namespace Go.Proofs.YtemkilffagjmcaaDoor
open Go.ChangeShapes Go.WideShapes Go.ChangeAt Go.RowKit

theorem cells_i : Tryd.prog.cellsOf 2 = 1 := by kernel_rfl
theorem cells_e : Tryd.prog.cellsOf 31 = 1 := by kernel_rfl
theorem cells_bo : Tryd.prog.cellsOf 4 = 1 := by kernel_rfl
theorem cells_as : Tryd.prog.cellsOf 37 = 1 := by kernel_rfl
theorem cells_rs : Tryd.prog.cellsOf 22 = 1 := by kernel_rfl
theorem cells_a : Tryd.prog.cellsOf 40 = 3 := by kernel_rfl
theorem cells_r : Tryd.prog.cellsOf 51 = 3 := by kernel_rfl
theorem cells_n : Tryd.prog.cellsOf 26 = 2 := by kernel_rfl
theorem r64 {n : Int} (h : (Lit.int .i64 n).wf = true) : R64 n := wf_R64.1 h
theorem flA_at {l : List Ar} {w : World} {b off : Nat} (h : ∀ i x, l[i]? = some x → w.cell? ⟨b, off + i * 3, none⟩ = some (I x.1) ∧ w.cell? ⟨b, off + i * 3 + 1, none⟩ = some (I x.2.1) ∧ w.cell? ⟨b, off + i * 3 + 2, none⟩ = some (I x.2.2)) : ∀ o, o < l.length * 3 → w.cell? ⟨b, off + o, none⟩ = (flA l)[o]? := fun o ho => by
  obtain ⟨x, hx⟩ : ∃ x, l[o / 3]? = some x := ⟨_, List.getElem?_eq_getElem (by omega)⟩
  obtain ⟨h1, h2, h3⟩ := h _ _ hx
  obtain ⟨g1, g2, g3⟩ := flA_get l _ x hx
  have : o % 3 = 0 ∨ o % 3 = 1 ∨ o % 3 = 2 := by omega
  rcases this with e | e | e
  · have e2 : o = o / 3 * 3 := by omega
    rw [e2, g1, h1]
  · have e2 : o = o / 3 * 3 + 1 := by omega
    rw [e2, g2, ← Nat.add_assoc, h2]
  · have e2 : o = o / 3 * 3 + 2 := by omega
    rw [e2, g3, ← Nat.add_assoc, h3]
section
variable {H : Type} {enc : TypeId × Value → H} {w : World}
theorem bulk_pos (d : DataW H) : 1 ≤ Rows.uptoBulk d := by
  cases d with
  | lit l => cases l <;> simp [Rows.uptoBulk]
  | _ => simp [Rows.uptoBulk]
theorem bulk_mem : ∀ {l : List (DataW H)} {d : DataW H}, d ∈ l → Rows.uptoBulk d ≤ Rows.uptoBulkAll l
  | x :: r, d, h => by
    simp only [Rows.uptoBulkAll]
    rcases List.mem_cons.1 h with rfl | h
    · omega
    · have := bulk_mem h; omega
theorem bulk_len : ∀ l : List (DataW H), l.length ≤ Rows.uptoBulkAll l
  | [] => by simp
  | x :: r => by
    have := bulk_pos x
    have := bulk_len r
    simp only [Rows.uptoBulkAll, List.length_cons]
    omega
theorem bulk_slice (es sp : List (DataW H)) : es.length ≤ Rows.uptoBulk (.slice es sp) := by
  have := bulk_len es
  simp only [Rows.uptoBulk]
  omega
theorem bulk_elem {es sp : List (DataW H)} {d : DataW H} (h : d ∈ es) : Rows.uptoBulk d ≤ Rows.uptoBulk (.slice es sp) := by
  have := bulk_mem h
  simp only [Rows.uptoBulk]
  omega
theorem bulk_part {ps : List (DataW H)} {d : DataW H} (h : d ∈ ps) : Rows.uptoBulk d ≤ Rows.uptoBulk (.agg ps) := by
  have := bulk_mem h
  simp only [Rows.uptoBulk]
  omega
noncomputable abbrev trodA (enc : TypeId × Value → H) (w : World) (fuel : Nat) (t : TypeId) (cs : List Value) : Option (DataW H × List MemPlace) := DataW.trod enc Tryd.prog w 0 (fun _ => true) true fuel t cs
theorem spot_of {a : Addr} {v : Value} (h : w.cell? (a.add 0) = some v) : ∃ b o, a = ⟨b, o, none⟩ := by
  obtain ⟨b, o, s⟩ := a
  have e : Addr.add ⟨b, o, s⟩ 0 = ⟨b, o, s⟩ := by simp [Addr.add]
  rw [e] at h
  cases s with
  | none => exact ⟨b, o, rfl⟩
  | some x =>
    unfold World.cell? at h
    split at h
    · simp at h
    · cases h
set_option maxRecDepth 100000 in
theorem open_arc {fuel : Nat} {cs : List Value} {x : DataW H × List MemPlace} (h : trodA enc w fuel 40 cs = some x) : ∃ a : Ar, cs = [I a.1, I a.2.1, I a.2.2] ∧ Ar.ok a := by
  obtain ⟨xs, n, rfl, rfl, hl, hx, hf⟩ := DataW.trod_struct Tryd.underlying40 h
  rw [cells_a] at hl
  match cs, hl with
  | [c0, c1, c2], _ =>
    have f0 : trodA enc w n 2 (([c0, c1, c2].drop 0).take (Tryd.prog.cellsOf 2)) = xs[0]? := hf 0 _ rfl
    have f1 : trodA enc w n 2 (([c0, c1, c2].drop 1).take (Tryd.prog.cellsOf 2)) = xs[1]? := hf 1 _ rfl
    have f2 : trodA enc w n 2 (([c0, c1, c2].drop 2).take (Tryd.prog.cellsOf 2)) = xs[2]? := hf 2 _ rfl
    simp only [cells_i, List.drop_zero, List.drop_succ_cons, List.take_succ_cons, List.take_zero] at f0 f1 f2
    match xs, hx with
    | [y0, y1, y2], _ =>
      simp only [List.getElem?_cons_zero, List.getElem?_cons_succ] at f0 f1 f2
      obtain ⟨q0, e0, _, w0⟩ := DataW.trod_int Tryd.underlying2 f0
      obtain ⟨q1, e1, _, w1⟩ := DataW.trod_int Tryd.underlying2 f1
      obtain ⟨q2, e2, _, w2⟩ := DataW.trod_int Tryd.underlying2 f2
      simp only [List.cons.injEq, and_true] at e0 e1 e2
      exact ⟨(q0, q1, q2), by rw [e0, e1, e2], r64 w0, r64 w1, r64 w2⟩
theorem open_arcs {fuel : Nat} {c : Value} {x : DataW H × List MemPlace} (h : trodA enc w fuel 37 [c] = some x) : ∃ l : List Ar, l.length ≤ Rows.uptoBulk x.1 ∧ Arcs w c l := by
  rcases Go.Deep.open_slice Tryd.underlying37 h with ⟨hc, rfl⟩ | ⟨a, len, cap, m, n, D, Pl, hc, _, hl, hm, rfl, rfl, hx⟩
  · obtain rfl : c = .slice none 0 0 := by simpa using hc
    exact ⟨[], Nat.zero_le _, Arcs.nil _⟩
  · have each : ∀ i, i < m → ∃ e : Ar, (w.cell? (a.add (i * 3 + 0)) = some (I e.1) ∧ w.cell? (a.add (i * 3 + 1)) = some (I e.2.1) ∧ w.cell? (a.add (i * 3 + 2)) = some (I e.2.2)) ∧ Ar.ok e := by
      intro i hi
      obtain ⟨cs', h1, h2⟩ := hx i hi
      obtain ⟨e, he, hok⟩ := open_arc h2
      rw [cells_a] at h1
      obtain ⟨_, _, hcell⟩ := World.cells?_some h1
      have g0 := hcell 0 (by decide)
      have g1 := hcell 1 (by decide)
      have g2 := hcell 2 (by decide)
      rw [Go.Deep.add_add] at g0 g1 g2
      rw [he] at g0 g1 g2
      exact ⟨e, ⟨g0, g1, g2⟩, hok⟩
    have : Inhabited Ar := ⟨(0, 0, 0)⟩
    obtain ⟨E, hE⟩ := Go.Deep.choose_lt each
    obtain rfl : c = .slice (some a) len m := by simpa using hc
    refine ⟨(List.range len).map E, ?_, ?_, fun e he => ?_⟩
    · have := bulk_slice ((List.range len).map D) ((List.range (m - len)).map fun j => D (len + j))
      simpa using this
    · refine ⟨some a, m, by simp, fun q => (by cases q), ?_⟩
      by_cases h0 : len = 0
      · exact .inl (by simp [h0])
      · obtain ⟨b, o, rfl⟩ := spot_of (by have := (hE 0 (by omega)).1.1; rwa [Nat.zero_mul, Nat.add_zero] at this)
        refine .inr ⟨b, o, rfl, flA_at (fun i y hy => ?_)⟩
        have hil : i < len := by have := (List.getElem?_eq_some_iff.1 hy).1; simpa using this
        have e : y = E i := by rw [List.getElem?_map, List.getElem?_range hil] at hy; simpa using hy.symm
        have := (hE i (by omega)).1
        rw [Addr.add_mid, Addr.add_mid, Addr.add_mid, Nat.add_zero, ← Nat.add_assoc, ← Nat.add_assoc] at this
        rw [e]
        exact this
    · obtain ⟨i, hi, rfl⟩ := List.mem_map.1 he
      exact (hE i (by have := List.mem_range.1 hi; omega)).2
theorem bulk_sum {D : Nat → DataW H} (f : Nat → Nat) : ∀ l : List Nat, (∀ i ∈ l, f i ≤ Rows.uptoBulk (D i)) → (l.map f).sum ≤ Rows.uptoBulkAll (l.map D)
  | [], _ => Nat.le_refl _
  | i :: r, h => by
    have h1 := h i (by simp)
    have h2 := bulk_sum f r (fun j hj => h j (by simp [hj]))
    simp only [List.map_cons, List.sum_cons, Rows.uptoBulkAll]
    omega
set_option maxRecDepth 100000 in
theorem open_row {fuel : Nat} {cs : List Value} {x : DataW H × List MemPlace} (h : trodA enc w fuel 51 cs = some x) : ∃ (r : Nr) (va : Value), cs = [I r.id, va, I r.code] ∧ Arcs w va r.arcs ∧ R64 r.id ∧ r.arcs.length + 1 ≤ Rows.uptoBulk x.1 := by
  obtain ⟨xs, n, rfl, rfl, hl, hx, hf⟩ := DataW.trod_struct Tryd.underlying51 h
  rw [cells_r] at hl
  match cs, hl with
  | [c0, c1, c2], _ =>
    have f0 : trodA enc w n 2 (([c0, c1, c2].drop 0).take (Tryd.prog.cellsOf 2)) = xs[0]? := hf 0 _ rfl
    have f1 : trodA enc w n 37 (([c0, c1, c2].drop 1).take (Tryd.prog.cellsOf 37)) = xs[1]? := hf 1 _ rfl
    have f2 : trodA enc w n 31 (([c0, c1, c2].drop 2).take (Tryd.prog.cellsOf 31)) = xs[2]? := hf 2 _ rfl
    simp only [cells_i, cells_as, cells_e, List.drop_zero, List.drop_succ_cons, List.take_succ_cons, List.take_zero] at f0 f1 f2
    match xs, hx with
    | [y0, y1, y2], _ =>
      simp only [List.getElem?_cons_zero, List.getElem?_cons_succ] at f0 f1 f2
      obtain ⟨q0, e0, _, w0⟩ := DataW.trod_int Tryd.underlying2 f0
      obtain ⟨l, hlb, hal⟩ := open_arcs f1
      obtain ⟨q2, e2, _, w2⟩ := DataW.trod_int Tryd.underlying31 f2
      simp only [List.cons.injEq, and_true] at e0 e2
      refine ⟨⟨q0, l, q2⟩, c1, by rw [e0, e2], hal, r64 w0, ?_⟩
      simp only [List.map_cons, List.map_nil, Rows.uptoBulk, Rows.uptoBulkAll] at hlb ⊢
      omega
theorem open_rows {fuel : Nat} {c : Value} {x : DataW H × List MemPlace} (h : trodA enc w fuel 22 [c] = some x) : ∃ l : List Nr, l.length ≤ Rows.uptoBulk x.1 ∧ Nrs w c l ∧ (∀ r ∈ l, r.arcs.length ≤ Rows.uptoBulk x.1) ∧ (∀ r ∈ l, ∀ a ∈ r.arcs, Ar.ok a) ∧ (l.map fun r => r.arcs.length + 1).sum ≤ Rows.uptoBulk x.1 := by
  rcases Go.Deep.open_slice Tryd.underlying22 h with ⟨hc, rfl⟩ | ⟨a, len, cap, m, n, D, Pl, hc, _, hl, hm, rfl, rfl, hx⟩
  · obtain rfl : c = .slice none 0 0 := by simpa using hc
    exact ⟨[], Nat.zero_le _, ⟨none, 0, rfl, .inl rfl⟩, fun r hr => by simp at hr, fun r hr => by simp at hr, Nat.zero_le _⟩
  · have each : ∀ i, i < m → ∃ e : Nr, (∃ va, w.cell? (a.add (i * 3 + 0)) = some (I e.id) ∧ w.cell? (a.add (i * 3 + 1)) = some va ∧ w.cell? (a.add (i * 3 + 2)) = some (I e.code) ∧ Arcs w va e.arcs) ∧ R64 e.id ∧ e.arcs.length + 1 ≤ Rows.uptoBulk (D i) := by
      intro i hi
      obtain ⟨cs', h1, h2⟩ := hx i hi
      obtain ⟨e, va, he, hva, hid, hbk⟩ := open_row h2
      rw [cells_r] at h1
      obtain ⟨_, _, hcell⟩ := World.cells?_some h1
      have g0 := hcell 0 (by decide)
      have g1 := hcell 1 (by decide)
      have g2 := hcell 2 (by decide)
      rw [Go.Deep.add_add] at g0 g1 g2
      rw [he] at g0 g1 g2
      exact ⟨e, ⟨va, g0, g1, g2, hva⟩, hid, hbk⟩
    have : Inhabited Nr := ⟨⟨0, [], 0⟩⟩
    obtain ⟨E, hE⟩ := Go.Deep.choose_lt each
    obtain rfl : c = .slice (some a) len m := by simpa using hc
    refine ⟨(List.range len).map E, ?_, ?_, fun r hr => ?_, fun r hr => ?_, ?_⟩
    · have := bulk_slice ((List.range len).map D) ((List.range (m - len)).map fun j => D (len + j))
      simpa using this
    · refine ⟨some a, m, by simp, ?_⟩
      by_cases h0 : len = 0
      · exact .inl (by simp [h0])
      · obtain ⟨b, o, rfl⟩ := spot_of (by obtain ⟨va, g0, _⟩ := (hE 0 (by omega)).1; rwa [Nat.zero_mul, Nat.add_zero] at g0)
        refine .inr ⟨b, o, rfl, fun i y hy => ?_⟩
        have hil : i < len := by have := (List.getElem?_eq_some_iff.1 hy).1; simpa using this
        have e : y = E i := by rw [List.getElem?_map, List.getElem?_range hil] at hy; simpa using hy.symm
        obtain ⟨⟨va, g0, g1, g2, hva⟩, hid, _⟩ := hE i (by omega)
        rw [Addr.add_mid, Nat.add_zero] at g0
        rw [Addr.add_mid, ← Nat.add_assoc] at g1 g2
        rw [e]
        exact ⟨g0, ⟨va, g1, hva⟩, g2, hid⟩
    · obtain ⟨i, hi, rfl⟩ := List.mem_map.1 hr
      have hil := List.mem_range.1 hi
      exact Nat.le_trans (Nat.le_of_succ_le (hE i (by omega)).2.2) (bulk_elem (List.mem_map.2 ⟨i, hi, rfl⟩))
    · obtain ⟨i, hi, rfl⟩ := List.mem_map.1 hr
      have hil := List.mem_range.1 hi
      obtain ⟨⟨va, _, _, _, hva⟩, _⟩ := hE i (by omega)
      exact hva.ok
    · rw [List.map_map]
      refine Nat.le_trans (bulk_sum (D := D) _ (List.range len) (fun i hi => (hE i (by have := List.mem_range.1 hi; omega)).2.2)) ?_
      simp only [Rows.uptoBulk]
      omega
set_option maxRecDepth 100000 in
theorem open_net {fuel : Nat} {cs : List Value} {x : DataW H × List MemPlace} (h : trodA enc w fuel 26 cs = some x) (hb : Rows.uptoBulk x.1 ≤ 1048576) : ∃ (rv : Value) (rs : List Nr) (tail : Bool), cs = [rv, .bool tail] ∧ Nrs w rv rs ∧ rs.length ≤ 1048576 ∧ (∀ id, (netOf rs tail id).1.length ≤ 1048576) ∧ ∀ id, R64 id → ∀ a ∈ (netOf rs tail id).1, R64 a.2.1 := by
  obtain ⟨xs, n, rfl, rfl, hl, hx, hf⟩ := DataW.trod_struct Tryd.underlying26 h
  rw [cells_n] at hl
  match cs, hl with
  | [c0, c1], _ =>
    have f0 : trodA enc w n 22 (([c0, c1].drop 0).take (Tryd.prog.cellsOf 22)) = xs[0]? := hf 0 _ rfl
    have f1 : trodA enc w n 4 (([c0, c1].drop 1).take (Tryd.prog.cellsOf 4)) = xs[1]? := hf 1 _ rfl
    simp only [cells_rs, cells_bo, List.drop_zero, List.drop_succ_cons, List.take_succ_cons, List.take_zero] at f0 f1
    match xs, hx with
    | [y0, y1], _ =>
      simp only [List.getElem?_cons_zero, List.getElem?_cons_succ] at f0 f1
      obtain ⟨rs, h1, h2, h3, h4, -⟩ := open_rows f0
      obtain ⟨q1, e1, _⟩ := DataW.trod_bool Tryd.underlying4 f1
      simp only [List.cons.injEq, and_true] at e1
      simp only [List.map_cons, List.map_nil, Rows.uptoBulk, Rows.uptoBulkAll] at hb
      refine ⟨c0, rs, q1, by rw [e1], h2, by omega, fun id => ?_, fun id hid a ha => ?_⟩
      · unfold netOf
        split
        · rename_i r hr
          have := h3 r (List.mem_of_find?_eq_some hr)
          split
          · simp only; omega
          · simp
        · split <;> simp
      · unfold netOf at ha
        split at ha
        · rename_i r hr
          split at ha
          · exact (h4 r (List.mem_of_find?_eq_some hr) a ha).2.1
          · simp at ha
        · split at ha
          · simp at ha; subst ha; exact r64_wrap _
          · simp at ha
end
theorem mk_of {W : World} (h : Lib.VarReads Tryd.prog W "trellis/trellislaw9.pathsMark" (.agg [.lit (.int .i64 (-71)), .lit (.int .i64 (-72)), .lit (.int .i64 (-73))])) : Mk W := by
  obtain ⟨g, t, cs, fuel, p, hg, hty, hvar, hd⟩ := h
  obtain rfl : 0 = g := Option.some.inj ((show Tryd.prog.globalNamed "trellis/trellislaw9.pathsMark" = some 0 by kernel_rfl).symm.trans hg)
  obtain rfl : 40 = t := Option.some.inj ((show (Tryd.prog.globals[0]?).map (·.type) = some 40 by kernel_rfl).symm.trans hty)
  have hcs : cs.toList = [I (-71), I (-72), I (-73)] := by
    refine Go.Lib.ints_of_struct (zs := [-71, -72, -73]) Tryd.underlying40 (fun i f hf => ?_) (by kernel_rfl) hd
    match i, hf with
    | 0, hf => simp at hf; subst hf; exact ⟨Tryd.underlying2, rfl, cells_i⟩
    | 1, hf => simp at hf; subst hf; exact ⟨Tryd.underlying2, rfl, cells_i⟩
    | 2, hf => simp at hf; subst hf; exact ⟨Tryd.underlying2, rfl, cells_i⟩
    | i + 3, hf => simp at hf
  have hc := World.var?_cell hg hvar
  have hk : ∀ o, o < 3 → W.cell? ⟨0, o, none⟩ = ([I (-71), I (-72), I (-73)] : List Value)[o]? := fun o ho => by
    rw [hc o, ← Array.getElem?_toList, hcs]
  have h0 := hk 0 (by decide)
  exact ⟨cell_lt h0, hk⟩
end Go.Proofs.YtemkilffagjmcaaDoor
