/- Wire: requests, frames and the table of the kinds, opened. -/
import Derived.Test.YtcdjjmjhdoanlaaGreatDoorWo
import Derived.Test.YtcdjjmjhdoanlaaGreatDoorW12
import Derived.Lib.LaidTab
import Derived.Lib.LaidU8T
namespace Go.Proofs.YtcdjjmjhdoanlaaGreatDoor
open Go.ChangeShapes Go.WideShapes Go.ChangeAt Go.RowKit

theorem tk_of {W : World} (h : Lib.VarReads Tryz.prog W "trellis/wire.takes" (Lib.tabData .i64 tkL)) : Tks W := by
  obtain ⟨g, t, cs, fuel, p, hg, hty, hvar, hd⟩ := h
  obtain rfl : 0 = g := Option.some.inj ((show Tryz.prog.globalNamed "trellis/wire.takes" = some 0 by kernel_rfl).symm.trans hg)
  obtain rfl : 99 = t := Option.some.inj ((show (Tryz.prog.globals[0]?).map (·.type) = some 99 by kernel_rfl).symm.trans hty)
  have hcs : cs.toList = tkL.map fun x => I x := Lib.cells_of_tab Tryz.underlying99 Tryz.underlying3 (by kernel_rfl) (by kernel_rfl) hd
  have hc := World.var?_cell hg hvar
  intro k hk
  rw [hc k, ← Array.getElem?_toList, hcs, List.getElem?_map]
  have e : tkL[k]? = some (tkN (k : Int)) := (by decide : ∀ i : Fin 13, tkL[i.val]? = some (tkN (i.val : Int))) ⟨k, hk⟩
  rw [e]
  rfl
section
variable {H : Type} {enc : TypeId × Value → H} {w : World}
theorem cells_64 : Tryz.prog.cellsOf 2 = 1 := by kernel_rfl
theorem cells_in : Tryz.prog.cellsOf 3 = 1 := by kernel_rfl
theorem cells_bo : Tryz.prog.cellsOf 4 = 1 := by kernel_rfl
theorem cells_st : Tryz.prog.cellsOf 9 = 1 := by kernel_rfl
theorem cells_64s : Tryz.prog.cellsOf 30 = 1 := by kernel_rfl
theorem cells_bls : Tryz.prog.cellsOf 31 = 1 := by kernel_rfl
theorem cells_bs : Tryz.prog.cellsOf 23 = 1 := by kernel_rfl
theorem cells_rq : Tryz.prog.cellsOf 33 = 4 := by kernel_rfl
theorem open_64s {fuel : Nat} {c : Value} {x : DataW H × List MemPlace} (h : trodA enc w fuel 30 [c] = some x) : ∃ l, Row eI.rel w c l ∧ (∀ n ∈ l, R64 n) ∧ l.length + 1 ≤ Rows.uptoBulk x.1 := by
  obtain ⟨l, h1, h2, h3⟩ := open_row Tryz.underlying30 eI.rel cells_64 (by decide) R64 (fun _ => 1) (fun f cs y hy => by
    obtain ⟨q, e, _, hwf⟩ := DataW.trod_int Tryz.underlying2 hy
    exact ⟨q, e, bounds_i64 hwf, bulk_pos _⟩) h
  rw [sum_one] at h3
  exact ⟨l, h1, h2, h3⟩
theorem open_bls {fuel : Nat} {c : Value} {x : DataW H × List MemPlace} (h : trodA enc w fuel 31 [c] = some x) : ∃ l, Row eZ.rel w c l ∧ l.length + 1 ≤ Rows.uptoBulk x.1 := by
  obtain ⟨l, h1, _, h3⟩ := open_row Tryz.underlying31 eZ.rel cells_bo (by decide) (fun _ => True) (fun _ => 1) (fun f cs y hy => by
    obtain ⟨q, e, _⟩ := DataW.trod_bool Tryz.underlying4 hy
    exact ⟨q, e, trivial, bulk_pos _⟩) h
  rw [sum_one] at h3
  exact ⟨l, h1, h3⟩
set_option maxRecDepth 100000 in
theorem open_req {fuel : Nat} {cs : List Value} {x : DataW H × List MemPlace} (h : trodA enc w fuel 33 cs = some x) (hb : Rows.uptoBulk x.1 ≤ 1048576) : ∃ q : Rq, RqV w (.agg cs.toArray) q ∧ q.ns.length ≤ 1048576 := by
  obtain ⟨xs, n, rfl, rfl, hl, hx, hf⟩ := DataW.trod_struct Tryz.underlying33 h
  rw [cells_rq] at hl
  match cs, hl with
  | [c0, c1, c2, c3], _ =>
    have f0 : trodA enc w n 3 (([c0, c1, c2, c3].drop 0).take (Tryz.prog.cellsOf 3)) = xs[0]? := hf 0 _ rfl
    have f1 : trodA enc w n 30 (([c0, c1, c2, c3].drop 1).take (Tryz.prog.cellsOf 30)) = xs[1]? := hf 1 _ rfl
    have f2 : trodA enc w n 9 (([c0, c1, c2, c3].drop 2).take (Tryz.prog.cellsOf 9)) = xs[2]? := hf 2 _ rfl
    have f3 : trodA enc w n 31 (([c0, c1, c2, c3].drop 3).take (Tryz.prog.cellsOf 31)) = xs[3]? := hf 3 _ rfl
    simp only [cells_in, cells_64s, cells_st, cells_bls, List.drop_zero, List.drop_succ_cons, List.take_succ_cons, List.take_zero] at f0 f1 f2 f3
    match xs, hx with
    | [y0, y1, y2, y3], _ =>
      simp only [List.getElem?_cons_zero, List.getElem?_cons_succ] at f0 f1 f2 f3
      obtain ⟨k, e0, _, _⟩ := DataW.trod_int Tryz.underlying3 f0
      obtain ⟨ns, r1, r2, r3⟩ := open_64s f1
      obtain ⟨t, e2, e2', _⟩ := DataW.trod_string Tryz.underlying9 f2
      obtain ⟨bs, z1, z2⟩ := open_bls f3
      simp only [List.cons.injEq, and_true] at e0 e2
      subst e0 e2
      simp only [List.map_cons, List.map_nil, Rows.uptoBulk, Rows.uptoBulkAll, e2'] at hb
      have hts : t.data.toList.length = t.size := by rw [Array.length_toList]; rfl
      refine ⟨⟨k, ns, t, bs⟩, ⟨⟨c1, c3, rfl, r1, z1⟩, r2, ?_, ?_, ?_⟩, ?_⟩
      · show ns.length ≤ _; omega
      · show t.size ≤ _; omega
      · show bs.length ≤ _; omega
      · show ns.length ≤ _; omega
end
theorem flat_10 : ∀ l : List Int, (∀ n ∈ l, R64 n) → (l.flatMap fun n => cnt (zig n)).length ≤ l.length * 10
  | [], _ => by simp
  | n :: l, h => by
    have h1 := flat_10 l (fun m hm => h m (List.mem_cons_of_mem _ hm))
    have h2 := (cnt_len (zig n) (zig_lt n (h n (List.mem_cons_self ..)))).2
    rw [List.flatMap_cons, List.length_append, List.length_cons]
    omega
end Go.Proofs.YtcdjjmjhdoanlaaGreatDoor
