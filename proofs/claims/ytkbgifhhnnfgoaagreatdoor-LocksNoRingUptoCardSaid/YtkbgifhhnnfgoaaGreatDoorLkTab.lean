/- Locks: the tables, as the row lays them. -/
import Derived.Test.YtkbgifhhnnfgoaaGreatDoorLk0
import Derived.Lib.LaidTab
import Derived.Lib.LaidU8T
namespace Go.Proofs.YtkbgifhhnnfgoaaGreatDoor
open Go.RowKit Go.Lib

theorem arr_cells {H α : Type} {enc : TypeId × Value → H} {P : Program} {w : World} {base : Nat} {sp : Nat → Bool} {held : Bool} {fuel : Nat} {t e : TypeId} {n m : Nat} {cs : List Value} {zs : List α} {p : List MemPlace}
    (dl : α → DataW H) (vl : α → List Value) (hleaf : ∀ fuel c z q, DataW.trod enc P w base sp held fuel e c = some (dl z, q) → c = vl z)
    (ht : P.underlying t = some (.array n e)) (hce : P.cellsOf e = m) (hct : P.cellsOf t = n * m) (h : DataW.trod enc P w base sp held fuel t cs = some (.agg (zs.map dl), p)) :
    cs.length = n * m ∧ zs.length = n ∧ ∀ i z, zs[i]? = some z → (cs.drop (i * m)).take m = vl z := by
  cases fuel with
  | zero => simp [DataW.trod] at h
  | succ fuel =>
    simp only [DataW.trod, ht, hce, hct] at h
    split at h
    · rename_i hl
      obtain ⟨xs, hm, hx⟩ := Option.map_eq_some_iff.1 h
      have hxs : xs.map (·.1) = zs.map dl := by
        have := congrArg Prod.fst hx
        simpa using this
      have hxl : xs.length = n := by simpa using Lib.mapM_length hm
      have hzl : zs.length = n := by
        have := congrArg List.length hxs
        simp at this
        omega
      refine ⟨hl, hzl, fun i z hz => ?_⟩
      have hi : i < n := by rw [← hzl]; exact (List.getElem?_eq_some_iff.1 hz).1
      obtain ⟨b, hb, hf⟩ := Lib.mapM_at hm i i (by simp [hi])
      have h2 : (xs.map (·.1))[i]? = some b.1 := by simp [hb]
      rw [hxs, List.getElem?_map, hz] at h2
      have h3 : dl z = b.1 := by simpa using h2
      exact hleaf fuel _ z b.2 (by rw [hf, h3])
    · cases h
theorem at_of_rows {cs : List Value} {m i j : Nat} {v : List Value} (h : (cs.drop (i * m)).take m = v) (hj : j < m) : cs[i * m + j]? = v[j]? := by
  rw [← h, List.getElem?_take, if_pos hj, List.getElem?_drop]
def boolData {H : Type} (zs : List Bool) : DataW H := .agg (zs.map fun z => .lit (.bool z))
def fitR : List (List Bool) := [[false,false,false,false,false,false], [false,true,true,true,true,false], [false,true,true,false,false,false], [false,true,false,true,false,false], [false,true,false,false,false,false], [false,false,false,false,false,false]]
def joinR : List (List Int) := [[0,1,2,3,4,5], [1,1,2,3,4,5], [2,2,2,4,4,5], [3,3,4,3,4,5], [4,4,4,4,4,5], [5,5,5,5,5,5]]
theorem ints_leaf {H : Type} {enc : TypeId × Value → H} {w : World} {base : Nat} {sp : Nat → Bool} {held : Bool} : ∀ fuel c (z : List Int) q, DataW.trod enc Tryz.prog w base sp held fuel 98 c = some (tabData .i64 z, q) → c = z.map fun x => I x :=
  fun _ _ _ _ h => cells_of_tab Tryz.underlying98 Tryz.underlying3 (by kernel_rfl) (by kernel_rfl) h
theorem bools_leaf {H : Type} {enc : TypeId × Value → H} {w : World} {base : Nat} {sp : Nat → Bool} {held : Bool} : ∀ fuel c (z : List Bool) q, DataW.trod enc Tryz.prog w base sp held fuel 116 c = some (boolData z, q) → c = z.map fun x => Value.bool x := fun fuel c z q h => by
  obtain ⟨h1, h2, h3⟩ := arr_cells (m := 1) (fun x : Bool => (DataW.lit (.bool x) : DataW H)) (fun x => [.bool x]) (fun _ _ _ _ h => by
    obtain ⟨b, rfl, hx⟩ := DataW.trod_bool Tryz.underlying4 h
    simp at hx
    rw [hx.1]) Tryz.underlying116 (by kernel_rfl) (by kernel_rfl) h
  apply List.ext_getElem?
  intro i
  by_cases hi : i < 6
  · have hz : z[i]? = some z[i] := List.getElem?_eq_getElem (by omega)
    have := at_of_rows (j := 0) (h3 i _ hz) (by decide)
    simp at this
    rw [this, List.getElem?_map, hz]
    rfl
  · rw [List.getElem?_eq_none (by omega), List.getElem?_eq_none (by simp; omega)]
theorem tb_of {W : World} (h1 : VarReads Tryz.prog W "trellis/locks.fits" (.agg (fitR.map boolData))) (h2 : VarReads Tryz.prog W "trellis/locks.joins" (.agg (joinR.map (tabData .i64)))) : Tb W := by
  obtain ⟨g, t, cs, fuel, p, hg, hty, hvar, hd⟩ := h1
  obtain rfl : 1 = g := Option.some.inj ((show Tryz.prog.globalNamed "trellis/locks.fits" = some 1 by kernel_rfl).symm.trans hg)
  obtain rfl : 117 = t := Option.some.inj ((show (Tryz.prog.globals[1]?).map (·.type) = some 117 by kernel_rfl).symm.trans hty)
  obtain ⟨g', t', cs', fuel', p', hg', hty', hvar', hd'⟩ := h2
  obtain rfl : 0 = g' := Option.some.inj ((show Tryz.prog.globalNamed "trellis/locks.joins" = some 0 by kernel_rfl).symm.trans hg')
  obtain rfl : 99 = t' := Option.some.inj ((show (Tryz.prog.globals[0]?).map (·.type) = some 99 by kernel_rfl).symm.trans hty')
  obtain ⟨l1, _, r1⟩ := arr_cells (m := 6) boolData (fun z => z.map fun x => Value.bool x) bools_leaf Tryz.underlying117 (by kernel_rfl) (by kernel_rfl) hd
  obtain ⟨l2, _, r2⟩ := arr_cells (m := 6) (tabData .i64) (fun z => z.map fun x => I x) ints_leaf Tryz.underlying99 (by kernel_rfl) (by kernel_rfl) hd'
  have hc := World.var?_cell hg hvar
  have hc' := World.var?_cell hg' hvar'
  have size : ∀ {g : Nat} {v : Value}, W.cell? ⟨g, 0, none⟩ = some v → g < W.heap.size := fun {g v} h0 => Nat.lt_of_not_le fun hle => by
    have : W.heap[g]? = none := Array.getElem?_eq_none hle
    simp [World.cell?, this] at h0
  have k1 : ∀ i, i < 36 → W.cell? ⟨1, i, none⟩ = some (.bool (fitT.getD i false)) := fun i hi => by
    have hr := r1 (i / 6) (fitR.getD (i / 6) []) (by
      have : i / 6 = 0 ∨ i / 6 = 1 ∨ i / 6 = 2 ∨ i / 6 = 3 ∨ i / 6 = 4 ∨ i / 6 = 5 := by omega
      rcases this with e | e | e | e | e | e <;> rw [e] <;> rfl)
    have := at_of_rows (j := i % 6) hr (by omega)
    rw [show i / 6 * 6 + i % 6 = i by omega] at this
    rw [hc i, ← Array.getElem?_toList, this, List.getElem?_map]
    have e : (fitR.getD (i / 6) [])[i % 6]? = some (fitT.getD i false) := (by decide : ∀ i : Fin 36, (fitR.getD (i.val / 6) [])[i.val % 6]? = some (fitT.getD i.val false)) ⟨i, hi⟩
    rw [e]
    rfl
  have k2 : ∀ i, i < 36 → W.cell? ⟨0, i, none⟩ = some (I (joinT.getD i 0)) := fun i hi => by
    have hr := r2 (i / 6) (joinR.getD (i / 6) []) (by
      have : i / 6 = 0 ∨ i / 6 = 1 ∨ i / 6 = 2 ∨ i / 6 = 3 ∨ i / 6 = 4 ∨ i / 6 = 5 := by omega
      rcases this with e | e | e | e | e | e <;> rw [e] <;> rfl)
    have := at_of_rows (j := i % 6) hr (by omega)
    rw [show i / 6 * 6 + i % 6 = i by omega] at this
    rw [hc' i, ← Array.getElem?_toList, this, List.getElem?_map]
    have e : (joinR.getD (i / 6) [])[i % 6]? = some (joinT.getD i 0) := (by decide : ∀ i : Fin 36, (joinR.getD (i.val / 6) [])[i.val % 6]? = some (joinT.getD i.val 0)) ⟨i, hi⟩
    rw [e]
    rfl
  exact ⟨size (k1 0 (by decide)), size (k2 0 (by decide)), k1, k2⟩
end Go.Proofs.YtkbgifhhnnfgoaaGreatDoor
