/- Operations over rows of many cells: laws of our own. -/
import Derived.Test.YtbjbphhcmmaaoaaDk0
import Derived.Laws.Tables
namespace Go.Proofs.Ytbjbphhcmmaaoaa
open Go.RowKit

section
variable {P : Program} {ops : Array Oper} {rest : List Oper} {op : Oper} {a : Act} {w : World} {K : Act → World → Prop} {Q : Exit → Act → World → Prop}
theorem wp_of_exec {v : Value} {w' : World} (h : (execOp a.eval op).run P w = .ok (.value v) w') (hK : K (a.put op.dst v) w') : op.wp P a w K Q := by
  unfold Oper.wp
  rw [h]
  exact hK
theorem exec_build {ρ : Operand → Value} (ty : TypeId) (parts : Array (Nat × Operand)) (ho : op.op = .build ty parts) (ps : List (Nat × Value)) (hp : (parts.toList.map fun p => (p.1, ρ p.2)) = ps) {v : Value} {w' : World} (h : (Instr.build ty ps.toArray).run P w = .ok v w') : (execOp ρ op).run P w = .ok (.value v) w' := by
  have hq : (parts.map fun p => (p.1, ρ p.2)) = ps.toArray := by rw [← hp]; apply Array.ext'; rw [Array.toList_map]
  rw [← hq] at h
  unfold execOp
  simp only [ho, Sem.run_bind, h, Result.andThen_ok, Sem.run_pure]
theorem exec_bslice {ρ : Operand → Value} (ty : TypeId) (n : Nat) (parts : Array (Nat × Operand)) (ho : op.op = .buildSlice ty n parts) (ps : List (Nat × Value)) (hp : (parts.toList.map fun p => (p.1, ρ p.2)) = ps) {v : Value} {w' : World} (h : (Instr.buildSlice ty n ps.toArray).run P w = .ok v w') : (execOp ρ op).run P w = .ok (.value v) w' := by
  have hq : (parts.map fun p => (p.1, ρ p.2)) = ps.toArray := by rw [← hp]; apply Array.ext'; rw [Array.toList_map]
  rw [← hq] at h
  unfold execOp
  simp only [ho, Sem.run_bind, h, Result.andThen_ok, Sem.run_pure]
theorem exec_append {ρ : Operand → Value} (s x : Operand) (t : TypeId) (ho : op.op = .call { callee := .builtin .append, args := #[s, x], argTypes := #[t, t] }) (y z : Value) (hs : ρ s = y) (hx : ρ x = z) (ty : TypeId) (hty : op.type = ty) {v : Value} {w' : World} (h : (Builtin.append_ #[t, t] ty #[y, z]).run P w = .ok v w') : (execOp ρ op).run P w = .ok (.value v) w' := by
  subst hty
  unfold execOp
  simp only [ho, resolve, invoke, builtin, Sem.run_bind, Sem.run_pure, Result.andThen_ok, List.map_toArray, List.map_cons, List.map_nil, hs, hx, h]
theorem wp_copy_z (d s : Operand) (dT sT : TypeId) (ho : op.op = .call { callee := .builtin .copy, args := #[d, s], argTypes := #[dT, sT] }) (elem : TypeId) (hu : P.underlying dT = some (.slice elem)) (hsz : (P.info? elem).map (·.size) = some 1)
    (g off dLen dCap : Nat) (ad : Addr) (sLen sCap : Nat) (hd : a.eval d = .slice (some ⟨g, off, none⟩) dLen dCap) (hs : a.eval s = .slice (some ad) sLen sCap)
    (cs : List Value) (hn : cs.length = Nat.min sLen dLen) (hsrc : ∀ j v, cs[j]? = some v → w.cell? (ad.add j) = some v) (ht : w.there g off cs.length) (h1 : ∀ v ∈ cs, v.oneCell' = true)
    (h : K (a.put op.dst (goInt cs.length)) (w.setCells g off cs)) : op.wp P a w K Q := by
  have hrun := run_copy_cells (P := P) w dT sT op.type elem g off dLen dCap ad sLen sCap cs hu hsz hn hsrc (fun j hj => (ht j hj).1) (fun j hj => (ht j hj).2) h1
  unfold Oper.wp
  simp [execOp, ho, resolve, invoke, builtin, hd, hs, hrun, Result.andThen]
  exact h
theorem wpList_copy_z (hgd : op.guard = none) (d s : Operand) (dT sT : TypeId) (ho : op.op = .call { callee := .builtin .copy, args := #[d, s], argTypes := #[dT, sT] }) (elem : TypeId) (hu : P.underlying dT = some (.slice elem)) (hsz : (P.info? elem).map (·.size) = some 1)
    (g off dLen dCap : Nat) (ad : Addr) (sLen sCap : Nat) (hd : a.eval d = .slice (some ⟨g, off, none⟩) dLen dCap) (hs : a.eval s = .slice (some ad) sLen sCap)
    (cs : List Value) (hn : cs.length = Nat.min sLen dLen) (hsrc : ∀ j v, cs[j]? = some v → w.cell? (ad.add j) = some v) (ht : w.there g off cs.length) (h1 : ∀ v ∈ cs, v.oneCell' = true)
    (h : wpList P ops Q rest (a.put op.dst (goInt cs.length)) (w.setCells g off cs)) : wpList P ops Q (op :: rest) a w :=
  wpList_plain hgd fun _ hK => wp_copy_z d s dT sT ho elem hu hsz g off dLen dCap ad sLen sCap hd hs cs hn hsrc ht h1 (hK _ _ h)
end
theorem list_ext_map {l : List Nat} {cs : List Value} (h : cs.length = l.length) (hc : ∀ (j : Nat) (x : Nat), l[j]? = some x → cs[j]? = some (bv x)) : cs = l.map bv := by
  apply List.ext_getElem?
  intro j
  by_cases hj : j < l.length
  · rw [hc j _ (List.getElem?_eq_getElem hj), List.getElem?_map, List.getElem?_eq_getElem hj]; rfl
  · rw [List.getElem?_eq_none (by omega), List.getElem?_eq_none (by simp; omega)]
theorem one_map (l : List Nat) : ∀ v ∈ l.map bv, v.oneCell' = true := fun v hv => by
  obtain ⟨x, _, rfl⟩ := List.mem_map.1 hv; rfl
/-- The zero sector's cells. -/
theorem zero_sec : zeroCells81 = ((List.replicate 128 0).map bv).toArray := by kernel_rfl
theorem zero_wr : zeroCells84 = (I 0 :: (List.replicate 128 0).map bv).toArray := by kernel_rfl
theorem made_rep (z : Array Value) (v : Value) (n : Nat) (h0 : 0 < z.size) (hz : ∀ k, k < z.size → z[k]! = v) : madeCells z n = (List.replicate n v).toArray := by
  unfold madeCells
  apply Array.ext
  · simp
  · intro i h1 h2
    simp only [Array.getElem_map, Array.getElem_range, List.getElem_toArray, List.getElem_replicate]
    exact hz _ (Nat.mod_lt _ h0)
theorem map_rep (n : Nat) : (List.replicate n 0).map bv = List.replicate n (bv 0) := List.map_replicate
theorem made_sec (n : Nat) : (madeCells ((List.replicate 128 0).map bv).toArray (n * 128)) = ((List.replicate (n * 128) 0).map bv).toArray := by
  have h5 : ((List.replicate 128 0).map bv).toArray.size = 128 := by rw [List.size_toArray, List.length_map, List.length_replicate]
  rw [made_rep _ (bv 0) _ (by rw [h5]; decide) (fun k hk => ?_), map_rep]
  rw [h5] at hk
  rw [Array.getElem!_eq_getD, Array.getD_eq_getD_getElem?, List.getElem?_toArray, List.getElem?_map, List.getElem?_replicate, if_pos hk]; rfl
theorem made_u8 (n : Nat) : (madeCells #[bv 0] n) = ((List.replicate n 0).map bv).toArray := by
  rw [made_rep _ (bv 0) _ (by decide) (fun k hk => ?_), map_rep]
  simp at hk; subst hk; rfl
theorem size_sec : (Try.prog.info? 81).map (·.size) = some 128 := by kernel_rfl
theorem size_wr : (Try.prog.info? 84).map (·.size) = some 129 := by kernel_rfl
theorem size_u8 : (Try.prog.info? 5).map (·.size) = some 1 := by kernel_rfl
theorem info_sec : ∃ i, Try.prog.info? 81 = some i ∧ i.zero = some (.agg ((List.replicate 128 0).map bv).toArray) ∧ i.size = 128 ∧ i.bytes = 128 := info_parts (by kernel_rfl)
theorem info_wr : ∃ i, Try.prog.info? 84 = some i ∧ i.zero = some (.agg (I 0 :: (List.replicate 128 0).map bv).toArray) ∧ i.size = 129 ∧ i.bytes = 136 := info_parts (by kernel_rfl)
theorem info_u8 : ∃ i, Try.prog.info? 5 = some i ∧ i.zero = some (bv 0) ∧ i.size = 1 ∧ i.bytes = 1 := info_parts (by kernel_rfl)
theorem ret_cell {fn : Func} {P : Program} {p : Tmp} {ty : TypeId} (h : fn.results = #[.cell p ty]) (tmps : Array Value) (W : World) (rb : Nat) (cs : List Value) (d : TypeDesc) (hp : tmps.getD p undef = .pointer (some ⟨rb, 0, none⟩)) (hr : W.rangeAt rb 0 cs)
    (hu : P.underlying ty = some d) (hd : d.isRow = true) (hi : (P.info? ty).map (·.size) = some cs.length) : (results fn tmps).run P W = .ok (.agg cs.toArray) W := by
  have hl := run_loadVar_mid (P := P) W rb 0 ty cs d hr hu hd hi
  have e : (results fn tmps).run P W = ((asAddr (tmps.getD p undef)).run P W).andThen fun a w₁ => (loadVar ty a).run P w₁ := by
    simp only [results, h]
    simp [Sem.run_bind, Result.andThen]
  rw [e, hp]
  simp only [asAddr, Sem.run_pure, Result.andThen_ok, hl]
end Go.Proofs.Ytbjbphhcmmaaoaa
