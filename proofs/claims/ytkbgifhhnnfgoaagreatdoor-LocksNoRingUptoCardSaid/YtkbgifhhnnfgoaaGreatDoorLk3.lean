/- Locks: resources as keys. -/
import Derived.Test.YtkbgifhhnnfgoaaGreatDoorLk2
namespace Go.Proofs.YtkbgifhhnnfgoaaGreatDoor
open Go.RowKit Go.Maps

theorem size_types : Tryz.prog.types.size = 207 := by kernel_rfl
theorem laidOut : laidOutB Tryz.prog = true := by kernel_rfl
theorem keyType_res : Tryz.prog.keyType 24 = true := by kernel_rfl
theorem cellsOf_res : Tryz.prog.cellsOf 24 = 3 := by kernel_rfl
theorem cellsOf_int : Tryz.prog.cellsOf 3 = 1 := by kernel_rfl
theorem cellsOf_i64 : Tryz.prog.cellsOf 2 = 1 := by kernel_rfl
theorem cellsOf_str : Tryz.prog.cellsOf 9 = 1 := by kernel_rfl
theorem row_res : (24 : TypeId) < Tryz.prog.types.size := of_decide_eq_true (by kernel_rfl)
theorem keyTypeAt_res : Tryz.prog.keyTypeAt 2 24 = true := by kernel_rfl
theorem law_res : WideMaps.KeyLaw Tryz.prog 24 := deep_law_laid laidOut (m := 2) (by omega) row_res keyTypeAt_res (by rw [Tryz.underlying24])
theorem lits_int (d : Nat) (v : Value) : Tryz.prog.keyLits (d + 1) 3 [v] = match v with | .int .i64 n => if (Lit.int .i64 n).wf = true then some [.int .i64 n] else none | _ => none := by
  cases v <;> simp [Program.keyLits, Tryz.underlying3]
  rename_i q n; cases q <;> simp
theorem lits_i64 (d : Nat) (v : Value) : Tryz.prog.keyLits (d + 1) 2 [v] = match v with | .int .i64 n => if (Lit.int .i64 n).wf = true then some [.int .i64 n] else none | _ => none := by
  cases v <;> simp [Program.keyLits, Tryz.underlying2]
  rename_i q n; cases q <;> simp
theorem lits_str (d : Nat) (v : Value) : Tryz.prog.keyLits (d + 1) 9 [v] = match v with | .string s => if s.size ≤ maxLen then some [.string s.data.toList] else none | _ => none := by
  cases v <;> simp [Program.keyLits, Tryz.underlying9]
theorem lits_res (d : Nat) (a b c : Value) : Tryz.prog.keyLits (d + 2) 24 [a, b, c] = ((Tryz.prog.keyLits (d + 1) 3 [a]).bind fun x => (Tryz.prog.keyLits (d + 1) 9 [b]).bind fun y => (Tryz.prog.keyLits (d + 1) 2 [c]).map fun z => x ++ (y ++ z)) := by
  conv => lhs; unfold Program.keyLits
  simp only [Tryz.underlying24, cellsOf_res, List.length_cons, List.length_nil]
  simp [List.mapM_cons, cellsOf_int, cellsOf_i64, cellsOf_str]
  cases Tryz.prog.keyLits (d + 1) 3 [a] <;> cases Tryz.prog.keyLits (d + 1) 9 [b] <;> cases Tryz.prog.keyLits (d + 1) 2 [c] <;> simp
theorem keyOf_res (v : Value) : keyOf Tryz.prog 24 v = if v.formed Tryz.prog 24 = true then (Tryz.prog.keyLits 208 24 v.cells.toList).map fun ls => .string (keyBytes ls) else none := by
  unfold keyOf
  simp only [Tryz.underlying24, keyType_res, Bool.true_and, size_types]
theorem key_res_mk {r : Rs} (h : r.ok) : ∃ kl, keyOf Tryz.prog 24 r.v = some kl := by
  rw [keyOf_res, if_pos (by simp [Rs.v, Value.formed, Tryz.underlying24, cellsOf_res])]
  obtain ⟨h1, h2, h3⟩ := h
  simp only [Rs.v, Value.cells, lits_res, lits_int, lits_str, lits_i64, wf_R64.2 h1, wf_R64.2 h3, h2, if_true, Option.bind_some, Option.map_some]
  exact ⟨_, rfl⟩
theorem key_res_inv {v : Value} {kl : Lit} (h : keyOf Tryz.prog 24 v = some kl) : ∃ r : Rs, v = r.v ∧ r.ok := by
  rw [keyOf_res] at h
  split at h
  · rename_i hf
    cases v with
    | agg cs =>
      simp only [Value.formed, Tryz.underlying24, cellsOf_res, beq_iff_eq] at hf
      obtain ⟨l⟩ := cs
      obtain ⟨a, b, c, rfl⟩ : ∃ a b c, l = [a, b, c] := by
        rcases l with _ | ⟨a, _ | ⟨b, _ | ⟨c, _ | ⟨d, l⟩⟩⟩⟩ <;> simp at hf
        exact ⟨a, b, c, rfl⟩
      · simp only [Value.cells, lits_res, lits_int, lits_str, lits_i64] at h
        obtain ⟨ls, h1, _⟩ := Option.map_eq_some_iff.1 h
        obtain ⟨x, hx, h2⟩ := Option.bind_eq_some_iff.1 h1
        obtain ⟨y, hy, h3⟩ := Option.bind_eq_some_iff.1 h2
        obtain ⟨z, hz, _⟩ := Option.map_eq_some_iff.1 h3
        split at hx
        · split at hx
          · split at hy
            · split at hy
              · split at hz
                · split at hz
                  · rename_i _ n w1 _ s w2 _ m w3
                    exact ⟨⟨n, s, m⟩, rfl, wf_R64.1 w1, w2, wf_R64.1 w3⟩
                  · cases hz
                · cases hz
              · cases hy
            · cases hy
          · cases hx
        · cases hx
    | _ => simp [Value.formed, Tryz.underlying24] at hf
  · cases h
theorem kyR : Ky Rs.v 24 := ⟨Keyed.of_law law_res, Rs.v_inj, fun h => by obtain ⟨r, rfl, _⟩ := key_res_inv h; exact ⟨r, rfl⟩⟩
theorem kyR_ok {r : Rs} : KyOk Rs.v 24 r ↔ r.ok := ⟨fun ⟨_, h⟩ => by obtain ⟨r', e, ho⟩ := key_res_inv h; rw [Rs.v_inj e]; exact ho, key_res_mk⟩
end Go.Proofs.YtkbgifhhnnfgoaaGreatDoor
