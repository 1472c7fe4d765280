/- Rules: words. -/
import Derived.Test.YtifioikdhfhljaaGreatDoorSh10
import Derived.ChangeKeysEq
import Derived.Deep.MidRow
namespace Go.Proofs.YtifioikdhfhljaaGreatDoor
open Go.RowKit

/-- The words of the kinds of rules, of the types of values. -/
def wdK : List (List UInt8) := [[], [117, 110, 105, 113, 117, 101], [110, 101, 101, 100, 115], [111, 110, 108, 121], [108, 105, 110, 107], [109, 111, 115, 116], [111, 114, 100, 101, 114]]
def wdT : List (List UInt8) := [[], [98, 111, 111, 108], [105, 110, 116], [99, 111, 109, 112, 108, 101, 120], [115, 116, 114, 105, 110, 103]]
def ixOf (ws : List (List UInt8)) (l : List UInt8) : Nat := match ws.findIdx? (fun w => w == l) with | some i => i | none => 0
def kindV (s : ByteArray) : Int := ixOf wdK s.toList
def typeV (s : ByteArray) : Int := ixOf wdT s.toList
abbrev formsC : List Value := [.string { data := #[] }, I 0, .bool false, .bool false, .bool false, .bool false, .string { data := #[117, 110, 105, 113, 117, 101] }, I 3, .bool true, .bool false, .bool false, .bool false, .string { data := #[110, 101, 101, 100, 115] }, I 3, .bool true, .bool false, .bool false, .bool false, .string { data := #[111, 110, 108, 121] }, I 4, .bool true, .bool true, .bool false, .bool false, .string { data := #[108, 105, 110, 107] }, I 4, .bool false, .bool false, .bool true, .bool false, .string { data := #[109, 111, 115, 116] }, I 3, .bool false, .bool false, .bool false, .bool true, .string { data := #[111, 114, 100, 101, 114] }, I 2, .bool false, .bool false, .bool false, .bool false]
abbrev typesC : List Value := [.string { data := #[] }, .string { data := #[98, 111, 111, 108] }, .string { data := #[105, 110, 116] }, .string { data := #[99, 111, 109, 112, 108, 101, 120] }, .string { data := #[115, 116, 114, 105, 110, 103] }]
/-- The tables. -/
structure RT (w : World) : Prop where
  f : ∀ o, w.cell? ⟨0, o, none⟩ = formsC[o]?
  t : ∀ o, w.cell? ⟨1, o, none⟩ = typesC[o]?
theorem RT.G {w w' : World} (h : RT w) (g : Go.Proofs.YtifioikdhfhljaaGreatDoor.G w w') : RT w' :=
  ⟨g.cells h.f (cell_lt (h.f 0)), g.cells h.t (cell_lt (h.t 0))⟩
theorem find_first (ws : List (List UInt8)) (l : List UInt8) : (∃ (i : Nat) (x : List UInt8), ws[i]? = some x ∧ (x == l) = true ∧ ixOf ws l = i ∧ ∀ (j : Nat) (y : List UInt8), j < i → ws[j]? = some y → (y == l) = false) ∨ (ixOf ws l = 0 ∧ ∀ (j : Nat) (y : List UInt8), ws[j]? = some y → (y == l) = false) := by
  unfold ixOf
  cases h : ws.findIdx? (fun w => w == l) with
  | none =>
    right
    rw [List.findIdx?_eq_none_iff] at h
    exact ⟨rfl, fun j y hy => h y (List.mem_of_getElem? hy)⟩
  | some i =>
    left
    rw [List.findIdx?_eq_some_iff_getElem] at h
    obtain ⟨hi, h1, h2⟩ := h
    refine ⟨i, ws[i], List.getElem?_eq_getElem hi, h1, rfl, fun j y hj hy => ?_⟩
    have := h2 j hj
    obtain ⟨hjl, e⟩ := List.getElem?_eq_some_iff.1 hy
    rw [← e]
    simpa using this
theorem ixF0 (w : World) : (Instr.index 147 (.agg #[.string { data := #[] }, I 0, .bool false, .bool false, .bool false, .bool false, .string { data := #[117, 110, 105, 113, 117, 101] }, I 3, .bool true, .bool false, .bool false, .bool false, .string { data := #[110, 101, 101, 100, 115] }, I 3, .bool true, .bool false, .bool false, .bool false, .string { data := #[111, 110, 108, 121] }, I 4, .bool true, .bool true, .bool false, .bool false, .string { data := #[108, 105, 110, 107] }, I 4, .bool false, .bool false, .bool true, .bool false, .string { data := #[109, 111, 115, 116] }, I 3, .bool false, .bool false, .bool false, .bool true, .string { data := #[111, 114, 100, 101, 114] }, I 2, .bool false, .bool false, .bool false, .bool false]) (.int .i64 0)).run Tryz.prog w = .ok (.agg #[.string { data := #[] }, I 0, .bool false, .bool false, .bool false, .bool false]) w := by kernel_rfl
theorem ixF1 (w : World) : (Instr.index 147 (.agg #[.string { data := #[] }, I 0, .bool false, .bool false, .bool false, .bool false, .string { data := #[117, 110, 105, 113, 117, 101] }, I 3, .bool true, .bool false, .bool false, .bool false, .string { data := #[110, 101, 101, 100, 115] }, I 3, .bool true, .bool false, .bool false, .bool false, .string { data := #[111, 110, 108, 121] }, I 4, .bool true, .bool true, .bool false, .bool false, .string { data := #[108, 105, 110, 107] }, I 4, .bool false, .bool false, .bool true, .bool false, .string { data := #[109, 111, 115, 116] }, I 3, .bool false, .bool false, .bool false, .bool true, .string { data := #[111, 114, 100, 101, 114] }, I 2, .bool false, .bool false, .bool false, .bool false]) (.int .i64 1)).run Tryz.prog w = .ok (.agg #[.string { data := #[117, 110, 105, 113, 117, 101] }, I 3, .bool true, .bool false, .bool false, .bool false]) w := by kernel_rfl
theorem ixF2 (w : World) : (Instr.index 147 (.agg #[.string { data := #[] }, I 0, .bool false, .bool false, .bool false, .bool false, .string { data := #[117, 110, 105, 113, 117, 101] }, I 3, .bool true, .bool false, .bool false, .bool false, .string { data := #[110, 101, 101, 100, 115] }, I 3, .bool true, .bool false, .bool false, .bool false, .string { data := #[111, 110, 108, 121] }, I 4, .bool true, .bool true, .bool false, .bool false, .string { data := #[108, 105, 110, 107] }, I 4, .bool false, .bool false, .bool true, .bool false, .string { data := #[109, 111, 115, 116] }, I 3, .bool false, .bool false, .bool false, .bool true, .string { data := #[111, 114, 100, 101, 114] }, I 2, .bool false, .bool false, .bool false, .bool false]) (.int .i64 2)).run Tryz.prog w = .ok (.agg #[.string { data := #[110, 101, 101, 100, 115] }, I 3, .bool true, .bool false, .bool false, .bool false]) w := by kernel_rfl
theorem ixF3 (w : World) : (Instr.index 147 (.agg #[.string { data := #[] }, I 0, .bool false, .bool false, .bool false, .bool false, .string { data := #[117, 110, 105, 113, 117, 101] }, I 3, .bool true, .bool false, .bool false, .bool false, .string { data := #[110, 101, 101, 100, 115] }, I 3, .bool true, .bool false, .bool false, .bool false, .string { data := #[111, 110, 108, 121] }, I 4, .bool true, .bool true, .bool false, .bool false, .string { data := #[108, 105, 110, 107] }, I 4, .bool false, .bool false, .bool true, .bool false, .string { data := #[109, 111, 115, 116] }, I 3, .bool false, .bool false, .bool false, .bool true, .string { data := #[111, 114, 100, 101, 114] }, I 2, .bool false, .bool false, .bool false, .bool false]) (.int .i64 3)).run Tryz.prog w = .ok (.agg #[.string { data := #[111, 110, 108, 121] }, I 4, .bool true, .bool true, .bool false, .bool false]) w := by kernel_rfl
theorem ixF4 (w : World) : (Instr.index 147 (.agg #[.string { data := #[] }, I 0, .bool false, .bool false, .bool false, .bool false, .string { data := #[117, 110, 105, 113, 117, 101] }, I 3, .bool true, .bool false, .bool false, .bool false, .string { data := #[110, 101, 101, 100, 115] }, I 3, .bool true, .bool false, .bool false, .bool false, .string { data := #[111, 110, 108, 121] }, I 4, .bool true, .bool true, .bool false, .bool false, .string { data := #[108, 105, 110, 107] }, I 4, .bool false, .bool false, .bool true, .bool false, .string { data := #[109, 111, 115, 116] }, I 3, .bool false, .bool false, .bool false, .bool true, .string { data := #[111, 114, 100, 101, 114] }, I 2, .bool false, .bool false, .bool false, .bool false]) (.int .i64 4)).run Tryz.prog w = .ok (.agg #[.string { data := #[108, 105, 110, 107] }, I 4, .bool false, .bool false, .bool true, .bool false]) w := by kernel_rfl
theorem ixF5 (w : World) : (Instr.index 147 (.agg #[.string { data := #[] }, I 0, .bool false, .bool false, .bool false, .bool false, .string { data := #[117, 110, 105, 113, 117, 101] }, I 3, .bool true, .bool false, .bool false, .bool false, .string { data := #[110, 101, 101, 100, 115] }, I 3, .bool true, .bool false, .bool false, .bool false, .string { data := #[111, 110, 108, 121] }, I 4, .bool true, .bool true, .bool false, .bool false, .string { data := #[108, 105, 110, 107] }, I 4, .bool false, .bool false, .bool true, .bool false, .string { data := #[109, 111, 115, 116] }, I 3, .bool false, .bool false, .bool false, .bool true, .string { data := #[111, 114, 100, 101, 114] }, I 2, .bool false, .bool false, .bool false, .bool false]) (.int .i64 5)).run Tryz.prog w = .ok (.agg #[.string { data := #[109, 111, 115, 116] }, I 3, .bool false, .bool false, .bool false, .bool true]) w := by kernel_rfl
theorem ixF6 (w : World) : (Instr.index 147 (.agg #[.string { data := #[] }, I 0, .bool false, .bool false, .bool false, .bool false, .string { data := #[117, 110, 105, 113, 117, 101] }, I 3, .bool true, .bool false, .bool false, .bool false, .string { data := #[110, 101, 101, 100, 115] }, I 3, .bool true, .bool false, .bool false, .bool false, .string { data := #[111, 110, 108, 121] }, I 4, .bool true, .bool true, .bool false, .bool false, .string { data := #[108, 105, 110, 107] }, I 4, .bool false, .bool false, .bool true, .bool false, .string { data := #[109, 111, 115, 116] }, I 3, .bool false, .bool false, .bool false, .bool true, .string { data := #[111, 114, 100, 101, 114] }, I 2, .bool false, .bool false, .bool false, .bool false]) (.int .i64 6)).run Tryz.prog w = .ok (.agg #[.string { data := #[111, 114, 100, 101, 114] }, I 2, .bool false, .bool false, .bool false, .bool false]) w := by kernel_rfl
theorem ixT0 (w : World) : (Instr.index 203 (.agg #[.string { data := #[] }, .string { data := #[98, 111, 111, 108] }, .string { data := #[105, 110, 116] }, .string { data := #[99, 111, 109, 112, 108, 101, 120] }, .string { data := #[115, 116, 114, 105, 110, 103] }]) (.int .i64 0)).run Tryz.prog w = .ok (.string { data := #[] }) w := by kernel_rfl
theorem ixT1 (w : World) : (Instr.index 203 (.agg #[.string { data := #[] }, .string { data := #[98, 111, 111, 108] }, .string { data := #[105, 110, 116] }, .string { data := #[99, 111, 109, 112, 108, 101, 120] }, .string { data := #[115, 116, 114, 105, 110, 103] }]) (.int .i64 1)).run Tryz.prog w = .ok (.string { data := #[98, 111, 111, 108] }) w := by kernel_rfl
theorem ixT2 (w : World) : (Instr.index 203 (.agg #[.string { data := #[] }, .string { data := #[98, 111, 111, 108] }, .string { data := #[105, 110, 116] }, .string { data := #[99, 111, 109, 112, 108, 101, 120] }, .string { data := #[115, 116, 114, 105, 110, 103] }]) (.int .i64 2)).run Tryz.prog w = .ok (.string { data := #[105, 110, 116] }) w := by kernel_rfl
theorem ixT3 (w : World) : (Instr.index 203 (.agg #[.string { data := #[] }, .string { data := #[98, 111, 111, 108] }, .string { data := #[105, 110, 116] }, .string { data := #[99, 111, 109, 112, 108, 101, 120] }, .string { data := #[115, 116, 114, 105, 110, 103] }]) (.int .i64 3)).run Tryz.prog w = .ok (.string { data := #[99, 111, 109, 112, 108, 101, 120] }) w := by kernel_rfl
theorem ixT4 (w : World) : (Instr.index 203 (.agg #[.string { data := #[] }, .string { data := #[98, 111, 111, 108] }, .string { data := #[105, 110, 116] }, .string { data := #[99, 111, 109, 112, 108, 101, 120] }, .string { data := #[115, 116, 114, 105, 110, 103] }]) (.int .i64 4)).run Tryz.prog w = .ok (.string { data := #[115, 116, 114, 105, 110, 103] }) w := by kernel_rfl
set_option maxRecDepth 100000 in
set_option maxHeartbeats 4000000 in
theorem kindOf_any (t : ByteArray) (W : World) (hT : RT W) : Calls Tryz.prog 134 #[.string t] W fun e W' => e = .returned (I (kindV t)) ∧ G W W' := by
  have HR : Hid (W.rangeAt 0 0 [.string { data := #[] }, I 0, .bool false, .bool false, .bool false, .bool false, .string { data := #[117, 110, 105, 113, 117, 101] }, I 3, .bool true, .bool false, .bool false, .bool false, .string { data := #[110, 101, 101, 100, 115] }, I 3, .bool true, .bool false, .bool false, .bool false, .string { data := #[111, 110, 108, 121] }, I 4, .bool true, .bool true, .bool false, .bool false, .string { data := #[108, 105, 110, 107] }, I 4, .bool false, .bool false, .bool true, .bool false, .string { data := #[109, 111, 115, 116] }, I 3, .bool false, .bool false, .bool false, .bool true, .string { data := #[111, 114, 100, 101, 114] }, I 2, .bool false, .bool false, .bool false, .bool false]) := fun j u hj => by rw [Nat.zero_add, hT.f j]; exact hj
  clear hT
  have hf := find_first wdK t.toList
  have HV : Hid (kindV t = ixOf wdK t.toList) := rfl
  have x0 := ixF0
  have x1 := ixF1
  have x2 := ixF2
  have x3 := ixF3
  have x4 := ixF4
  have x5 := ixF5
  have x6 := ixF6
  rcases hf with ⟨i, x, hi, hx, hr, hno⟩ | ⟨hr, hno⟩
  · have hl := (List.getElem?_eq_some_iff.1 hi).1
    match i, hl with
    | 0, _ =>
      have HF : Hid (kindV t = 0) := by rw [Hid, HV.out, hr]; rfl
      have e0 : ([] == t.toList) = true := by
        have : wdK[0]? = some [] := rfl
        rw [this] at hi
        cases hi
        exact hx
      clear hi hx hr hno HV
      go_enter Tryz.func134, Tryz.ntmps134
      go_wp2_with (first | (refine wpList_load_mid rfl 147 _ rfl 0 0 rfl [.string { data := #[] }, I 0, .bool false, .bool false, .bool false, .bool false, .string { data := #[117, 110, 105, 113, 117, 101] }, I 3, .bool true, .bool false, .bool false, .bool false, .string { data := #[110, 101, 101, 100, 115] }, I 3, .bool true, .bool false, .bool false, .bool false, .string { data := #[111, 110, 108, 121] }, I 4, .bool true, .bool true, .bool false, .bool false, .string { data := #[108, 105, 110, 107] }, I 4, .bool false, .bool false, .bool true, .bool false, .string { data := #[109, 111, 115, 116] }, I 3, .bool false, .bool false, .bool false, .bool true, .string { data := #[111, 114, 100, 101, 114] }, I 2, .bool false, .bool false, .bool false, .bool false] _ HR.out Tryz.underlying147 rfl (by kernel_rfl) ?_) | fail)
      refine wp_loop_rounds 8 ?_
      rw [rounds_succ]
      go_wp2_with fail
      go_ret
      exact ⟨by rw [HF.out] <;> rfl, by repeat (first | exact G.refl _ | refine G.alloc ?_ _)⟩
    | 1, _ =>
      have HF : Hid (kindV t = 1) := by rw [Hid, HV.out, hr]; rfl
      have e1 : ([117, 110, 105, 113, 117, 101] == t.toList) = true := by
        have : wdK[1]? = some [117, 110, 105, 113, 117, 101] := rfl
        rw [this] at hi
        cases hi
        exact hx
      have e0 : ([] == t.toList) = false := hno 0 [] (by decide) rfl
      clear hi hx hr hno HV
      go_enter Tryz.func134, Tryz.ntmps134
      go_wp2_with (first | (refine wpList_load_mid rfl 147 _ rfl 0 0 rfl [.string { data := #[] }, I 0, .bool false, .bool false, .bool false, .bool false, .string { data := #[117, 110, 105, 113, 117, 101] }, I 3, .bool true, .bool false, .bool false, .bool false, .string { data := #[110, 101, 101, 100, 115] }, I 3, .bool true, .bool false, .bool false, .bool false, .string { data := #[111, 110, 108, 121] }, I 4, .bool true, .bool true, .bool false, .bool false, .string { data := #[108, 105, 110, 107] }, I 4, .bool false, .bool false, .bool true, .bool false, .string { data := #[109, 111, 115, 116] }, I 3, .bool false, .bool false, .bool false, .bool true, .string { data := #[111, 114, 100, 101, 114] }, I 2, .bool false, .bool false, .bool false, .bool false] _ HR.out Tryz.underlying147 rfl (by kernel_rfl) ?_) | fail)
      refine wp_loop_rounds 8 ?_
      rw [rounds_succ]
      go_wp2_with fail
      rw [rounds_succ]
      go_wp2_with fail
      go_ret
      exact ⟨by rw [HF.out] <;> rfl, by repeat (first | exact G.refl _ | refine G.alloc ?_ _)⟩
    | 2, _ =>
      have HF : Hid (kindV t = 2) := by rw [Hid, HV.out, hr]; rfl
      have e2 : ([110, 101, 101, 100, 115] == t.toList) = true := by
        have : wdK[2]? = some [110, 101, 101, 100, 115] := rfl
        rw [this] at hi
        cases hi
        exact hx
      have e0 : ([] == t.toList) = false := hno 0 [] (by decide) rfl
      have e1 : ([117, 110, 105, 113, 117, 101] == t.toList) = false := hno 1 [117, 110, 105, 113, 117, 101] (by decide) rfl
      clear hi hx hr hno HV
      go_enter Tryz.func134, Tryz.ntmps134
      go_wp2_with (first | (refine wpList_load_mid rfl 147 _ rfl 0 0 rfl [.string { data := #[] }, I 0, .bool false, .bool false, .bool false, .bool false, .string { data := #[117, 110, 105, 113, 117, 101] }, I 3, .bool true, .bool false, .bool false, .bool false, .string { data := #[110, 101, 101, 100, 115] }, I 3, .bool true, .bool false, .bool false, .bool false, .string { data := #[111, 110, 108, 121] }, I 4, .bool true, .bool true, .bool false, .bool false, .string { data := #[108, 105, 110, 107] }, I 4, .bool false, .bool false, .bool true, .bool false, .string { data := #[109, 111, 115, 116] }, I 3, .bool false, .bool false, .bool false, .bool true, .string { data := #[111, 114, 100, 101, 114] }, I 2, .bool false, .bool false, .bool false, .bool false] _ HR.out Tryz.underlying147 rfl (by kernel_rfl) ?_) | fail)
      refine wp_loop_rounds 8 ?_
      rw [rounds_succ]
      go_wp2_with fail
      rw [rounds_succ]
      go_wp2_with fail
      rw [rounds_succ]
      go_wp2_with fail
      go_ret
      exact ⟨by rw [HF.out] <;> rfl, by repeat (first | exact G.refl _ | refine G.alloc ?_ _)⟩
    | 3, _ =>
      have HF : Hid (kindV t = 3) := by rw [Hid, HV.out, hr]; rfl
      have e3 : ([111, 110, 108, 121] == t.toList) = true := by
        have : wdK[3]? = some [111, 110, 108, 121] := rfl
        rw [this] at hi
        cases hi
        exact hx
      have e0 : ([] == t.toList) = false := hno 0 [] (by decide) rfl
      have e1 : ([117, 110, 105, 113, 117, 101] == t.toList) = false := hno 1 [117, 110, 105, 113, 117, 101] (by decide) rfl
      have e2 : ([110, 101, 101, 100, 115] == t.toList) = false := hno 2 [110, 101, 101, 100, 115] (by decide) rfl
      clear hi hx hr hno HV
      go_enter Tryz.func134, Tryz.ntmps134
      go_wp2_with (first | (refine wpList_load_mid rfl 147 _ rfl 0 0 rfl [.string { data := #[] }, I 0, .bool false, .bool false, .bool false, .bool false, .string { data := #[117, 110, 105, 113, 117, 101] }, I 3, .bool true, .bool false, .bool false, .bool false, .string { data := #[110, 101, 101, 100, 115] }, I 3, .bool true, .bool false, .bool false, .bool false, .string { data := #[111, 110, 108, 121] }, I 4, .bool true, .bool true, .bool false, .bool false, .string { data := #[108, 105, 110, 107] }, I 4, .bool false, .bool false, .bool true, .bool false, .string { data := #[109, 111, 115, 116] }, I 3, .bool false, .bool false, .bool false, .bool true, .string { data := #[111, 114, 100, 101, 114] }, I 2, .bool false, .bool false, .bool false, .bool false] _ HR.out Tryz.underlying147 rfl (by kernel_rfl) ?_) | fail)
      refine wp_loop_rounds 8 ?_
      rw [rounds_succ]
      go_wp2_with fail
      rw [rounds_succ]
      go_wp2_with fail
      rw [rounds_succ]
      go_wp2_with fail
      rw [rounds_succ]
      go_wp2_with fail
      go_ret
      exact ⟨by rw [HF.out] <;> rfl, by repeat (first | exact G.refl _ | refine G.alloc ?_ _)⟩
    | 4, _ =>
      have HF : Hid (kindV t = 4) := by rw [Hid, HV.out, hr]; rfl
      have e4 : ([108, 105, 110, 107] == t.toList) = true := by
        have : wdK[4]? = some [108, 105, 110, 107] := rfl
        rw [this] at hi
        cases hi
        exact hx
      have e0 : ([] == t.toList) = false := hno 0 [] (by decide) rfl
      have e1 : ([117, 110, 105, 113, 117, 101] == t.toList) = false := hno 1 [117, 110, 105, 113, 117, 101] (by decide) rfl
      have e2 : ([110, 101, 101, 100, 115] == t.toList) = false := hno 2 [110, 101, 101, 100, 115] (by decide) rfl
      have e3 : ([111, 110, 108, 121] == t.toList) = false := hno 3 [111, 110, 108, 121] (by decide) rfl
      clear hi hx hr hno HV
      go_enter Tryz.func134, Tryz.ntmps134
      go_wp2_with (first | (refine wpList_load_mid rfl 147 _ rfl 0 0 rfl [.string { data := #[] }, I 0, .bool false, .bool false, .bool false, .bool false, .string { data := #[117, 110, 105, 113, 117, 101] }, I 3, .bool true, .bool false, .bool false, .bool false, .string { data := #[110, 101, 101, 100, 115] }, I 3, .bool true, .bool false, .bool false, .bool false, .string { data := #[111, 110, 108, 121] }, I 4, .bool true, .bool true, .bool false, .bool false, .string { data := #[108, 105, 110, 107] }, I 4, .bool false, .bool false, .bool true, .bool false, .string { data := #[109, 111, 115, 116] }, I 3, .bool false, .bool false, .bool false, .bool true, .string { data := #[111, 114, 100, 101, 114] }, I 2, .bool false, .bool false, .bool false, .bool false] _ HR.out Tryz.underlying147 rfl (by kernel_rfl) ?_) | fail)
      refine wp_loop_rounds 8 ?_
      rw [rounds_succ]
      go_wp2_with fail
      rw [rounds_succ]
      go_wp2_with fail
      rw [rounds_succ]
      go_wp2_with fail
      rw [rounds_succ]
      go_wp2_with fail
      rw [rounds_succ]
      go_wp2_with fail
      go_ret
      exact ⟨by rw [HF.out] <;> rfl, by repeat (first | exact G.refl _ | refine G.alloc ?_ _)⟩
    | 5, _ =>
      have HF : Hid (kindV t = 5) := by rw [Hid, HV.out, hr]; rfl
      have e5 : ([109, 111, 115, 116] == t.toList) = true := by
        have : wdK[5]? = some [109, 111, 115, 116] := rfl
        rw [this] at hi
        cases hi
        exact hx
      have e0 : ([] == t.toList) = false := hno 0 [] (by decide) rfl
      have e1 : ([117, 110, 105, 113, 117, 101] == t.toList) = false := hno 1 [117, 110, 105, 113, 117, 101] (by decide) rfl
      have e2 : ([110, 101, 101, 100, 115] == t.toList) = false := hno 2 [110, 101, 101, 100, 115] (by decide) rfl
      have e3 : ([111, 110, 108, 121] == t.toList) = false := hno 3 [111, 110, 108, 121] (by decide) rfl
      have e4 : ([108, 105, 110, 107] == t.toList) = false := hno 4 [108, 105, 110, 107] (by decide) rfl
      clear hi hx hr hno HV
      go_enter Tryz.func134, Tryz.ntmps134
      go_wp2_with (first | (refine wpList_load_mid rfl 147 _ rfl 0 0 rfl [.string { data := #[] }, I 0, .bool false, .bool false, .bool false, .bool false, .string { data := #[117, 110, 105, 113, 117, 101] }, I 3, .bool true, .bool false, .bool false, .bool false, .string { data := #[110, 101, 101, 100, 115] }, I 3, .bool true, .bool false, .bool false, .bool false, .string { data := #[111, 110, 108, 121] }, I 4, .bool true, .bool true, .bool false, .bool false, .string { data := #[108, 105, 110, 107] }, I 4, .bool false, .bool false, .bool true, .bool false, .string { data := #[109, 111, 115, 116] }, I 3, .bool false, .bool false, .bool false, .bool true, .string { data := #[111, 114, 100, 101, 114] }, I 2, .bool false, .bool false, .bool false, .bool false] _ HR.out Tryz.underlying147 rfl (by kernel_rfl) ?_) | fail)
      refine wp_loop_rounds 8 ?_
      rw [rounds_succ]
      go_wp2_with fail
      rw [rounds_succ]
      go_wp2_with fail
      rw [rounds_succ]
      go_wp2_with fail
      rw [rounds_succ]
      go_wp2_with fail
      rw [rounds_succ]
      go_wp2_with fail
      rw [rounds_succ]
      go_wp2_with fail
      go_ret
      exact ⟨by rw [HF.out] <;> rfl, by repeat (first | exact G.refl _ | refine G.alloc ?_ _)⟩
    | 6, _ =>
      have HF : Hid (kindV t = 6) := by rw [Hid, HV.out, hr]; rfl
      have e6 : ([111, 114, 100, 101, 114] == t.toList) = true := by
        have : wdK[6]? = some [111, 114, 100, 101, 114] := rfl
        rw [this] at hi
        cases hi
        exact hx
      have e0 : ([] == t.toList) = false := hno 0 [] (by decide) rfl
      have e1 : ([117, 110, 105, 113, 117, 101] == t.toList) = false := hno 1 [117, 110, 105, 113, 117, 101] (by decide) rfl
      have e2 : ([110, 101, 101, 100, 115] == t.toList) = false := hno 2 [110, 101, 101, 100, 115] (by decide) rfl
      have e3 : ([111, 110, 108, 121] == t.toList) = false := hno 3 [111, 110, 108, 121] (by decide) rfl
      have e4 : ([108, 105, 110, 107] == t.toList) = false := hno 4 [108, 105, 110, 107] (by decide) rfl
      have e5 : ([109, 111, 115, 116] == t.toList) = false := hno 5 [109, 111, 115, 116] (by decide) rfl
      clear hi hx hr hno HV
      go_enter Tryz.func134, Tryz.ntmps134
      go_wp2_with (first | (refine wpList_load_mid rfl 147 _ rfl 0 0 rfl [.string { data := #[] }, I 0, .bool false, .bool false, .bool false, .bool false, .string { data := #[117, 110, 105, 113, 117, 101] }, I 3, .bool true, .bool false, .bool false, .bool false, .string { data := #[110, 101, 101, 100, 115] }, I 3, .bool true, .bool false, .bool false, .bool false, .string { data := #[111, 110, 108, 121] }, I 4, .bool true, .bool true, .bool false, .bool false, .string { data := #[108, 105, 110, 107] }, I 4, .bool false, .bool false, .bool true, .bool false, .string { data := #[109, 111, 115, 116] }, I 3, .bool false, .bool false, .bool false, .bool true, .string { data := #[111, 114, 100, 101, 114] }, I 2, .bool false, .bool false, .bool false, .bool false] _ HR.out Tryz.underlying147 rfl (by kernel_rfl) ?_) | fail)
      refine wp_loop_rounds 8 ?_
      rw [rounds_succ]
      go_wp2_with fail
      rw [rounds_succ]
      go_wp2_with fail
      rw [rounds_succ]
      go_wp2_with fail
      rw [rounds_succ]
      go_wp2_with fail
      rw [rounds_succ]
      go_wp2_with fail
      rw [rounds_succ]
      go_wp2_with fail
      rw [rounds_succ]
      go_wp2_with fail
      go_ret
      exact ⟨by rw [HF.out] <;> rfl, by repeat (first | exact G.refl _ | refine G.alloc ?_ _)⟩
  · have HF : Hid (kindV t = 0) := by rw [Hid, HV.out, hr]; rfl
    have e0 : ([] == t.toList) = false := hno 0 [] rfl
    have e1 : ([117, 110, 105, 113, 117, 101] == t.toList) = false := hno 1 [117, 110, 105, 113, 117, 101] rfl
    have e2 : ([110, 101, 101, 100, 115] == t.toList) = false := hno 2 [110, 101, 101, 100, 115] rfl
    have e3 : ([111, 110, 108, 121] == t.toList) = false := hno 3 [111, 110, 108, 121] rfl
    have e4 : ([108, 105, 110, 107] == t.toList) = false := hno 4 [108, 105, 110, 107] rfl
    have e5 : ([109, 111, 115, 116] == t.toList) = false := hno 5 [109, 111, 115, 116] rfl
    have e6 : ([111, 114, 100, 101, 114] == t.toList) = false := hno 6 [111, 114, 100, 101, 114] rfl
    clear hr hno HV
    go_enter Tryz.func134, Tryz.ntmps134
    go_wp2_with (first | (refine wpList_load_mid rfl 147 _ rfl 0 0 rfl [.string { data := #[] }, I 0, .bool false, .bool false, .bool false, .bool false, .string { data := #[117, 110, 105, 113, 117, 101] }, I 3, .bool true, .bool false, .bool false, .bool false, .string { data := #[110, 101, 101, 100, 115] }, I 3, .bool true, .bool false, .bool false, .bool false, .string { data := #[111, 110, 108, 121] }, I 4, .bool true, .bool true, .bool false, .bool false, .string { data := #[108, 105, 110, 107] }, I 4, .bool false, .bool false, .bool true, .bool false, .string { data := #[109, 111, 115, 116] }, I 3, .bool false, .bool false, .bool false, .bool true, .string { data := #[111, 114, 100, 101, 114] }, I 2, .bool false, .bool false, .bool false, .bool false] _ HR.out Tryz.underlying147 rfl (by kernel_rfl) ?_) | fail)
    refine wp_loop_rounds 8 ?_
    rw [rounds_succ]
    go_wp2_with fail
    rw [rounds_succ]
    go_wp2_with fail
    rw [rounds_succ]
    go_wp2_with fail
    rw [rounds_succ]
    go_wp2_with fail
    rw [rounds_succ]
    go_wp2_with fail
    rw [rounds_succ]
    go_wp2_with fail
    rw [rounds_succ]
    go_wp2_with fail
    rw [rounds_succ]
    go_wp2_with fail
    go_ret
    exact ⟨by rw [HF.out] <;> rfl, by repeat (first | exact G.refl _ | refine G.alloc ?_ _)⟩
set_option maxRecDepth 100000 in
set_option maxHeartbeats 4000000 in
theorem typeOf_any (t : ByteArray) (W : World) (hT : RT W) : Calls Tryz.prog 135 #[.string t] W fun e W' => e = .returned (I (typeV t)) ∧ G W W' := by
  have HR : Hid (W.rangeAt 1 0 [.string { data := #[] }, .string { data := #[98, 111, 111, 108] }, .string { data := #[105, 110, 116] }, .string { data := #[99, 111, 109, 112, 108, 101, 120] }, .string { data := #[115, 116, 114, 105, 110, 103] }]) := fun j u hj => by rw [Nat.zero_add, hT.t j]; exact hj
  clear hT
  have hf := find_first wdT t.toList
  have HV : Hid (typeV t = ixOf wdT t.toList) := rfl
  have x0 := ixT0
  have x1 := ixT1
  have x2 := ixT2
  have x3 := ixT3
  have x4 := ixT4
  rcases hf with ⟨i, x, hi, hx, hr, hno⟩ | ⟨hr, hno⟩
  · have hl := (List.getElem?_eq_some_iff.1 hi).1
    match i, hl with
    | 0, _ =>
      have HF : Hid (typeV t = 0) := by rw [Hid, HV.out, hr]; rfl
      have e0 : ([] == t.toList) = true := by
        have : wdT[0]? = some [] := rfl
        rw [this] at hi
        cases hi
        exact hx
      clear hi hx hr hno HV
      go_enter Tryz.func135, Tryz.ntmps135
      go_wp2_with (first | (refine wpList_load_mid rfl 203 _ rfl 1 0 rfl [.string { data := #[] }, .string { data := #[98, 111, 111, 108] }, .string { data := #[105, 110, 116] }, .string { data := #[99, 111, 109, 112, 108, 101, 120] }, .string { data := #[115, 116, 114, 105, 110, 103] }] _ HR.out Tryz.underlying203 rfl (by kernel_rfl) ?_) | fail)
      refine wp_loop_rounds 6 ?_
      rw [rounds_succ]
      go_wp2_with fail
      go_ret
      exact ⟨by rw [HF.out] <;> rfl, by repeat (first | exact G.refl _ | refine G.alloc ?_ _)⟩
    | 1, _ =>
      have HF : Hid (typeV t = 1) := by rw [Hid, HV.out, hr]; rfl
      have e1 : ([98, 111, 111, 108] == t.toList) = true := by
        have : wdT[1]? = some [98, 111, 111, 108] := rfl
        rw [this] at hi
        cases hi
        exact hx
      have e0 : ([] == t.toList) = false := hno 0 [] (by decide) rfl
      clear hi hx hr hno HV
      go_enter Tryz.func135, Tryz.ntmps135
      go_wp2_with (first | (refine wpList_load_mid rfl 203 _ rfl 1 0 rfl [.string { data := #[] }, .string { data := #[98, 111, 111, 108] }, .string { data := #[105, 110, 116] }, .string { data := #[99, 111, 109, 112, 108, 101, 120] }, .string { data := #[115, 116, 114, 105, 110, 103] }] _ HR.out Tryz.underlying203 rfl (by kernel_rfl) ?_) | fail)
      refine wp_loop_rounds 6 ?_
      rw [rounds_succ]
      go_wp2_with fail
      rw [rounds_succ]
      go_wp2_with fail
      go_ret
      exact ⟨by rw [HF.out] <;> rfl, by repeat (first | exact G.refl _ | refine G.alloc ?_ _)⟩
    | 2, _ =>
      have HF : Hid (typeV t = 2) := by rw [Hid, HV.out, hr]; rfl
      have e2 : ([105, 110, 116] == t.toList) = true := by
        have : wdT[2]? = some [105, 110, 116] := rfl
        rw [this] at hi
        cases hi
        exact hx
      have e0 : ([] == t.toList) = false := hno 0 [] (by decide) rfl
      have e1 : ([98, 111, 111, 108] == t.toList) = false := hno 1 [98, 111, 111, 108] (by decide) rfl
      clear hi hx hr hno HV
      go_enter Tryz.func135, Tryz.ntmps135
      go_wp2_with (first | (refine wpList_load_mid rfl 203 _ rfl 1 0 rfl [.string { data := #[] }, .string { data := #[98, 111, 111, 108] }, .string { data := #[105, 110, 116] }, .string { data := #[99, 111, 109, 112, 108, 101, 120] }, .string { data := #[115, 116, 114, 105, 110, 103] }] _ HR.out Tryz.underlying203 rfl (by kernel_rfl) ?_) | fail)
      refine wp_loop_rounds 6 ?_
      rw [rounds_succ]
      go_wp2_with fail
      rw [rounds_succ]
      go_wp2_with fail
      rw [rounds_succ]
      go_wp2_with fail
      go_ret
      exact ⟨by rw [HF.out] <;> rfl, by repeat (first | exact G.refl _ | refine G.alloc ?_ _)⟩
    | 3, _ =>
      have HF : Hid (typeV t = 3) := by rw [Hid, HV.out, hr]; rfl
      have e3 : ([99, 111, 109, 112, 108, 101, 120] == t.toList) = true := by
        have : wdT[3]? = some [99, 111, 109, 112, 108, 101, 120] := rfl
        rw [this] at hi
        cases hi
        exact hx
      have e0 : ([] == t.toList) = false := hno 0 [] (by decide) rfl
      have e1 : ([98, 111, 111, 108] == t.toList) = false := hno 1 [98, 111, 111, 108] (by decide) rfl
      have e2 : ([105, 110, 116] == t.toList) = false := hno 2 [105, 110, 116] (by decide) rfl
      clear hi hx hr hno HV
      go_enter Tryz.func135, Tryz.ntmps135
      go_wp2_with (first | (refine wpList_load_mid rfl 203 _ rfl 1 0 rfl [.string { data := #[] }, .string { data := #[98, 111, 111, 108] }, .string { data := #[105, 110, 116] }, .string { data := #[99, 111, 109, 112, 108, 101, 120] }, .string { data := #[115, 116, 114, 105, 110, 103] }] _ HR.out Tryz.underlying203 rfl (by kernel_rfl) ?_) | fail)
      refine wp_loop_rounds 6 ?_
      rw [rounds_succ]
      go_wp2_with fail
      rw [rounds_succ]
      go_wp2_with fail
      rw [rounds_succ]
      go_wp2_with fail
      rw [rounds_succ]
      go_wp2_with fail
      go_ret
      exact ⟨by rw [HF.out] <;> rfl, by repeat (first | exact G.refl _ | refine G.alloc ?_ _)⟩
    | 4, _ =>
      have HF : Hid (typeV t = 4) := by rw [Hid, HV.out, hr]; rfl
      have e4 : ([115, 116, 114, 105, 110, 103] == t.toList) = true := by
        have : wdT[4]? = some [115, 116, 114, 105, 110, 103] := rfl
        rw [this] at hi
        cases hi
        exact hx
      have e0 : ([] == t.toList) = false := hno 0 [] (by decide) rfl
      have e1 : ([98, 111, 111, 108] == t.toList) = false := hno 1 [98, 111, 111, 108] (by decide) rfl
      have e2 : ([105, 110, 116] == t.toList) = false := hno 2 [105, 110, 116] (by decide) rfl
      have e3 : ([99, 111, 109, 112, 108, 101, 120] == t.toList) = false := hno 3 [99, 111, 109, 112, 108, 101, 120] (by decide) rfl
      clear hi hx hr hno HV
      go_enter Tryz.func135, Tryz.ntmps135
      go_wp2_with (first | (refine wpList_load_mid rfl 203 _ rfl 1 0 rfl [.string { data := #[] }, .string { data := #[98, 111, 111, 108] }, .string { data := #[105, 110, 116] }, .string { data := #[99, 111, 109, 112, 108, 101, 120] }, .string { data := #[115, 116, 114, 105, 110, 103] }] _ HR.out Tryz.underlying203 rfl (by kernel_rfl) ?_) | fail)
      refine wp_loop_rounds 6 ?_
      rw [rounds_succ]
      go_wp2_with fail
      rw [rounds_succ]
      go_wp2_with fail
      rw [rounds_succ]
      go_wp2_with fail
      rw [rounds_succ]
      go_wp2_with fail
      rw [rounds_succ]
      go_wp2_with fail
      go_ret
      exact ⟨by rw [HF.out] <;> rfl, by repeat (first | exact G.refl _ | refine G.alloc ?_ _)⟩
  · have HF : Hid (typeV t = 0) := by rw [Hid, HV.out, hr]; rfl
    have e0 : ([] == t.toList) = false := hno 0 [] rfl
    have e1 : ([98, 111, 111, 108] == t.toList) = false := hno 1 [98, 111, 111, 108] rfl
    have e2 : ([105, 110, 116] == t.toList) = false := hno 2 [105, 110, 116] rfl
    have e3 : ([99, 111, 109, 112, 108, 101, 120] == t.toList) = false := hno 3 [99, 111, 109, 112, 108, 101, 120] rfl
    have e4 : ([115, 116, 114, 105, 110, 103] == t.toList) = false := hno 4 [115, 116, 114, 105, 110, 103] rfl
    clear hr hno HV
    go_enter Tryz.func135, Tryz.ntmps135
    go_wp2_with (first | (refine wpList_load_mid rfl 203 _ rfl 1 0 rfl [.string { data := #[] }, .string { data := #[98, 111, 111, 108] }, .string { data := #[105, 110, 116] }, .string { data := #[99, 111, 109, 112, 108, 101, 120] }, .string { data := #[115, 116, 114, 105, 110, 103] }] _ HR.out Tryz.underlying203 rfl (by kernel_rfl) ?_) | fail)
    refine wp_loop_rounds 6 ?_
    rw [rounds_succ]
    go_wp2_with fail
    rw [rounds_succ]
    go_wp2_with fail
    rw [rounds_succ]
    go_wp2_with fail
    rw [rounds_succ]
    go_wp2_with fail
    rw [rounds_succ]
    go_wp2_with fail
    rw [rounds_succ]
    go_wp2_with fail
    go_ret
    exact ⟨by rw [HF.out] <;> rfl, by repeat (first | exact G.refl _ | refine G.alloc ?_ _)⟩
set_option maxRecDepth 100000 in
set_option maxHeartbeats 1000000 in
theorem kindNamed_any (t : ByteArray) (W : World) : Calls Tryz.prog 106 #[.string t] W fun e W' => e = .returned (I (typeV t)) ∧ W' = W := by
  have HV : Hid (typeV t = ixOf wdT t.toList) := rfl
  rcases find_first wdT t.toList with ⟨i, x, hi, hx, hr, hno⟩ | ⟨hr, hno⟩
  · have hl := (List.getElem?_eq_some_iff.1 hi).1
    match i, hl with
    | 0, _ =>
      have HF : Hid (typeV t = 0) := by rw [Hid, HV.out, hr]; rfl
      have he : t.toList = [] := by
        have : wdT[0]? = some [] := rfl
        rw [this] at hi
        cases hi
        exact (eq_of_beq hx).symm
      have HE := hide he
      have e1 : (t.toList == [98, 111, 111, 108]) = false := by rw [he]; decide
      have e2 : (t.toList == [105, 110, 116]) = false := by rw [he]; decide
      have e3 : (t.toList == [99, 111, 109, 112, 108, 101, 120]) = false := by rw [he]; decide
      have e4 : (t.toList == [115, 116, 114, 105, 110, 103]) = false := by rw [he]; decide
      clear hi hx hr hno HV he
      go_enter Tryz.func106, Tryz.ntmps106
      go_wp2_with fail
      go_ret
      exact ⟨by rw [HF.out] <;> rfl, rfl⟩
    | 1, _ =>
      have HF : Hid (typeV t = 1) := by rw [Hid, HV.out, hr]; rfl
      have he : t.toList = [98, 111, 111, 108] := by
        have : wdT[1]? = some [98, 111, 111, 108] := rfl
        rw [this] at hi
        cases hi
        exact (eq_of_beq hx).symm
      have HE := hide he
      have e1 : (t.toList == [98, 111, 111, 108]) = true := by rw [he]; decide
      have e2 : (t.toList == [105, 110, 116]) = false := by rw [he]; decide
      have e3 : (t.toList == [99, 111, 109, 112, 108, 101, 120]) = false := by rw [he]; decide
      have e4 : (t.toList == [115, 116, 114, 105, 110, 103]) = false := by rw [he]; decide
      clear hi hx hr hno HV he
      go_enter Tryz.func106, Tryz.ntmps106
      go_wp2_with fail
      go_ret
      exact ⟨by rw [HF.out] <;> rfl, rfl⟩
    | 2, _ =>
      have HF : Hid (typeV t = 2) := by rw [Hid, HV.out, hr]; rfl
      have he : t.toList = [105, 110, 116] := by
        have : wdT[2]? = some [105, 110, 116] := rfl
        rw [this] at hi
        cases hi
        exact (eq_of_beq hx).symm
      have HE := hide he
      have e1 : (t.toList == [98, 111, 111, 108]) = false := by rw [he]; decide
      have e2 : (t.toList == [105, 110, 116]) = true := by rw [he]; decide
      have e3 : (t.toList == [99, 111, 109, 112, 108, 101, 120]) = false := by rw [he]; decide
      have e4 : (t.toList == [115, 116, 114, 105, 110, 103]) = false := by rw [he]; decide
      clear hi hx hr hno HV he
      go_enter Tryz.func106, Tryz.ntmps106
      go_wp2_with fail
      go_ret
      exact ⟨by rw [HF.out] <;> rfl, rfl⟩
    | 3, _ =>
      have HF : Hid (typeV t = 3) := by rw [Hid, HV.out, hr]; rfl
      have he : t.toList = [99, 111, 109, 112, 108, 101, 120] := by
        have : wdT[3]? = some [99, 111, 109, 112, 108, 101, 120] := rfl
        rw [this] at hi
        cases hi
        exact (eq_of_beq hx).symm
      have HE := hide he
      have e1 : (t.toList == [98, 111, 111, 108]) = false := by rw [he]; decide
      have e2 : (t.toList == [105, 110, 116]) = false := by rw [he]; decide
      have e3 : (t.toList == [99, 111, 109, 112, 108, 101, 120]) = true := by rw [he]; decide
      have e4 : (t.toList == [115, 116, 114, 105, 110, 103]) = false := by rw [he]; decide
      clear hi hx hr hno HV he
      go_enter Tryz.func106, Tryz.ntmps106
      go_wp2_with fail
      go_ret
      exact ⟨by rw [HF.out] <;> rfl, rfl⟩
    | 4, _ =>
      have HF : Hid (typeV t = 4) := by rw [Hid, HV.out, hr]; rfl
      have he : t.toList = [115, 116, 114, 105, 110, 103] := by
        have : wdT[4]? = some [115, 116, 114, 105, 110, 103] := rfl
        rw [this] at hi
        cases hi
        exact (eq_of_beq hx).symm
      have HE := hide he
      have e1 : (t.toList == [98, 111, 111, 108]) = false := by rw [he]; decide
      have e2 : (t.toList == [105, 110, 116]) = false := by rw [he]; decide
      have e3 : (t.toList == [99, 111, 109, 112, 108, 101, 120]) = false := by rw [he]; decide
      have e4 : (t.toList == [115, 116, 114, 105, 110, 103]) = true := by rw [he]; decide
      clear hi hx hr hno HV he
      go_enter Tryz.func106, Tryz.ntmps106
      go_wp2_with fail
      go_ret
      exact ⟨by rw [HF.out] <;> rfl, rfl⟩
  · have HF : Hid (typeV t = 0) := by rw [Hid, HV.out, hr]; rfl
    have e1 : (t.toList == [98, 111, 111, 108]) = false := by rw [beq_eq_false_iff_ne]; have := hno 1 [98, 111, 111, 108] rfl; rw [beq_eq_false_iff_ne] at this; exact this.symm
    have e2 : (t.toList == [105, 110, 116]) = false := by rw [beq_eq_false_iff_ne]; have := hno 2 [105, 110, 116] rfl; rw [beq_eq_false_iff_ne] at this; exact this.symm
    have e3 : (t.toList == [99, 111, 109, 112, 108, 101, 120]) = false := by rw [beq_eq_false_iff_ne]; have := hno 3 [99, 111, 109, 112, 108, 101, 120] rfl; rw [beq_eq_false_iff_ne] at this; exact this.symm
    have e4 : (t.toList == [115, 116, 114, 105, 110, 103]) = false := by rw [beq_eq_false_iff_ne]; have := hno 4 [115, 116, 114, 105, 110, 103] rfl; rw [beq_eq_false_iff_ne] at this; exact this.symm
    clear hr hno HV
    go_enter Tryz.func106, Tryz.ntmps106
    go_wp2_with fail
    go_ret
    exact ⟨by rw [HF.out] <;> rfl, rfl⟩
end Go.Proofs.YtifioikdhfhljaaGreatDoor
