/- Wire: requests, frames and the table of the kinds, opened. -/
import Derived.Test.YtcdjjmjhdoanlaaDoorWo
import Derived.Test.YtcdjjmjhdoanlaaDoorW12
import Derived.Lib.LaidTab
import Derived.Lib.LaidU8T
namespace Go.Proofs.YtcdjjmjhdoanlaaDoor
open Go.ChangeShapes Go.WideShapes Go.ChangeAt Go.RowKit
section
variable {H : Type} {enc : TypeId × Value → H} {w : World}
theorem cells_64 : Tryd.prog.cellsOf 2 = 1 := by kernel_rfl
theorem cells_in : Tryd.prog.cellsOf 3 = 1 := by kernel_rfl
theorem cells_bo : Tryd.prog.cellsOf 4 = 1 := by kernel_rfl
theorem cells_st : Tryd.prog.cellsOf 9 = 1 := by kernel_rfl
theorem cells_64s : Tryd.prog.cellsOf 27 = 1 := by kernel_rfl
theorem cells_bs : Tryd.prog.cellsOf 23 = 1 := by kernel_rfl
theorem open_64s {fuel : Nat} {c : Value} {x : DataW H × List MemPlace} (h : trodA enc w fuel 27 [c] = some x) : ∃ l, Row eI.rel w c l ∧ (∀ n ∈ l, R64 n) ∧ l.length + 1 ≤ Rows.uptoBulk x.1 := by
  obtain ⟨l, h1, h2, h3⟩ := open_row Tryd.underlying27 eI.rel cells_64 (by decide) R64 (fun _ => 1) (fun f cs y hy => by
    obtain ⟨q, e, _, hwf⟩ := DataW.trod_int Tryd.underlying2 hy
    exact ⟨q, e, bounds_i64 hwf, bulk_pos _⟩) h
  rw [sum_one] at h3
  exact ⟨l, h1, h2, h3⟩
end
theorem flat_10 : ∀ l : List Int, (∀ n ∈ l, R64 n) → (l.flatMap fun n => cnt (zig n)).length ≤ l.length * 10
  | [], _ => by simp
  | n :: l, h => by
    have h1 := flat_10 l (fun m hm => h m (List.mem_cons_of_mem _ hm))
    have h2 := (cnt_len (zig n) (zig_lt n (h n (List.mem_cons_self ..)))).2
    rw [List.flatMap_cons, List.length_append, List.length_cons]
    omega
end Go.Proofs.YtcdjjmjhdoanlaaDoor
