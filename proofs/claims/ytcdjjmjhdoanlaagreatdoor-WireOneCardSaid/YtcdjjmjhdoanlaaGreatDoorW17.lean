/- The document's PutRequest. -/
import Derived.Test.YtcdjjmjhdoanlaaGreatDoorW16
import Derived.Test.YtcdjjmjhdoanlaaGreatDoorW13
namespace Go.Proofs.YtcdjjmjhdoanlaaGreatDoor
open Go.RowKit

theorem len_flat : ∀ l : List Int, l.length ≤ (l.flatMap numB).length
  | [] => Nat.le_refl _
  | n :: l => by
    have h1 := len_flat l
    have h2 : 1 ≤ (cnt (zig n)).length := by unfold cnt; simp
    rw [List.flatMap_cons, List.length_append, List.length_cons]
    show l.length + 1 ≤ (cnt (zig n)).length + _
    omega
theorem flat_ten : ∀ l : List Int, (∀ n ∈ l, R64 n) → (l.flatMap numB).length ≤ l.length * 10
  | [], _ => by simp
  | n :: l, h => by
    have h1 := flat_ten l (fun m hm => h m (List.mem_cons_of_mem _ hm))
    have h2 := (cnt_len (zig n) (zig_lt n (h n (List.mem_cons_self ..)))).2
    have h3 : (numB n).length ≤ 10 := h2
    rw [List.flatMap_cons, List.length_append, List.length_cons]
    omega
theorem tkN_six (k : Int) : tkN k ≤ 6 := by
  unfold tkN
  rw [List.getD_eq_getElem?_getD]
  cases e : tkL[k.toNat]? with
  | none => decide
  | some x => exact (by decide : ∀ y ∈ tkL, y ≤ 6) x (List.mem_of_getElem? e)
theorem may_small (q : Rq) (hr : ∀ n ∈ q.ns, R64 n) (h : q.may = true) : (q.ns.flatMap numB).length ≤ 60 ∧ q.bs.length ≤ 4096 := by
  unfold Rq.may at h
  simp only [Bool.and_eq_true, decide_eq_true_eq] at h
  have h1 := flat_ten q.ns hr
  have h2 := tkN_six q.k
  exact ⟨by omega, h.2⟩
end Go.Proofs.YtcdjjmjhdoanlaaGreatDoor
