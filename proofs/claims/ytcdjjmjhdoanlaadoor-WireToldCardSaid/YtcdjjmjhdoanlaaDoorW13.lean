/- Wire: PutRequest. -/
import Derived.Test.YtcdjjmjhdoanlaaDoorW12
namespace Go.Proofs.YtcdjjmjhdoanlaaDoor
open Go.RowKit

/-- What PutRequest answers. -/
def Rq.code (q : Rq) : Nat := if ¬ (1 ≤ q.k ∧ q.k ≤ 12) then 162 else if q.may = false then 163 else frC q.k q.body.length
def Rq.frame (q : Rq) : List Nat := if q.code = 0 then frB q.k.toNat q.body else []
def PutP (q : Rq) (W : World) (e : Ending) (W' : World) : Prop := ∃ v', e = .returned (.tuple #[v', I q.code]) ∧ SwB W' v' q.frame ∧ G W W' ∧ Fresh W v'
theorem PutP.bad (q : Rq) (W W' : World) (c : Nat) (h : q.code = c) (hc : c ≠ 0) (g : G W W') : PutP q W (.returned (.tuple #[.slice none 0 0, I c])) W' :=
  ⟨_, by rw [h], by rw [Rq.frame, h, if_neg hc]; exact Sw.nil _ _ _, g, Fresh.nil _⟩
theorem frC_in (k : Int) (n : Nat) (h : 1 ≤ k ∧ k ≤ 12) : frC k n = if 2097152 < n then 163 else 0 := by unfold frC; rw [if_neg (by omega)]
end Go.Proofs.YtcdjjmjhdoanlaaDoor
