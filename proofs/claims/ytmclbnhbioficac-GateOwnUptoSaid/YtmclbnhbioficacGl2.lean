/- Gate: fits, begun, do. -/
import Derived.Test.YtmclbnhbioficacGsc
namespace Go.Proofs.Ytmclbnhbioficac
open Go.RowKit

def Fit (mo un : Int) : Prop := 1 ≤ mo ∧ mo ≤ 16 ∧ 1 ≤ un ∧ un ≤ 64
/-- A gate with one inside. -/
def beg (mo un : Int) : GM := ⟨mo, un, 1, 0, 0, 0, [], [((1073741824, 1), 0)]⟩
theorem beg_sub (mo un : Int) : (new0 mo un).subA 1073741824 = (1, 0) ∧ (new0 mo un).subM 1073741824 = (new0 mo un).sub 1073741824 := by
  constructor
  · simp [GM.subA, new0, GM.ids, GM.qids]
  · simp [GM.subM, new0, GM.ids, GM.qids]
theorem beg_adm {mo un : Int} (h : Fit mo un) : ((new0 mo un).sub 1073741824).admit = ([1073741824], beg mo un) := by
  have hr : ((new0 mo un).sub 1073741824).room = true := by
    have h1 : (0 : Int) < mo := by have := h.1; omega
    have h2 : (0 : Int) < un := by have := h.2.2.1; omega
    simp [GM.room, GM.sub, new0, h1, h2]
  rw [admit_in (x := (1073741824, 1)) (t := []) (by simp [GM.sub, new0]) hr, admit_nil (by simp [GM.ent])]
  simp [GM.ent, GM.sub, new0, beg]
theorem iv_beg {mo un : Int} (h : Fit mo un) : Iv (beg mo un) := by
  have h1 := iv_admit (iv_subM (iv_new h.1 h.2.1 h.2.2.1 h.2.2.2) 1073741824)
  rw [(beg_sub mo un).2, beg_adm h] at h1
  exact h1
/-- What enters at a step. -/
def GM.doL (m : GM) (k : Int) : List Int := if k = 2 then m.admit.1 else []
def DoP (b : Nat) (m : GM) (K : Nat → Prop) (k id : Int) (y : Bool) (W : World) (e : Ending) (W' : World) : Prop := ∃ v', e = .returned v' ∧ SwI W' v' (m.doL k) ∧ Fresh W v' ∧ ∃ K', PG W' b 0 (m.stepM k id y) K' ∧ Ste K W K' W' ∧ (∀ j, v'.ownBlock = some j → ¬ K' j)
end Go.Proofs.Ytmclbnhbioficac
