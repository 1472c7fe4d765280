/- Rows of bytes that are there; trellisref1.joined; trellislaw1.same. -/
import Derived.Test.YtdiikofgilplkaaDoorEnc6
import Derived.Deep.Draws
namespace Go.Proofs.YtdiikofgilplkaaDoor
open Go.RowKit Go.Shelf Go.PlainAid Go.Lib

theorem G.drewNE {a w : World} (h : G a w) (n : Nat) : G a (w.drewN n) := h.trans ⟨rfl, rfl, rfl, Nat.le_refl _, fun _ _ => rfl⟩
/-- x is a slice that holds these bytes. -/
def RowB (W : World) (x : Value) (xs : List Nat) : Prop := ∃ (p : Option Addr) (cap : Nat), x = .slice p xs.length cap ∧ xs.length ≤ cap ∧ ∀ i d, xs[i]? = some d → ∃ g o, p = some ⟨g, o, none⟩ ∧ W.cell? ⟨g, o + i, none⟩ = some (bv d)
theorem RowB.G {w w' : World} {x : Value} {xs : List Nat} (h : RowB w x xs) (g : G w w') : RowB w' x xs := by
  obtain ⟨p, cap, rfl, hc, hr⟩ := h
  refine ⟨p, cap, rfl, hc, fun i d hi => ?_⟩
  obtain ⟨k, o, rfl, hcell⟩ := hr i d hi
  exact ⟨k, o, rfl, (g.cell (cell_ltE hcell)).trans hcell⟩
theorem Bw.row {w0 W : World} {x : Value} {xs : List Nat} (h : Bw w0 W x xs) : RowB W x xs := by
  rcases h.at with ⟨rfl, rfl⟩ | ⟨g, cap, rfl, _, _, hcap, hc⟩
  · exact ⟨none, 0, rfl, by simp, fun i d hi => by simp at hi⟩
  · exact ⟨_, cap, rfl, hcap, fun i d hi => ⟨g, 0, rfl, by rw [Nat.zero_add]; exact hc i d hi⟩⟩
end Go.Proofs.YtdiikofgilplkaaDoor
