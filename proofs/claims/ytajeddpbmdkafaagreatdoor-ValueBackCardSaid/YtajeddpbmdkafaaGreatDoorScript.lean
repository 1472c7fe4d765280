/- A script's loop: every entry of a kind from lo to hi is played. -/
import Derived.Test.YtajeddpbmdkafaaGreatDoorForms2
import Derived.Deep.MidRow
namespace Go.Proofs.YtajeddpbmdkafaaGreatDoor
open Go.RowKit Go.PlainAid Go.Lib Go.Shelf
/-- n entries lie at (b, off) of W. -/
def Ents (W : World) (b off n : Nat) (E : Nat → Ent) : Prop := ∀ i, i < n → W.rangeAt b (off + i * 19) (E i).L
theorem cell_lt {W : World} {b o : Nat} {v : Value} (h : W.cell? ⟨b, o, none⟩ = some v) : b < W.heap.size := by
  rcases Nat.lt_or_ge b W.heap.size with h1 | h1
  · exact h1
  · exfalso
    have : W.heap[b]? = none := Array.getElem?_eq_none h1
    unfold World.cell? at h
    simp only [this] at h
    cases h
theorem rangeAt_G {W w : World} {b o : Nat} {cs : List Value} (h : W.rangeAt b o cs) (g : G W w) : w.rangeAt b o cs :=
  fun j v hv => (Below.cell g (p := ⟨b, o + j, none⟩) (cell_lt (h j v hv))).trans (h j v hv)
end Go.Proofs.YtajeddpbmdkafaaGreatDoor
