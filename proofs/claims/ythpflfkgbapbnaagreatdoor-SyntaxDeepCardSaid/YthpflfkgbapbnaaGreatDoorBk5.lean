/- value.Print. -/
import Derived.Test.YthpflfkgbapbnaaGreatDoorBk4
import Derived.Test.YthpflfkgbapbnaaGreatDoorOkK
namespace Go.Proofs.YthpflfkgbapbnaaGreatDoor
open Go.RowKit Go.Lib Go.Shelf

theorem ilit_any (k a b : Int) (s : ByteArray) (h : okV k a b s = true) (ha : R64 a) : ILit (itemV k a b s) (litV k a b s) := by
  have hk := okV_kind k a b s h
  have : k = 0 ∨ k = 1 ∨ k = 2 ∨ k = 3 ∨ k = 4 ∨ k = 5 ∨ k = 6 := by omega
  rcases this with rfl | rfl | rfl | rfl | rfl | rfl | rfl
  · rw [itV_0 h]; exact lit_null
  · rw [itV_1 h]
    obtain ⟨hx, rfl, rfl⟩ := ok_1 h
    rcases hx with rfl | rfl
    · exact lit_truth false
    · exact lit_truth true
  · rw [itV_2 h]; exact lit_whole a ha
  · rw [itV_3 h]
    obtain ⟨h1, h2, rfl⟩ := ok_3 h
    exact lit_cpx (fl a) (fl b) a b (Fl.ofInt a (by omega)) (Fl.ofInt b (by omega)) (by omega) (by omega)
  · rw [itV_4 h]
    obtain ⟨rfl, rfl, h1, h2⟩ := ok_4 h
    exact lit_str s h2 h1
  · rw [itV_5 h]; exact lit_node a ha
  · rw [itV_6 h]; exact lit_edge a ha
end Go.Proofs.YthpflfkgbapbnaaGreatDoor
