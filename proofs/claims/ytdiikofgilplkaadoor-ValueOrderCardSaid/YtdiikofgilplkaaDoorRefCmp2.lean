/- trellisref1.Compare. -/
import Derived.Test.YtdiikofgilplkaaDoorRefCmp
import Derived.Test.YtdiikofgilplkaaDoorRefValid
namespace Go.Proofs.YtdiikofgilplkaaDoor
open Go.RowKit Go.Lib Go.PlainAid

section keep2
variable {w W W' : World} {b c : Nat} {f g : Nat → Option Value}
/-- Two boxes hold what they hold. -/
def Two (w : World) (b c : Nat) (f g : Nat → Option Value) (W : World) : Prop := (∀ o, W.cell? ⟨b, o, none⟩ = f o) ∧ (∀ o, W.cell? ⟨c, o, none⟩ = g o) ∧ (∀ o, W.frozen? ⟨b, o, none⟩ = false) ∧ (∀ o, W.frozen? ⟨c, o, none⟩ = false) ∧ G w W ∧ b < W.heap.size ∧ c < W.heap.size
theorem Two.keep (hb : G W W') (h : Two w b c f g W) : Two w b c f g W' :=
  ⟨G.cells hb h.1 h.2.2.2.2.2.1, G.cells hb h.2.1 h.2.2.2.2.2.2, G.frozens hb h.2.2.1 h.2.2.2.2.2.1, G.frozens hb h.2.2.2.1 h.2.2.2.2.2.2, h.2.2.2.2.1.trans hb, Nat.lt_of_lt_of_le h.2.2.2.2.2.1 hb.size, Nat.lt_of_lt_of_le h.2.2.2.2.2.2 hb.size⟩
end keep2
section keep22
variable {w W W' : World} {b c : Nat} {f g : Nat → Option Value}
theorem keepG2 (h1 : ∀ o, W.cell? ⟨b, o, none⟩ = f o) (h2 : ∀ o, W.cell? ⟨c, o, none⟩ = g o) (h3 : G w W) (h4 : b < W.heap.size) (h5 : c < W.heap.size) (hb : G W W') : (∀ o, W'.cell? ⟨b, o, none⟩ = f o) ∧ (∀ o, W'.cell? ⟨c, o, none⟩ = g o) ∧ G w W' ∧ b < W'.heap.size ∧ c < W'.heap.size :=
  ⟨G.cells hb h1 h4, G.cells hb h2 h5, h3.trans hb, Nat.lt_of_lt_of_le h4 hb.size, Nat.lt_of_lt_of_le h5 hb.size⟩
theorem keepD2 (h1 : ∀ o, W.cell? ⟨b, o, none⟩ = f o) (h2 : ∀ o, W.cell? ⟨c, o, none⟩ = g o) (h3 : G w W) (h4 : b < W.heap.size) (h5 : c < W.heap.size) : (∀ o, W.drew.cell? ⟨b, o, none⟩ = f o) ∧ (∀ o, W.drew.cell? ⟨c, o, none⟩ = g o) ∧ G w W.drew ∧ b < W.drew.heap.size ∧ c < W.drew.heap.size :=
  keepG2 h1 h2 h3 h4 h5 (G.refl _).drew
theorem keepC2 (hb : G W W') (h : (∀ o, W.cell? ⟨b, o, none⟩ = f o) ∧ (∀ o, W.cell? ⟨c, o, none⟩ = g o) ∧ G w W ∧ b < W.heap.size ∧ c < W.heap.size) : (∀ o, W'.cell? ⟨b, o, none⟩ = f o) ∧ (∀ o, W'.cell? ⟨c, o, none⟩ = g o) ∧ G w W' ∧ b < W'.heap.size ∧ c < W'.heap.size :=
  keepG2 h.1 h.2.1 h.2.2.1 h.2.2.2.1 h.2.2.2.2 hb
theorem keepE2 (h : (∀ o, W.cell? ⟨b, o, none⟩ = f o) ∧ (∀ o, W.cell? ⟨c, o, none⟩ = g o) ∧ G w W ∧ b < W.heap.size ∧ c < W.heap.size) : (∀ o, W.drew.cell? ⟨b, o, none⟩ = f o) ∧ (∀ o, W.drew.cell? ⟨c, o, none⟩ = g o) ∧ G w W.drew ∧ b < W.drew.heap.size ∧ c < W.drew.heap.size :=
  keepC2 (G.refl _).drew h
end keep22
theorem size_setCell (w : World) (p : Addr) (v : Value) : (w.setCell p v).heap.size = w.heap.size := by simp [go_sem]
theorem frozen_set (w : World) (p q : Addr) (v : Value) : (w.setCell p v).frozen? q = w.frozen? q := by simp [go_sem]
theorem set_same {W : World} {B i : Nat} {x y : Value} (h : W.cell? ⟨B, i, none⟩ = some x) : (W.setCell ⟨B, i, none⟩ y).cell? ⟨B, i, none⟩ = some y := World.cell?_setCell_same _ _ _ h
theorem set_other {W : World} {B i b o : Nat} {y : Value} (h : ¬ (B = b ∧ i = o)) : (W.setCell ⟨B, i, none⟩ y).cell? ⟨b, o, none⟩ = W.cell? ⟨b, o, none⟩ :=
  World.cell?_setCell_other _ _ _ _ (fun e => h (by cases e; exact ⟨rfl, rfl⟩))
/-- A box of four cells, written. -/
theorem box_set (W : World) (B : Nat) (x0 x1 x2 x3 y0 y1 y2 y3 : Value) (h : ∀ o, W.cell? ⟨B, o, none⟩ = [x0, x1, x2, x3][o]?) :
    ∀ o, ((((W.setCell ⟨B, 0, none⟩ y0).setCell ⟨B, 1, none⟩ y1).setCell ⟨B, 2, none⟩ y2).setCell ⟨B, 3, none⟩ y3).cell? ⟨B, o, none⟩ = [y0, y1, y2, y3][o]? := by
  intro o
  have h0 : W.cell? ⟨B, 0, none⟩ = some x0 := h 0
  have h1 : W.cell? ⟨B, 1, none⟩ = some x1 := h 1
  have h2 : W.cell? ⟨B, 2, none⟩ = some x2 := h 2
  have h3 : W.cell? ⟨B, 3, none⟩ = some x3 := h 3
  by_cases e0 : o = 0
  · subst e0
    rw [set_other (by omega), set_other (by omega), set_other (by omega), set_same h0]; rfl
  by_cases e1 : o = 1
  · subst e1
    rw [set_other (by omega), set_other (by omega), set_same (x := x1) (by rw [set_other (by omega)]; exact h1)]; rfl
  by_cases e2 : o = 2
  · subst e2
    rw [set_other (by omega), set_same (x := x2) (by rw [set_other (by omega), set_other (by omega)]; exact h2)]; rfl
  by_cases e3 : o = 3
  · subst e3
    rw [set_same (x := x3) (by rw [set_other (by omega), set_other (by omega), set_other (by omega)]; exact h3)]; rfl
  rw [set_other (by omega), set_other (by omega), set_other (by omega), set_other (by omega), h]
  have a1 : [x0, x1, x2, x3][o]? = none := List.getElem?_eq_none (by simp; omega)
  have a2 : [y0, y1, y2, y3][o]? = none := List.getElem?_eq_none (by simp; omega)
  rw [a1, a2]
theorem box_other (W : World) (B b : Nat) (hb : B ≠ b) (y0 y1 y2 y3 : Value) :
    ∀ o, ((((W.setCell ⟨B, 0, none⟩ y0).setCell ⟨B, 1, none⟩ y1).setCell ⟨B, 2, none⟩ y2).setCell ⟨B, 3, none⟩ y3).cell? ⟨b, o, none⟩ = W.cell? ⟨b, o, none⟩ := by
  intro o
  rw [set_other (by omega), set_other (by omega), set_other (by omega), set_other (by omega)]
theorem two_set1 {w W : World} {B c : Nat} {x0 x1 x2 x3 : Value} {g : Nat → Option Value} (y0 y1 y2 y3 : Value) (hc : B ≠ c) (hw : w.heap.size ≤ B) (h : Two w B c (fun o => [x0, x1, x2, x3][o]?) g W) :
    Two w B c (fun o => [y0, y1, y2, y3][o]?) g ((((W.setCell ⟨B, 0, none⟩ y0).setCell ⟨B, 1, none⟩ y1).setCell ⟨B, 2, none⟩ y2).setCell ⟨B, 3, none⟩ y3) := by
  obtain ⟨h1, h2, f1, f2, h3, h4, h5⟩ := h
  refine ⟨box_set W B x0 x1 x2 x3 y0 y1 y2 y3 h1, fun o => by rw [box_other W B c hc]; exact h2 o, fun o => by rw [frozen_set, frozen_set, frozen_set, frozen_set]; exact f1 o, fun o => by rw [frozen_set, frozen_set, frozen_set, frozen_set]; exact f2 o, ?_, ?_, ?_⟩
  · exact (((h3.setCell hw _).setCell hw _).setCell hw _).setCell hw _
  · rw [size_setCell, size_setCell, size_setCell, size_setCell]; exact h4
  · rw [size_setCell, size_setCell, size_setCell, size_setCell]; exact h5
theorem two_swap {w W : World} {b c : Nat} {f g : Nat → Option Value} (h : Two w b c f g W) : Two w c b g f W := ⟨h.2.1, h.1, h.2.2.2.1, h.2.2.1, h.2.2.2.2.1, h.2.2.2.2.2.2, h.2.2.2.2.2.1⟩
/-- What the document answers. -/
def cmpR (k k' a b a' b' : Int) (s s' : ByteArray) : Int := or5 (cI (rkR k) (rkR k')) (compareBytes s.data.toList s'.data.toList) (cI a a') (cI k k') (cI b b')
end Go.Proofs.YtdiikofgilplkaaDoor
