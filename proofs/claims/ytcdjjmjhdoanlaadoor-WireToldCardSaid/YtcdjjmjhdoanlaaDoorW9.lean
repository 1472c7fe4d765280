/- Wire: lists. -/
import Derived.Test.YtcdjjmjhdoanlaaDoorW8
namespace Go.Proofs.YtcdjjmjhdoanlaaDoor
open Go.RowKit

theorem cat_assoc (a b c : Option (List Nat)) : cat (cat a b) c = cat a (cat b c) := by
  cases a <;> cases b <;> cases c <;> simp [cat]
theorem cat_nil (a : Option (List Nat)) : cat a (some []) = a := by cases a <;> simp [cat]
theorem nil_cat (a : Option (List Nat)) : cat (some []) a = a := by cases a <;> simp [cat]
/-- A list's elements, one behind the other. -/
def catL {α : Type} (f : α → Option (List Nat)) : List α → Option (List Nat)
  | [] => some []
  | x :: r => cat (f x) (catL f r)
theorem catL_app {α : Type} (f : α → Option (List Nat)) : ∀ a b : List α, catL f (a ++ b) = cat (catL f a) (catL f b)
  | [], b => (nil_cat _).symm
  | x :: a, b => by
    show cat (f x) (catL f (a ++ b)) = cat (cat (f x) (catL f a)) (catL f b)
    rw [catL_app f a b, cat_assoc]
theorem catL_snoc {α : Type} (f : α → Option (List Nat)) (l : List α) (i : Nat) (x : α) (h : l[i]? = some x) : catL f (l.take (i + 1)) = cat (catL f (l.take i)) (f x) := by
  rw [List.take_add_one, h, catL_app]
  show cat _ (cat (f x) (some [])) = _
  rw [cat_nil]
theorem wap_rest {α : Type} (s : Option (List Nat)) (f : α → Option (List Nat)) (a : List Nat) (l : List α) (i : Nat) : wap s (cat (some a) (catL f l)) = wap (wap s (cat (some a) (catL f (l.take i)))) (catL f (l.drop i)) := by
  rw [wap_cat, cat_assoc, ← catL_app, List.take_append_drop]
/-- Whole numbers of 64 bits in a row. -/
abbrev eI : Enc Int := ⟨fun x => [I x], 1, fun _ => rfl, fun _ u hu => by simp at hu; subst hu; rfl⟩
def numF (n : Int) : Option (List Nat) := some (cnt (zig n))
theorem RI.at {W : World} {g o n cap : Nat} {l : List Int} (h : Row eI.rel W (.slice (some ⟨g, o, none⟩) n cap) l) {i : Nat} {x : Int} (hx : l[i]? = some x) : W.cell? ⟨g, o + i, none⟩ = some (I x) := by
  have := h.one hx 0 rfl
  simpa using this
end Go.Proofs.YtcdjjmjhdoanlaaDoor
