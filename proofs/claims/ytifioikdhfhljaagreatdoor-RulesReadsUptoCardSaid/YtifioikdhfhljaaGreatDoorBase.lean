/- Small words of our own: 'nothing that was there has turned'; cells behind it. -/
import Derived.Test.YtifioikdhfhljaaGreatDoorPa0
import Derived.WalkKit
import Derived.WalkSpells
import Derived.WalkLawsBesides
import Derived.Deep.RegionWith
import Derived.Deep.RegionHeld3
namespace Go.Proofs.YtifioikdhfhljaaGreatDoor
open Go.RowKit

abbrev V (k a b : Int) (s : ByteArray) : Value := .agg #[.int .i64 k, .int .i64 a, .int .i64 b, .string s]
abbrev E0 : ByteArray := { data := #[] }
abbrev V0 : Value := V 0 0 0 E0
theorem G.frozens {a w : World} (h : G a w) {b : Nat} {f : Nat → Bool} (hc : ∀ o, a.frozen? ⟨b, o, none⟩ = f o) (hb : b < a.heap.size) : ∀ o, w.frozen? ⟨b, o, none⟩ = f o :=
  fun o => (Below.frozen h (p := ⟨b, o, none⟩) hb).trans (hc o)
theorem keepD {w W : World} {b : Nat} {f : Nat → Option Value} (h1 : ∀ o, W.cell? ⟨b, o, none⟩ = f o) (h2 : G w W) (h3 : b < W.heap.size) : (∀ o, W.drew.cell? ⟨b, o, none⟩ = f o) ∧ G w W.drew ∧ b < W.drew.heap.size := ⟨h1, h2.drew, h3⟩
theorem keepG {w W W' : World} {b : Nat} {f : Nat → Option Value} (h1 : ∀ o, W.cell? ⟨b, o, none⟩ = f o) (h2 : G w W) (h3 : b < W.heap.size) (hb : G W W') : (∀ o, W'.cell? ⟨b, o, none⟩ = f o) ∧ G w W' ∧ b < W'.heap.size := ⟨G.cells hb h1 h3, h2.trans hb, Nat.lt_of_lt_of_le h3 hb.size⟩
/-- Two rules for the walk behind a contract. -/
theorem G.rules {W w1 : World} (hb : G W w1) : (∀ b o, b < W.heap.size → w1.cell? ⟨b, o, none⟩ = W.cell? ⟨b, o, none⟩) ∧ (∀ b o, b < W.heap.size → w1.frozen? ⟨b, o, none⟩ = W.frozen? ⟨b, o, none⟩) :=
  ⟨fun _ _ h => hb.cell h, fun _ _ h => hb.frozen h⟩
/-- '==', '!=' on api.Val. -/
theorem eqV (k a b k' a' b' : Int) (s s' : ByteArray) (w : World) : (binOp .eql 41 (V k a b s) (V k' a' b' s')).run Tryz.prog w = .ok (.bool ((k == k') && (a == a') && (b == b') && (s.toList == s'.toList))) w := by
  by_cases h1 : k = k' <;> by_cases h2 : a = a' <;> by_cases h3 : b = b' <;> by_cases h4 : s.toList = s'.toList <;> simp [go_sem, h1, h2, h3, h4]
theorem neqV (k a b k' a' b' : Int) (s s' : ByteArray) (w : World) : (binOp .neq 41 (V k a b s) (V k' a' b' s')).run Tryz.prog w = .ok (.bool (!((k == k') && (a == a') && (b == b') && (s.toList == s'.toList)))) w := by
  by_cases h1 : k = k' <;> by_cases h2 : a = a' <;> by_cases h3 : b = b' <;> by_cases h4 : s.toList = s'.toList <;> simp [go_sem, h1, h2, h3, h4]
end Go.Proofs.YtifioikdhfhljaaGreatDoor
