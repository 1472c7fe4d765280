/- Paths: NewHeap, the closures, keys. -/
import Derived.Test.YtbhbmcgjfcgdgaaPa6
import Derived.Test.YtbhbmcgjfcgdgaaPa2a
import Derived.Test.YtbhbmcgjfcgdgaaPa2b
import Derived.Test.YtbhbmcgjfcgdgaaPa2c
import Derived.Test.YtbhbmcgjfcgdgaaPa2d
namespace Go.Proofs.Ytbhbmcgjfcgdgaa
open Go.RowKit

set_option maxRecDepth 100000 in
set_option maxHeartbeats 2000000 in
theorem nh_s (W : World) : Calls Try.prog 6 #[.func (.func 7) #[] #[]] W fun e W' => ∃ h, e = .returned (ptr h) ∧ HP W' h (.func (.func 7) #[] #[]) (.slice none 0 0) [] 0 ∧ G W W' ∧ W.heap.size ≤ h := by
  have hb := Blk.new W [.func (.func 7) #[] #[], .slice none 0 0, I 0] 45
  have q0 : ∀ w : World, (binOp .eql 27 (.func (.func 7) #[] #[]) .nilFunc).run Try.prog w = .ok (.bool false) w := fun w => by rfl
  go_enter Try.func6, Try.ntmps6
  go_wp2
  go_ret
  exact ⟨W.heap.size, rfl, ⟨hb, .inl ⟨rfl, rfl⟩⟩, (G.refl _).alloc _, Nat.le_refl _⟩
set_option maxRecDepth 100000 in
set_option maxHeartbeats 2000000 in
theorem nh_o (B : Nat) (W : World) : Calls Try.prog 6 #[.func (.func 11) #[] #[ptr B]] W fun e W' => ∃ h, e = .returned (ptr h) ∧ HP W' h (.func (.func 11) #[] #[ptr B]) (.slice none 0 0) [] 0 ∧ G W W' ∧ W.heap.size ≤ h := by
  have hb := Blk.new W [.func (.func 11) #[] #[ptr B], .slice none 0 0, I 0] 45
  have q0 : ∀ w : World, (binOp .eql 27 (.func (.func 11) #[] #[ptr B]) .nilFunc).run Try.prog w = .ok (.bool false) w := fun w => by rfl
  go_enter Try.func6, Try.ntmps6
  go_wp2
  go_ret
  exact ⟨W.heap.size, rfl, ⟨hb, .inl ⟨rfl, rfl⟩⟩, (G.refl _).alloc _, Nat.le_refl _⟩
set_option maxRecDepth 100000 in
set_option maxHeartbeats 2000000 in
theorem nh_u (W : World) : Calls Try.prog 6 #[.func (.func 12) #[] #[]] W fun e W' => ∃ h, e = .returned (ptr h) ∧ HP W' h (.func (.func 12) #[] #[]) (.slice none 0 0) [] 0 ∧ G W W' ∧ W.heap.size ≤ h := by
  have hb := Blk.new W [.func (.func 12) #[] #[], .slice none 0 0, I 0] 45
  have q0 : ∀ w : World, (binOp .eql 27 (.func (.func 12) #[] #[]) .nilFunc).run Try.prog w = .ok (.bool false) w := fun w => by rfl
  go_enter Try.func6, Try.ntmps6
  go_wp2
  go_ret
  exact ⟨W.heap.size, rfl, ⟨hb, .inl ⟨rfl, rfl⟩⟩, (G.refl _).alloc _, Nat.le_refl _⟩
set_option maxRecDepth 100000 in
set_option maxHeartbeats 2000000 in
theorem nh_d (W : World) : Calls Try.prog 6 #[.func (.func 13) #[] #[]] W fun e W' => ∃ h, e = .returned (ptr h) ∧ HP W' h (.func (.func 13) #[] #[]) (.slice none 0 0) [] 0 ∧ G W W' ∧ W.heap.size ≤ h := by
  have hb := Blk.new W [.func (.func 13) #[] #[], .slice none 0 0, I 0] 45
  have q0 : ∀ w : World, (binOp .eql 27 (.func (.func 13) #[] #[]) .nilFunc).run Try.prog w = .ok (.bool false) w := fun w => by rfl
  go_enter Try.func6, Try.ntmps6
  go_wp2
  go_ret
  exact ⟨W.heap.size, rfl, ⟨hb, .inl ⟨rfl, rfl⟩⟩, (G.refl _).alloc _, Nat.le_refl _⟩
theorem lt_s (a b : Int × Int) (W : World) : Calls Try.prog 7 #[.agg #[I a.1, I a.2], .agg #[I b.1, I b.2]] W fun e W' => e = .returned (.bool (decide (a.1 < b.1))) ∧ G W W' := by
  go_enter Try.func7, Try.ntmps7
  go_wp2
  go_ret
  exact ⟨rfl, ((G.refl _).alloc _).alloc _⟩
theorem lt_u (a b : Int × Int) (W : World) : Calls Try.prog 12 #[.agg #[I a.1, I a.2], .agg #[I b.1, I b.2]] W fun e W' => e = .returned (.bool (decide (a.1 < b.1))) ∧ G W W' := by
  go_enter Try.func12, Try.ntmps12
  go_wp2
  go_ret
  exact ⟨rfl, ((G.refl _).alloc _).alloc _⟩
theorem lt_d (a b : Int × Int) (W : World) : Calls Try.prog 13 #[.agg #[I a.1, I a.2], .agg #[I b.1, I b.2]] W fun e W' => e = .returned (.bool (decide (b.1 < a.1))) ∧ G W W' := by
  go_enter Try.func13, Try.ntmps13
  go_wp2
  go_ret
  exact ⟨rfl, ((G.refl _).alloc _).alloc _⟩
def upL (a b : Int × Int) : Bool := decide (a.1 < b.1)
def downL (a b : Int × Int) : Bool := decide (b.1 < a.1)
theorem wo_up : Hp.WO upL := ⟨fun a b h => by simp [upL] at *; omega, fun a b c h k => by simp [upL] at *; omega, fun a b c h k => by simp [upL] at *; omega⟩
theorem wo_down : Hp.WO downL := ⟨fun a b h => by simp [downL] at *; omega, fun a b c h k => by simp [downL] at *; omega, fun a b c h k => by simp [downL] at *; omega⟩
theorem ahS (w : World) : AhOk w (.func (.func 7) #[] #[]) upL := ah_s w upL (fun a b W _ => lt_s a b W)
theorem ahU (w : World) : AhOk w (.func (.func 12) #[] #[]) upL := ah_u w upL (fun a b W _ => lt_u a b W)
theorem ahD (w : World) : AhOk w (.func (.func 13) #[] #[]) downL := ah_d w downL (fun a b W _ => lt_d a b W)
/-- Whole numbers in a row. -/
def Nums (w : World) (b off L : Nat) (X : Nat → Int) : Prop := ∀ i, i < L → w.cell? ⟨b, off + i, none⟩ = some (I (X i))
theorem cell_lt {w : World} {b o : Nat} {v : Value} (h : w.cell? ⟨b, o, none⟩ = some v) : b < w.heap.size := by
  rcases Nat.lt_or_ge b w.heap.size with q | q
  · exact q
  · rw [World.cell?, Array.getElem?_eq_none q] at h; simp at h
theorem Nums.G {w w' : World} {b off L : Nat} {X : Nat → Int} (h : Nums w b off L X) (g : Go.Proofs.Ytbhbmcgjfcgdgaa.G w w') : Nums w' b off L X := fun i hi => by rw [g.cell (cell_lt (h i hi))]; exact h i hi
end Go.Proofs.Ytbhbmcgjfcgdgaa
