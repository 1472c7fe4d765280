/- The document's bits; how many numbers a kind takes. -/
import Derived.Test.YtcdjjmjhdoanlaaDoorW10
import Derived.Lib.ConvBytes
import Derived.Test.YtcdjjmjhdoanlaaDoorW12
namespace Go.Proofs.YtcdjjmjhdoanlaaDoor
section
section
open Go.RowKit

/-- Bytes that were made since W. -/
def NewB (l : List Nat) (W : World) (e : Ending) (W' : World) : Prop := ∃ v', e = .returned v' ∧ SwB W' v' l ∧ G W W' ∧ Fresh W v'
theorem zig_pos (n : Int) (h : R64 n) (h0 : 0 ≤ n) : IntKind.u64.wrap (IntKind.u64.wrap n * 2) = (zig n : Int) := by
  rw [IntKind.wrap_u64, IntKind.wrap_u64]; unfold zig; rw [if_pos h0]; omega
theorem zig_neg (n : Int) (h : R64 n) (h0 : ¬ 0 ≤ n) : IntKind.u64.wrap (IntKind.u64.wrap (IntKind.u64.wrap (wrap64 (-wrap64 (n + 1))) * 2) + 1) = (zig n : Int) := by
  have e1 : wrap64 (-wrap64 (n + 1)) = -(n + 1) := by
    have : wrap64 (n + 1) = n + 1 := by unfold wrap64; omega
    rw [this]; unfold wrap64; omega
  rw [e1, IntKind.wrap_u64, IntKind.wrap_u64, IntKind.wrap_u64]; unfold zig; rw [if_neg h0]; omega
end
open Go.RowKit

theorem flat_take {α : Type} (f : α → List Nat) (l : List α) (i : Nat) : ((l.take i).flatMap f).length ≤ (l.flatMap f).length := by
  have : l.flatMap f = (l.take i).flatMap f ++ (l.drop i).flatMap f := by rw [← List.flatMap_append, List.take_append_drop]
  rw [this, List.length_append]; omega
abbrev numB (n : Int) : List Nat := cnt (zig n)
theorem conv_run (s : ByteArray) (w : World) : (convert 9 23 (.string s)).run Tryd.prog w = .ok (.slice (some ⟨w.heap.size, 0, none⟩) s.size (grownCap w s.size 0 5)) (Lib.bytesWorld w 5 s) :=
  Lib.run_convert_string_bytes w 9 23 5 s Tryd.underlying9 Tryd.underlying23 Tryd.underlying5
theorem conv_G (s : ByteArray) (w : World) : G w (Lib.bytesWorld w 5 s) := ⟨rfl, rfl, rfl, by rw [Lib.bytesWorld_size]; omega, fun j hj => Lib.bytesWorld_at_old w 5 s j hj⟩
theorem conv_row (s : ByteArray) (w : World) : Rb (Lib.bytesWorld w 5 s) (.slice (some ⟨w.heap.size, 0, none⟩) s.size (grownCap w s.size 0 5)) (bys s) := by
  refine ⟨some ⟨w.heap.size, 0, none⟩, grownCap w s.size 0 5, by rw [bys_len], by rw [bys_len]; exact grownCap_ge w s.size 0 5, (fun q => by cases q), fun i x hx => ⟨w.heap.size, 0, [bv x], rfl, rfl, fun j u hj => ?_⟩⟩
  have hj0 : j = 0 := by have := (List.getElem?_eq_some_iff.1 hj).1; simp at this; exact this
  subst hj0
  simp at hj
  subst hj
  have hi := (List.getElem?_eq_some_iff.1 hx).1
  rw [bys_len] at hi
  show (Lib.bytesWorld w 5 s).cell? ⟨w.heap.size, 0 + i * 1 + 0, none⟩ = some (bv x)
  rw [Nat.zero_add, Nat.mul_one, Nat.add_zero, Lib.bytesWorld_cell w 5 s i hi]
  rw [bys, List.getElem?_map, Option.map_eq_some_iff] at hx
  obtain ⟨u, hu, rfl⟩ := hx
  rw [List.getD_eq_getElem?_getD, hu]
  rfl
end
open Go.RowKit

/-- The first k bits of a byte, as a number. -/
def hv (l : List Bool) (j : Nat) : Nat → Nat
  | 0 => 0
  | k + 1 => 2 * hv l j k + bt l (8 * j + k)
theorem hv_8 (l : List Bool) (j : Nat) : hv l j 8 = byt l j := by
  simp only [hv, byt, Nat.add_zero]; omega
theorem hv_lt (l : List Bool) (j : Nat) : ∀ k, hv l j k < 2 ^ k
  | 0 => by simp [hv]
  | k + 1 => by
    have h1 := hv_lt l j k
    have h2 := bt_le l (8 * j + k)
    rw [hv, Nat.pow_succ]; omega
theorem hv_le (l : List Bool) (j k : Nat) (hk : k ≤ 8) : hv l j k < 256 := Nat.lt_of_lt_of_le (hv_lt l j k) (Nat.pow_le_pow_right (n := 2) (by decide) hk)
end Go.Proofs.YtcdjjmjhdoanlaaDoor
