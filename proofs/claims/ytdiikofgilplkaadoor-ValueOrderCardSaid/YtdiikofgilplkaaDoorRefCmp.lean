/- trellisref1: numbers, rank, texts. -/
import Derived.Test.YtdiikofgilplkaaDoorCmp
import Derived.Test.YtdiikofgilplkaaDoorUtf
import Derived.BigQuiet
namespace Go.Proofs.YtdiikofgilplkaaDoor
open Go.RowKit Go.Lib Go.PlainAid
/-- The document's ranks. -/
def rkR (k : Int) : Int := if k = 5 then 1 else if k = 6 then 2 else if k = 4 then 3 else if k = 1 then 4 else if k = 2 then 5 else if k = 3 then 5 else 6
theorem G.drewK {a w : World} (h : G a w) (n : Nat) : G a (w.drewN n) := ⟨h.os, h.tape, h.output, h.size, h.block⟩
theorem drop_bt (s : ByteArray) (i : Nat) (h : i < s.size) : ∃ x : UInt8, s.data.toList.drop i = x :: s.data.toList.drop (i + 1) ∧ (x.toNat : Int) = bt s i := by
  have hl : i < s.data.toList.length := by simpa using h
  refine ⟨s.data.toList[i], List.drop_eq_getElem_cons hl, ?_⟩
  unfold bt
  rw [dif_pos h]
  rfl
theorem cb_nil (a b : List UInt8) (h : a = [] ∨ b = []) : compareBytes a b = cI a.length b.length := by
  unfold cI
  rcases h with rfl | rfl
  · cases b with
    | nil => rfl
    | cons x t => simp [compareBytes]
  · cases a with
    | nil => rfl
    | cons x t =>
      have h1 : ¬ ((t.length : Int) + 1 < 0) := by omega
      have h2 : (0 : Int) < (t.length : Int) + 1 := by omega
      simp [compareBytes, h1, h2]
theorem cb_step (a b : ByteArray) (m : Nat) (h1 : m < a.size) (h2 : m < b.size) :
    compareBytes (a.data.toList.drop m) (b.data.toList.drop m) = if bt a m < bt b m then -1 else if bt b m < bt a m then 1 else compareBytes (a.data.toList.drop (m + 1)) (b.data.toList.drop (m + 1)) := by
  obtain ⟨x, ex, hx⟩ := drop_bt a m h1
  obtain ⟨y, ey, hy⟩ := drop_bt b m h2
  rw [ex, ey, ← hx, ← hy]
  have l1 : (x < y) ↔ ((x.toNat : Int) < (y.toNat : Int)) := by rw [UInt8.lt_iff_toNat_lt]; omega
  have l2 : (y < x) ↔ ((y.toNat : Int) < (x.toNat : Int)) := by rw [UInt8.lt_iff_toNat_lt]; omega
  simp only [compareBytes, l1, l2]
end Go.Proofs.YtdiikofgilplkaaDoor
