/- value.putHighFirst. -/
import Derived.Test.YtdiikofgilplkaaDoorEnc0
import Derived.WalkKit
namespace Go.Proofs.YtdiikofgilplkaaDoor
open Go.RowKit

/-- The last k of the len cells from (g, off) on hold the lowest digits of x, the highest first; all else is as it was. -/
structure PutR (w : World) (g off len k x : Nat) (W : World) : Prop where
  keep : ∀ w0, G w0 w → w0.heap.size ≤ g → G w0 W
  new : ∀ j, len - k ≤ j → j < len → W.cell? ⟨g, off + j, none⟩ = some (bv (x / 256 ^ (len - 1 - j) % 256))
  old : ∀ o, ¬ (off + (len - k) ≤ o ∧ o < off + len) → W.cell? ⟨g, o, none⟩ = w.cell? ⟨g, o, none⟩
  size : W.heap.size = w.heap.size
  other : ∀ b o, b ≠ g → W.cell? ⟨b, o, none⟩ = w.cell? ⟨b, o, none⟩
  frozen : ∀ b o, W.frozen? ⟨b, o, none⟩ = w.frozen? ⟨b, o, none⟩
theorem PutR.start (w : World) (g off len x : Nat) : PutR w g off len 0 x w :=
  ⟨fun _ h _ => h, fun j h1 h2 => by omega, fun _ _ => rfl, rfl, fun _ _ _ => rfl, fun _ _ => rfl⟩
theorem frozen_setCell (W : World) (p : Addr) (u : Value) (a : Addr) : (W.setCell p u).frozen? a = W.frozen? a := by simp
theorem PutR.step {w W : World} {g off len k x : Nat} (h : PutR w g off len k x W) (hk : k < len) (hc : ∃ u, W.cell? ⟨g, off + (len - 1 - k), none⟩ = some u) :
    PutR w g off len (k + 1) x (W.setCell ⟨g, off + (len - 1 - k), none⟩ (bv (x / 256 ^ k % 256))) := by
  obtain ⟨u, hu⟩ := hc
  refine ⟨fun w0 h0 hg => (h.keep w0 h0 hg).setCell hg _, fun j h1 h2 => ?_, fun o ho => ?_, ?_, fun b o hb => ?_, fun b o => ?_⟩
  · by_cases e : j = len - 1 - k
    · subst e
      rw [World.cell?_setCell_same _ _ _ hu]
      have : len - 1 - (len - 1 - k) = k := by omega
      rw [this]
    · rw [World.cell?_setCell_other _ _ _ _ (by intro he; have := congrArg Addr.off he; simp at this; omega)]
      exact h.new j (by omega) h2
  · rw [World.cell?_setCell_other _ _ _ _ (by intro he; have := congrArg Addr.off he; simp at this; omega)]
    exact h.old o (by omega)
  · rw [← h.size]; simp
  · rw [World.cell?_setCell_other _ _ _ _ (by intro he; cases he; exact hb rfl)]
    exact h.other b o hb
  · rw [frozen_setCell]; exact h.frozen b o
set_option maxRecDepth 100000 in
set_option maxHeartbeats 2000000 in
theorem put_any (g off len cap x : Nat) (hl : len ≤ 1073741824) (hcap : len ≤ cap) (w : World) (hc : ∀ j, j < len → ∃ u, w.cell? ⟨g, off + j, none⟩ = some u) (hf : ∀ j, j < len → w.frozen? ⟨g, off + j, none⟩ = false) :
    Calls Tryd.prog 23 #[.slice (some ⟨g, off, none⟩) len cap, .int .u64 x] w fun e w' => e = .returned (.tuple #[]) ∧ PutR w g off len len x w' := by
  have HC : Hid _ := hc
  have HF : Hid _ := hf
  clear hc hf
  go_enter Tryd.func23, Tryd.ntmps23
  go_wp2
  go_loopw [1, 4] (fun n i W => ∃ k : Nat, k ≤ len ∧ i = .int .i64 ((len : Int) - 1 - k) ∧ n = .int .u64 ((x / 256 ^ k : Nat) : Int) ∧ PutR w g off len k x W) (fun _ i _ => (RowKit.intOf i + 1).toNat)
  case atStart => exact ⟨0, by omega, by simp, by simp, PutR.start _ _ _ _ _⟩
  case round =>
    obtain ⟨k, hk, rfl, rfl, hR⟩ := hrel
    by_cases hlt : k < len
    · obtain ⟨j, hj⟩ : ∃ j : Nat, (len : Int) - 1 - k = j := ⟨len - 1 - k, by omega⟩
      have hjj : j = len - 1 - k := by omega
      have hcell : ∃ u, wr.cell? ⟨g, off + j, none⟩ = some u := by
        obtain ⟨u, hu⟩ := HC.out j (by omega)
        exact ⟨u, by rw [hR.old _ (by omega)]; exact hu⟩
      have hfz : wr.frozen? ⟨g, off + j, none⟩ = false := by rw [hR.frozen]; exact HF.out j (by omega)
      obtain ⟨u, hu⟩ := hcell
      have HR : Hid (PutR w g off len (k + 1) x (wr.setCell ⟨g, off + j, none⟩ (.int .u8 ((x : Int) / 256 ^ k % 256)))) := by
        have e : (x : Int) / 256 ^ k % 256 = ((x / 256 ^ k % 256 : Nat) : Int) := by simp
        rw [e]; subst hjj; exact hR.step hlt ⟨u, hu⟩
      have HJ : Hid _ := hjj
      clear hR hjj
      rw [hj]
      go_wp2
      go_roundw
      case rel => exact ⟨k + 1, by omega, by congr 1; omega, by congr 1; rw [Nat.pow_succ, ← Nat.div_div_eq_div_mul]; simp, HR.out⟩
      case measure => simp [RowKit.intOf]
    · have e : k = len := by omega
      subst e
      have HR : Hid _ := hR
      clear hR
      have e1 : (k : Int) - 1 - k = -1 := by omega
      rw [e1]
      go_wp2
      go_end0
      exact ⟨rfl, HR.out⟩
end Go.Proofs.YtdiikofgilplkaaDoor
