/- PathsOnce: what orders the heap. -/
import Derived.Test.YtbhbmcgjfcgdgaaPa8
import Derived.Test.YtbhbmcgjfcgdgaaPaO
namespace Go.Proofs.Ytbhbmcgjfcgdgaa
open Go.RowKit

theorem and7 (x : Int) : ∃ n : Nat, n < 8 ∧ bits BinOp.and IntKind.i64 x 7 = (n : Int) := by
  obtain ⟨m, hm⟩ : ∃ m, m = (BitVec.ofInt 64 x).toNat &&& 7 := ⟨_, rfl⟩
  have h8 : m < 8 := by rw [hm]; exact Nat.lt_succ_of_le Nat.and_le_right
  refine ⟨m, h8, ?_⟩
  have e : bits BinOp.and IntKind.i64 x 7 = IntKind.i64.wrap ((BitVec.ofInt 64 x &&& BitVec.ofInt 64 7).toNat : Int) := rfl
  rw [e, BitVec.toNat_and, show (BitVec.ofInt 64 7).toNat = 7 from by decide, ← hm, IntKind.wrap_i64]
  omega
def ltO (L : Nat) (X : Nat → Bool) (a b : Int × Int) : Bool := if L = 0 then false else X (((bits BinOp.and IntKind.i64 a.1 7).toNat * 8 + (bits BinOp.and IntKind.i64 b.1 7).toNat) % L)
set_option maxRecDepth 100000 in
set_option maxHeartbeats 2000000 in
theorem lt_o (B : Nat) (va : Option Addr) (L cap : Nat) (X : Nat → Bool) (hL : L ≤ 1048576) (w0 : World) (hB : Blk w0 B 29 [.slice va L cap]) (hv : L = 0 ∨ ∃ b off, va = some ⟨b, off, none⟩ ∧ Bools w0 b off L X) (a b : Int × Int) (W : World) (hG : G w0 W) : Calls Try.prog 11 #[.agg #[I a.1, I a.2], .agg #[I b.1, I b.2], ptr B] W fun e W' => e = .returned (.bool (ltO L X a b)) ∧ G W W' := by
  have hc := (hB.G hG).cell
  have hl := (hB.G hG).lt
  have hl2 : B < W.heap.size + 1 := by omega
  rcases hv with rfl | ⟨b', off, rfl, hN⟩
  · go_enter Try.func11, Try.ntmps11
    go_wp2
    all_goals (go_ret; exact ⟨by simp [ltO], ((G.refl _).alloc _).alloc _⟩)
  · by_cases h0 : L = 0
    · subst h0
      go_enter Try.func11, Try.ntmps11
      go_wp2
      all_goals (go_ret; exact ⟨by simp [ltO], ((G.refl _).alloc _).alloc _⟩)
    · have hn := hN.G hG
      have hne : ((L : Int) == 0) = false := beq_eq_false_iff_ne.2 (by omega)
      obtain ⟨p, hp8, hp⟩ := and7 a.1
      obtain ⟨q, hq8, hq⟩ := and7 b.1
      have elt : ltO L X a b = X ((p * 8 + q) % L) := by simp [ltO, h0, hp, hq]
      rw [elt]
      have hw1 : wrap64 ((p : Int) * 8) = (p : Int) * 8 := by unfold wrap64; omega
      have hw2 : wrap64 ((p : Int) * 8 + (q : Int)) = (p : Int) * 8 + (q : Int) := by unfold wrap64; omega
      obtain ⟨r, hr⟩ : ∃ r, r = (p * 8 + q) % L := ⟨_, rfl⟩
      have hrl : r < L := by rw [hr]; exact Nat.mod_lt _ (by omega)
      have hr1 : ((p : Int) * 8 + (q : Int)) % (L : Int) = (r : Int) := by rw [hr]; simp
      have hr2 : ((p : Int) * 8 + (q : Int)).tmod (L : Int) = (r : Int) := by rw [Int.tmod_eq_emod_of_nonneg (by omega)]; exact hr1
      have hrI : (r : Int) < L := by omega
      have hLne : ¬ ((L : Int) = 0) := by omega
      have hcell := hn r hrl
      have hbl := cell_lt hcell
      have hbl2 : b' < W.heap.size + 1 := by omega
      rw [← hr]
      clear hr hn hN elt
      go_enter Try.func11, Try.ntmps11
      go_wp2_with fail
      go_quiet (fail)
      go_wp2_with fail
      go_ret
      exact ⟨rfl, (((G.refl W).alloc _).alloc _).trans (g_drewN _ _)⟩
end Go.Proofs.Ytbhbmcgjfcgdgaa
