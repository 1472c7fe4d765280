/- Pack: both faces. -/
import Derived.Test.YtdiikofgilplkaaDoorNam1
namespace Go.Proofs.YtdiikofgilplkaaDoor
open Go.RowKit Go.Shelf Go.PlainAid Go.Lib

set_option maxRecDepth 100000 in
set_option maxHeartbeats 4000000 in
theorem Pk_yes (s : ByteArray) (h : NameP s) (w : World) : Calls Tryd.prog 13 #[.string s] w fun e w' => e = .returned (.tuple #[.int .i64 (packK s 8), .int .i64 0]) ∧ w' = w := by
  have HN : Hid _ := Name_any s
  rw [(nameB_iff s).2 h] at HN
  have HP : Hid _ := pk_any s h
  clear h
  go_enter Tryd.func13, Tryd.ntmps13
  go_wp2_with fail
  refine (HN.out _).mono ?_
  rintro e w1 ⟨rfl, rfl⟩
  go_wp2_with fail
  refine (HP.out _).mono ?_
  rintro e w1 ⟨rfl, rfl⟩
  go_wp2
  go_ret2
  exact ⟨rfl, rfl⟩
set_option maxRecDepth 100000 in
set_option maxHeartbeats 4000000 in
theorem Pk_no (s : ByteArray) (h : nameB s = false) (w : World) : Calls Tryd.prog 13 #[.string s] w fun e w' => e = .returned (.tuple #[.int .i64 0, .int .i64 73]) ∧ w' = w := by
  have HN : Hid _ := Name_any s
  rw [h] at HN
  clear h
  go_enter Tryd.func13, Tryd.ntmps13
  go_wp2_with fail
  refine (HN.out _).mono ?_
  rintro e w1 ⟨rfl, rfl⟩
  go_wp2
  go_ret2
  exact ⟨rfl, rfl⟩
/-- A name is known by its number: what the digits say. -/
theorem packK_dig (s : ByteArray) (h : NameP s) : ∀ k j, j < k → k ≤ 8 → packK s k / 37 ^ j % 37 = (if k - 1 - j < s.size then chN (bt s (k - 1 - j)) else 0) := by
  intro k
  induction k with
  | zero => intro j hj; omega
  | succ k ih =>
    intro j hj hk
    have hc : 0 ≤ (if k < s.size then chN (bt s k) else 0) ∧ (if k < s.size then chN (bt s k) else 0) ≤ 36 := by
      split
      · have := chN_bd _ (h.2.2.2 k (by assumption)); omega
      · omega
    have hp := (packK_bd s h k).1
    show (packK s k * 37 + (if k < s.size then chN (bt s k) else 0)) / 37 ^ j % 37 = _
    cases j with
    | zero =>
      rw [show k + 1 - 1 - 0 = k by omega]
      generalize (if k < s.size then chN (bt s k) else 0) = c at hc
      generalize packK s k = p at hp
      simp
      omega
    | succ j =>
      have e := ih j (by omega) (by omega)
      rw [show k + 1 - 1 - (j + 1) = k - 1 - j by omega, ← e, Int.pow_succ, Int.mul_comm (37 ^ j) 37, ← Int.ediv_ediv_of_nonneg (by decide)]
      congr 2
      generalize (if k < s.size then chN (bt s k) else 0) = c at hc
      generalize packK s k = p at hp
      omega
end Go.Proofs.YtdiikofgilplkaaDoor
