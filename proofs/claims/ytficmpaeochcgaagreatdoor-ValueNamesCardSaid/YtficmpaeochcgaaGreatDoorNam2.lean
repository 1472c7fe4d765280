/- Pack: both faces. -/
import Derived.Test.YtficmpaeochcgaaGreatDoorNam1
namespace Go.Proofs.YtficmpaeochcgaaGreatDoor
open Go.RowKit Go.Shelf Go.PlainAid Go.Lib

set_option maxRecDepth 100000 in
set_option maxHeartbeats 4000000 in
theorem Pk_yes (s : ByteArray) (h : NameP s) (w : World) : Calls Tryz.prog 69 #[.string s] w fun e w' => e = .returned (.tuple #[.int .i64 (packK s 8), .int .i64 0]) ∧ w' = w := by
  have HN : Hid _ := Name_any s
  rw [(nameB_iff s).2 h] at HN
  have HP : Hid _ := pk_any s h
  clear h
  go_enter Tryz.func69, Tryz.ntmps69
  go_wp2_with fail
  refine (HN.out _).mono ?_
  rintro e w1 ⟨rfl, rfl⟩
  go_wp2_with fail
  refine (HP.out _).mono ?_
  rintro e w1 ⟨rfl, rfl⟩
  go_wp2
  go_ret2
  exact ⟨rfl, rfl⟩
set_option maxRecDepth 100000 in
set_option maxHeartbeats 4000000 in
theorem Pk_no (s : ByteArray) (h : nameB s = false) (w : World) : Calls Tryz.prog 69 #[.string s] w fun e w' => e = .returned (.tuple #[.int .i64 0, .int .i64 73]) ∧ w' = w := by
  have HN : Hid _ := Name_any s
  rw [h] at HN
  clear h
  go_enter Tryz.func69, Tryz.ntmps69
  go_wp2_with fail
  refine (HN.out _).mono ?_
  rintro e w1 ⟨rfl, rfl⟩
  go_wp2
  go_ret2
  exact ⟨rfl, rfl⟩
set_option maxRecDepth 100000 in
set_option maxHeartbeats 4000000 in
theorem rPk_no (s : ByteArray) (h : nameB s = false) (w : World) : Calls Tryz.prog 70 #[.string s] w fun e w' => e = .returned (.tuple #[.int .i64 0, .int .i64 73]) ∧ w' = w := by
  have HN : Hid _ := rnm_any s
  rw [h] at HN
  clear h
  go_enter Tryz.func70, Tryz.ntmps70
  go_wp2_with fail
  refine (HN.out _).mono ?_
  rintro e w1 ⟨rfl, rfl⟩
  go_wp2
  go_ret2
  exact ⟨rfl, rfl⟩
set_option maxRecDepth 100000 in
set_option maxHeartbeats 4000000 in
theorem rPk_yes (s : ByteArray) (h : NameP s) (w : World) : Calls Tryz.prog 70 #[.string s] w fun e w' => e = .returned (.tuple #[.int .i64 (packK s 8), .int .i64 0]) ∧ w' = w := by
  have HN : Hid _ := rnm_any s
  rw [(nameB_iff s).2 h] at HN
  have hb := get_bt s
  have HP : Hid _ := h
  have hs : s.size ≤ 8 := h.2.1
  clear h
  go_enter Tryz.func70, Tryz.ntmps70
  go_wp2_with fail
  refine (HN.out _).mono ?_
  rintro e w1 ⟨rfl, hw⟩
  rw [hw]
  clear hw
  go_wp2
  go_loopw [4, 5] (fun m i W => ∃ k : Nat, k ≤ 8 ∧ i = .int .i64 k ∧ m = .int .i64 (packK s k) ∧ W = w) (fun _ i _ => 8 - (RowKit.intOf i).toNat)
  case atStart => exact ⟨0, by omega, rfl, rfl, rfl⟩
  case round =>
    obtain ⟨k, hk, rfl, rfl, rfl⟩ := hrel
    by_cases hlt : k < 8
    · have hki : (k : Int) < 8 := by omega
      have h64 := packK_64 s HP.out k (by omega)
      have e1 : packK s (k + 1) = packK s k * 37 + (if k < s.size then chN (bt s k) else 0) := rfl
      have E1 : Hid _ := e1
      clear e1
      generalize packK s k = M at h64 E1
      have x0 := bt_nonneg s k
      have x1 := bt_le s k
      by_cases hks : k < s.size
      · have hksi : (k : Int) < (s.size : Int) := by omega
        have hch := HP.out.2.2.2 k hks
        have hcb := chN_bd _ hch
        have HC : Hid _ := rco_any (bt s k) hch
        have hE := E1.out
        rw [if_pos hks] at hE
        generalize chN (bt s k) = c at hcb HC hE
        have HE : Hid _ := hE
        clear hE E1 hch
        go_wp2_with fail
        refine (HC.out _).mono ?_
        rintro e w1 ⟨rfl, rfl⟩
        go_wp2
        go_roundw
        case rel => exact ⟨k + 1, by omega, by go_num, by rw [HE.out], trivial⟩
        case measure => simp [RowKit.intOf]; omega
      · have hksi : ¬ (k : Int) < (s.size : Int) := by omega
        have hE := E1.out
        rw [if_neg hks, Int.add_zero] at hE
        have HE : Hid _ := hE
        clear hE E1
        go_wp2
        go_roundw
        case rel => exact ⟨k + 1, by omega, by go_num, by rw [HE.out], trivial⟩
        case measure => simp [RowKit.intOf]; omega
    · have e : k = 8 := by omega
      subst e
      go_wp2
      go_ret2
      exact ⟨rfl, rfl⟩
/-- A name is known by its number: what the digits say. -/
theorem packK_dig (s : ByteArray) (h : NameP s) : ∀ k j, j < k → k ≤ 8 → packK s k / 37 ^ j % 37 = (if k - 1 - j < s.size then chN (bt s (k - 1 - j)) else 0) := by
  intro k
  induction k with
  | zero => intro j hj; omega
  | succ k ih =>
    intro j hj hk
    have hc : 0 ≤ (if k < s.size then chN (bt s k) else 0) ∧ (if k < s.size then chN (bt s k) else 0) ≤ 36 := by
      split
      · have := chN_bd _ (h.2.2.2 k (by assumption)); omega
      · omega
    have hp := (packK_bd s h k).1
    show (packK s k * 37 + (if k < s.size then chN (bt s k) else 0)) / 37 ^ j % 37 = _
    cases j with
    | zero =>
      rw [show k + 1 - 1 - 0 = k by omega]
      generalize (if k < s.size then chN (bt s k) else 0) = c at hc
      generalize packK s k = p at hp
      simp
      omega
    | succ j =>
      have e := ih j (by omega) (by omega)
      rw [show k + 1 - 1 - (j + 1) = k - 1 - j by omega, ← e, Int.pow_succ, Int.mul_comm (37 ^ j) 37, ← Int.ediv_ediv_of_nonneg (by decide)]
      congr 2
      generalize (if k < s.size then chN (bt s k) else 0) = c at hc
      generalize packK s k = p at hp
      omega
end Go.Proofs.YtficmpaeochcgaaGreatDoor
