/- Pack: the program's answer and the document's. -/
import Derived.Test.YtdiikofgilplkaaDoorForms1
namespace Go.Proofs.YtdiikofgilplkaaDoor
open Go.RowKit Go.Shelf Go.PlainAid Go.Lib

/-- What a byte of a name counts. -/
def chN (x : Int) : Int := if x ≤ 57 then x - 47 else x - 86
theorem chN_bd (x : Int) (h : chP x) : 1 ≤ chN x ∧ chN x ≤ 36 := by
  unfold chP at h; unfold chN; split <;> omega
/-- The number of the first k bytes. -/
def packK (s : ByteArray) : Nat → Int
  | 0 => 0
  | k + 1 => packK s k * 37 + (if k < s.size then chN (bt s k) else 0)
theorem packK_bd (s : ByteArray) (h : NameP s) (k : Nat) : 0 ≤ packK s k ∧ packK s k < ((37 ^ k : Nat) : Int) := by
  induction k with
  | zero => simp [packK]
  | succ k ih =>
    have hc : 0 ≤ (if k < s.size then chN (bt s k) else 0) ∧ (if k < s.size then chN (bt s k) else 0) ≤ 36 := by
      split
      · have := chN_bd _ (h.2.2.2 k (by assumption)); omega
      · omega
    simp only [packK, Nat.pow_succ]
    generalize (if k < s.size then chN (bt s k) else 0) = c at hc
    generalize packK s k = p at ih
    generalize (37 ^ k : Nat) = q at ih
    omega
theorem packK_64 (s : ByteArray) (h : NameP s) (k : Nat) (hk : k ≤ 8) : 0 ≤ packK s k ∧ packK s k < 3512479453921 := by
  have h1 := packK_bd s h k
  have h2 : 37 ^ k ≤ 37 ^ 8 := Nat.pow_le_pow_right (by decide) hk
  have h3 : (37 : Nat) ^ 8 = 3512479453921 := by decide
  omega
set_option maxRecDepth 100000 in
set_option maxHeartbeats 400000 in
theorem isd_yes (c : Int) (h1 : 48 ≤ c) (h2 : c ≤ 57) (w : World) : Calls Tryd.prog 35 #[.int .u8 c] w fun e w' => e = .returned (.bool true) ∧ w' = w := by
  go_enter Tryd.func35, Tryd.ntmps35
  go_wp2
  go_ret
  exact ⟨rfl, rfl⟩
set_option maxRecDepth 100000 in
set_option maxHeartbeats 400000 in
theorem isd_no (c : Int) (h1 : 97 ≤ c) (w : World) : Calls Tryd.prog 35 #[.int .u8 c] w fun e w' => e = .returned (.bool false) ∧ w' = w := by
  have h2 : 48 ≤ c := by omega
  have h3 : ¬ c ≤ 57 := by omega
  go_enter Tryd.func35, Tryd.ntmps35
  go_wp2
  go_ret
  exact ⟨rfl, rfl⟩
set_option maxRecDepth 100000 in
set_option maxHeartbeats 4000000 in
theorem co_any (c : Int) (h : chP c) (w : World) : Calls Tryd.prog 37 #[.int .u8 c] w fun e w' => e = .returned (.int .i64 (chN c)) ∧ w' = w := by
  rcases h with ⟨h1, h2⟩ | ⟨h1, h2⟩
  · have e : chN c = c - 86 := by unfold chN; rw [if_neg (by omega)]
    rw [e]
    have H : Hid _ := isd_no c h1
    go_enter Tryd.func37, Tryd.ntmps37
    go_wp2_with fail
    refine (H.out _).mono ?_
    rintro e w1 ⟨rfl, rfl⟩
    go_wp2
    go_ret
    exact ⟨congrArg (fun z => Ending.returned (Value.int .i64 z)) (by omega), rfl⟩
  · have e : chN c = c - 47 := by unfold chN; rw [if_pos (by omega)]
    rw [e]
    have H : Hid _ := isd_yes c h1 h2
    go_enter Tryd.func37, Tryd.ntmps37
    go_wp2_with fail
    refine (H.out _).mono ?_
    rintro e w1 ⟨rfl, rfl⟩
    go_wp2
    go_ret
    exact ⟨congrArg (fun z => Ending.returned (Value.int .i64 z)) (by omega), rfl⟩
set_option maxRecDepth 100000 in
set_option maxHeartbeats 4000000 in
theorem pk_any (s : ByteArray) (h : NameP s) (w : World) : Calls Tryd.prog 24 #[.string s] w fun e w' => e = .returned (.int .i64 (packK s 8)) ∧ w' = w := by
  have hb := get_bt s
  have HP : Hid _ := h
  have hs : s.size ≤ 8 := h.2.1
  clear h
  go_enter Tryd.func24, Tryd.ntmps24
  go_wp2
  go_loopw [3, 4, 5] (fun m _ i W => ∃ k : Nat, k ≤ 8 ∧ i = .int .i64 k ∧ m = .int .i64 (packK s k) ∧ W = w) (fun _ _ i _ => 8 - (RowKit.intOf i).toNat)
  case atStart => exact ⟨0, by omega, rfl, rfl, rfl⟩
  case round =>
    obtain ⟨k, hk, rfl, rfl, rfl⟩ := hrel
    by_cases hlt : k < 8
    · have hki : (k : Int) < 8 := by omega
      have h64 := packK_64 s HP.out k (by omega)
      have e1 : packK s (k + 1) = packK s k * 37 + (if k < s.size then chN (bt s k) else 0) := rfl
      have E1 : Hid _ := e1
      clear e1
      generalize packK s k = M at h64 E1
      have x0 := bt_nonneg s k
      have x1 := bt_le s k
      by_cases hks : k < s.size
      · have hksi : (k : Int) < (s.size : Int) := by omega
        have hch := HP.out.2.2.2 k hks
        have hcb := chN_bd _ hch
        have HC : Hid _ := co_any (bt s k) hch
        have hE := E1.out
        rw [if_pos hks] at hE
        generalize chN (bt s k) = c at hcb HC hE
        have HE : Hid _ := hE
        clear hE E1 hch
        go_wp2_with fail
        refine (HC.out _).mono ?_
        rintro e w1 ⟨rfl, rfl⟩
        go_wp2
        go_roundw
        case rel => exact ⟨k + 1, by omega, by go_num, by rw [HE.out], trivial⟩
        case measure => simp [RowKit.intOf]; omega
      · have hksi : ¬ (k : Int) < (s.size : Int) := by omega
        have hE := E1.out
        rw [if_neg hks, Int.add_zero] at hE
        have HE : Hid _ := hE
        clear hE E1
        go_wp2
        go_roundw
        case rel => exact ⟨k + 1, by omega, by go_num, by rw [HE.out], trivial⟩
        case measure => simp [RowKit.intOf]; omega
    · have e : k = 8 := by omega
      subst e
      go_wp2
      go_ret
      exact ⟨rfl, rfl⟩
end Go.Proofs.YtdiikofgilplkaaDoor
