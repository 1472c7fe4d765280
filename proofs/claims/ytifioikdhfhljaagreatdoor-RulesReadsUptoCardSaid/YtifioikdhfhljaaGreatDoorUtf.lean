/- trellisref1.points against the library's own notion of a well-formed string. -/
import Derived.Test.YtifioikdhfhljaaGreatDoorPoints
import Derived.Lib.ValidLaws
import Derived.Lib.DecodeN
import Derived.LoopTactic
namespace Go.Proofs.YtifioikdhfhljaaGreatDoor
open Go.RowKit Go.PlainAid Go.Lib

/-- ptS over numbers. -/
def ptI (n B0 B1 B2 B3 : Int) : Int :=
  if B0 < 128 then 1
  else if B0 < 192 then 0
  else if B0 < 224 then p2 n B0 B1
  else if B0 < 240 then p3 n B0 B1 B2
  else if B0 < 248 then p4 n B0 B1 B2 B3
  else 0
theorem ptS_I (s : ByteArray) (i : Nat) : ptS s i = ptI (s.size - i) (bt s i) (bt s (i + 1)) (bt s (i + 2)) (bt s (i + 3)) := rfl
/-- No code point there: none in the library's decoding; else as many bytes. -/
def Same (p : Int) (n : Nat) (r : Nat × Nat) : Prop := (p = 0 ∧ r = (65533, 1)) ∨ (p = (r.2 : Int) ∧ 1 ≤ r.2 ∧ r.2 ≤ n ∧ ¬ (r.1 = 65533 ∧ r.2 = 1))
set_option maxHeartbeats 2000000 in
theorem pt_core (n b0 b1 b2 b3 : Nat) (hn : 1 ≤ n) (h0 : b0 < 256) (h1 : b1 < 256) (h2 : b2 < 256) (h3 : b3 < 256) : Same (ptI n b0 b1 b2 b3) n (decodeN n b0 b1 b2 b3) := by
  unfold ptI p2 p3 p4 decodeN Same
  repeat' split
  all_goals first
    | exact Or.inl ⟨rfl, rfl⟩
    | (exfalso; omega)
    | (refine Or.inr ⟨rfl, ?_, ?_, ?_⟩ <;> simp only <;> omega)
theorem bt_get (s : ByteArray) (i : Nat) : bt s i = ((s.get! i).toNat : Int) := by
  by_cases h : i < s.size
  · unfold bt
    rw [dif_pos h]
    have : s.get! i = s[i] := by
      show s.data[i]! = s.data[i]
      exact getElem!_pos s.data i h
    rw [this]
  · rw [bt_end s (by omega)]
    have : s.get! i = 0 := by
      show s.data[i]! = 0
      exact getElem!_neg s.data i h
    rw [this]; rfl
theorem pt_dec (s : ByteArray) (i : Nat) (h : i < s.size) : Same (ptS s i) (s.size - i) (Utf8.decode s i) := by
  rw [decode_at, ptS_I, bt_get, bt_get, bt_get, bt_get]
  have e : ((s.size : Int) - (i : Int)) = ((s.size - i : Nat) : Int) := by omega
  rw [e]
  exact pt_core _ _ _ _ _ (by omega) (UInt8.toNat_lt _) (UInt8.toNat_lt _) (UInt8.toNat_lt _) (UInt8.toNat_lt _)
theorem get_getD (s : ByteArray) (i : Nat) : s.get! i = s.data.toList.getD i 0 := by
  rw [List.getD_eq_getElem?_getD, Array.getElem?_toList]
  show s.data[i]! = _
  rw [getElem!_def]
  cases s.data[i]? <;> rfl
theorem dec_drop (s : ByteArray) (i : Nat) : decodeL (s.data.toList.drop i) = Utf8.decode s i := by
  unfold decodeL
  rw [decode_at, decode_at]
  have g : ∀ k, (ByteArray.mk (s.data.toList.drop i).toArray).get! k = s.get! (i + k) := fun k => by
    rw [get_getD, get_getD, List.getD_eq_getElem?_getD, List.getD_eq_getElem?_getD]
    show ((s.data.toList.drop i)[k]?).getD 0 = _
    rw [List.getElem?_drop]
  have z : (ByteArray.mk (s.data.toList.drop i).toArray).size = s.size - i := by
    show (s.data.toList.drop i).toArray.size = s.data.size - i
    rw [List.size_toArray, List.length_drop, Array.length_toList]
  rw [g, g, g, g, z]
  rfl
theorem drop_ne (s : ByteArray) (i : Nat) (h : i < s.size) : s.data.toList.drop i ≠ [] := by
  intro e
  have := congrArg List.length e
  rw [List.length_drop, Array.length_toList] at this
  have : s.data.size - i = 0 := this
  have : s.size = s.data.size := rfl
  omega
/-- One step: no code point: not well-formed; else on behind it. -/
theorem valid_at (s : ByteArray) (i : Nat) (h : i < s.size) :
    (ptS s i = 0 ∧ validD (s.data.toList.drop i) = false) ∨ (∃ k : Nat, ptS s i = k ∧ 1 ≤ k ∧ i + k ≤ s.size ∧ validD (s.data.toList.drop i) = validD (s.data.toList.drop (i + k))) := by
  have hv := validD_step (s.data.toList.drop i) (drop_ne s i h)
  rw [dec_drop] at hv
  rcases pt_dec s i h with ⟨h1, h2⟩ | ⟨h1, h2, h3, h4⟩
  · rw [if_pos (by rw [h2]; exact ⟨rfl, rfl⟩)] at hv
    exact Or.inl ⟨h1, hv⟩
  · rw [if_neg h4, List.drop_drop] at hv
    exact Or.inr ⟨_, h1, h2, by omega, hv⟩
set_option maxRecDepth 100000 in
set_option maxHeartbeats 1000000 in
/-- points: below 0 just where the string is not well-formed. -/
theorem points_any (s : ByteArray) (hs : s.size ≤ 4611686018427387904) (w : World) :
    Calls Tryz.prog 133 #[.string s] w fun e w' => (∃ r : Int, e = .returned (.int .i64 r) ∧ ((r = -1 ∧ validD s.data.toList = false) ∨ (0 ≤ r ∧ validD s.data.toList = true))) ∧ w' = w := by
  go_enter Tryz.func133, Tryz.ntmps133
  go_wp2
  go_loop [3, 4] (fun k i => ∃ n m : Nat, n ≤ s.size ∧ m ≤ n ∧ k = .int .i64 m ∧ i = .int .i64 n ∧ validD s.data.toList = validD (s.data.toList.drop n)) (fun _ i => s.size - (intOf i).toNat)
  case atStart => exact ⟨0, 0, Nat.zero_le _, Nat.le_refl _, rfl, rfl, by rw [List.drop_zero]⟩
  case round =>
    obtain ⟨n, m, hn, hm, rfl, rfl, hv⟩ := hrel
    have HV : Hid (validD s.data.toList = validD (s.data.toList.drop n)) := hv
    clear hv
    by_cases hlt : n < s.size
    · have HA : Hid _ := valid_at s n hlt
      have hI : (n : Int) < (s.size : Int) := by omega
      have HP : Hid _ := point_any s n hlt hs
      go_wp2_with fail
      refine (HP.out _).mono ?_
      rintro e w1 ⟨⟨c, rfl⟩, rfl⟩
      rcases HA.out with ⟨h1, h2⟩ | ⟨k, h1, h2, h3, h4⟩
      · rw [h1]
        have H2 : Hid _ := h2
        clear h1 h2
        go_wp2
        go_ret
        exact ⟨⟨-1, rfl, Or.inl ⟨rfl, by rw [HV.out]; exact H2.out⟩⟩, rfl⟩
      · rw [h1]
        have H4 : Hid _ := h4
        have z : ((k : Int) == 0) = false := by simp; omega
        clear h1 h4
        go_wp2
        go_round
        case rel => exact ⟨n + k, m + 1, h3, by omega, by go_num, by go_num, by rw [HV.out]; exact H4.out⟩
        case measure => simp [intOf]; omega
    · have hI : ¬ (n : Int) < (s.size : Int) := by omega
      go_wp2
      go_ret
      refine ⟨⟨m, rfl, Or.inr ⟨by omega, ?_⟩⟩, rfl⟩
      rw [HV.out, List.drop_eq_nil_of_le (by rw [Array.length_toList]; exact Nat.not_lt.1 hlt)]
      exact validD_nil
end Go.Proofs.YtifioikdhfhljaaGreatDoor
