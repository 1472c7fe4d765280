/- trellisref1.points against the library's own notion of a well-formed string. -/
import Derived.Test.YtcdjjmjhdoanlaaGreatDoorBase
import Derived.PlainAid
import Derived.LoopN
import Derived.Lib.ValidLaws
import Derived.Lib.DecodeN
import Derived.LoopTactic
namespace Go.Proofs.YtcdjjmjhdoanlaaGreatDoor
section
open Go.RowKit Go.PlainAid

theorem ret_pt {c a b : Int} (h : a = b) : Ending.returned (.tuple #[.int .i64 c, .int .i64 a]) = .returned (.tuple #[.int .i64 c, .int .i64 b]) := by rw [h]
/-- The bytes of a code point of two, three, four bytes; 0: none. -/
def p2 (n B0 B1 : Int) : Int := if 2 ≤ n ∧ 128 ≤ B1 ∧ B1 < 192 ∧ 128 ≤ (B0 - 192) * 64 + B1 - 128 then 2 else 0
def p3 (n B0 B1 B2 : Int) : Int := if 3 ≤ n ∧ 128 ≤ B1 ∧ B1 < 192 ∧ 128 ≤ B2 ∧ B2 < 192 ∧ 2048 ≤ ((B0 - 224) * 64 + B1 - 128) * 64 + B2 - 128 ∧ (((B0 - 224) * 64 + B1 - 128) * 64 + B2 - 128 < 55296 ∨ 57344 ≤ ((B0 - 224) * 64 + B1 - 128) * 64 + B2 - 128) then 3 else 0
def p4 (n B0 B1 B2 B3 : Int) : Int := if 4 ≤ n ∧ 128 ≤ B1 ∧ B1 < 192 ∧ 128 ≤ B2 ∧ B2 < 192 ∧ 128 ≤ B3 ∧ B3 < 192 ∧ 65536 ≤ (((B0 - 240) * 64 + B1 - 128) * 64 + B2 - 128) * 64 + B3 - 128 ∧ (((B0 - 240) * 64 + B1 - 128) * 64 + B2 - 128) * 64 + B3 - 128 ≤ 1114111 then 4 else 0
/-- The bytes of the code point that begins at i. -/
def ptS (s : ByteArray) (i : Nat) : Int :=
  if bt s i < 128 then 1
  else if bt s i < 192 then 0
  else if bt s i < 224 then p2 (s.size - i) (bt s i) (bt s (i + 1))
  else if bt s i < 240 then p3 (s.size - i) (bt s i) (bt s (i + 1)) (bt s (i + 2))
  else if bt s i < 248 then p4 (s.size - i) (bt s i) (bt s (i + 1)) (bt s (i + 2)) (bt s (i + 3))
  else 0
set_option maxRecDepth 100000 in
set_option maxHeartbeats 400000 in
theorem point_1 (s : ByteArray) (i : Nat) (hi : i < s.size) (_hs : s.size ≤ 4611686018427387904) (w : World) (h : bt s i < 128) :
    Calls Tryz.prog 98 #[.string s, .int .i64 i] w fun e w' => (∃ c, e = .returned (.tuple #[.int .i64 c, .int .i64 1])) ∧ w' = w := by
  have hb := get_bt s
  have h0 := bt_nonneg s i
  have hI : (i : Int) < (s.size : Int) := by omega
  go_enter Tryz.func98, Tryz.ntmps98
  go_wp2
  go_ret2
  exact ⟨⟨_, rfl⟩, rfl⟩
set_option maxRecDepth 100000 in
set_option maxHeartbeats 400000 in
theorem point_0 (s : ByteArray) (i : Nat) (hi : i < s.size) (_hs : s.size ≤ 4611686018427387904) (w : World) (h : (128 ≤ bt s i ∧ bt s i < 192) ∨ 248 ≤ bt s i) :
    Calls Tryz.prog 98 #[.string s, .int .i64 i] w fun e w' => (∃ c, e = .returned (.tuple #[.int .i64 c, .int .i64 0])) ∧ w' = w := by
  have hb := get_bt s
  have h0 := bt_nonneg s i
  have hI : (i : Int) < (s.size : Int) := by omega
  have h00 := bt_le s i
  rcases h with ⟨h1, h2⟩ | h1
  · go_enter Tryz.func98, Tryz.ntmps98
    go_wp2
    go_ret2
    exact ⟨⟨_, rfl⟩, rfl⟩
  · go_enter Tryz.func98, Tryz.ntmps98
    go_wp2
    go_ret2
    exact ⟨⟨_, rfl⟩, rfl⟩
set_option maxRecDepth 100000 in
set_option maxHeartbeats 2000000 in
theorem point_2 (s : ByteArray) (i : Nat) (hi : i < s.size) (_hs : s.size ≤ 4611686018427387904) (w : World) (h1 : 192 ≤ bt s i) (h2 : bt s i < 224) :
    Calls Tryz.prog 98 #[.string s, .int .i64 i] w fun e w' => (∃ c, e = .returned (.tuple #[.int .i64 c, .int .i64 (p2 (s.size - i) (bt s i) (bt s (i + 1)))])) ∧ w' = w := by
  have hb := get_bt s
  have x1 := bt_nonneg s (i + 1)
  have y1 := bt_le s (i + 1)
  have hI : (i : Int) < (s.size : Int) := by omega
  by_cases hn : (s.size : Int) < (i : Int) + 2
  · go_enter Tryz.func98, Tryz.ntmps98
    go_wp2
    go_ret2
    exact ⟨⟨_, ret_pt (by unfold p2; rw [if_neg (by omega)])⟩, rfl⟩
  · have u1 : (i : Int) + 1 < (s.size : Int) := by omega
    have v1 : i + 1 < s.size := by omega
    go_enter Tryz.func98, Tryz.ntmps98
    go_wp2
    refine wp_loop_rounds 2 ?_
    rw [rounds_succ]
    go_wp2
    all_goals first | (go_ret2; exact ⟨⟨_, ret_pt (by unfold p2; first | rw [if_neg (by omega)] | rw [if_pos (by omega)])⟩, rfl⟩) | skip
    rw [rounds_succ]
    go_wp2
    all_goals (go_ret2; exact ⟨⟨_, ret_pt (by unfold p2; first | rw [if_neg (by omega)] | rw [if_pos (by omega)])⟩, rfl⟩)
set_option maxRecDepth 100000 in
set_option maxHeartbeats 2000000 in
theorem point_3 (s : ByteArray) (i : Nat) (hi : i < s.size) (_hs : s.size ≤ 4611686018427387904) (w : World) (h1 : 224 ≤ bt s i) (h2 : bt s i < 240) :
    Calls Tryz.prog 98 #[.string s, .int .i64 i] w fun e w' => (∃ c, e = .returned (.tuple #[.int .i64 c, .int .i64 (p3 (s.size - i) (bt s i) (bt s (i + 1)) (bt s (i + 2)))])) ∧ w' = w := by
  have hb := get_bt s
  have x1 := bt_nonneg s (i + 1)
  have y1 := bt_le s (i + 1)
  have x2 := bt_nonneg s (i + 2)
  have y2 := bt_le s (i + 2)
  have hI : (i : Int) < (s.size : Int) := by omega
  by_cases hn : (s.size : Int) < (i : Int) + 3
  · go_enter Tryz.func98, Tryz.ntmps98
    go_wp2
    go_ret2
    exact ⟨⟨_, ret_pt (by unfold p3; rw [if_neg (by omega)])⟩, rfl⟩
  · have u1 : (i : Int) + 1 < (s.size : Int) := by omega
    have v1 : i + 1 < s.size := by omega
    have u2 : (i : Int) + 2 < (s.size : Int) := by omega
    have v2 : i + 2 < s.size := by omega
    go_enter Tryz.func98, Tryz.ntmps98
    go_wp2
    refine wp_loop_rounds 3 ?_
    rw [rounds_succ]
    go_wp2
    all_goals first | (go_ret2; exact ⟨⟨_, ret_pt (by unfold p3; first | rw [if_neg (by omega)] | rw [if_pos (by omega)])⟩, rfl⟩) | skip
    rw [rounds_succ]
    go_wp2
    all_goals first | (go_ret2; exact ⟨⟨_, ret_pt (by unfold p3; first | rw [if_neg (by omega)] | rw [if_pos (by omega)])⟩, rfl⟩) | skip
    rw [rounds_succ]
    go_wp2
    all_goals (go_ret2; exact ⟨⟨_, ret_pt (by unfold p3; first | rw [if_neg (by omega)] | rw [if_pos (by omega)])⟩, rfl⟩)
set_option maxRecDepth 100000 in
set_option maxHeartbeats 2000000 in
theorem point_4 (s : ByteArray) (i : Nat) (hi : i < s.size) (_hs : s.size ≤ 4611686018427387904) (w : World) (h1 : 240 ≤ bt s i) (h2 : bt s i < 248) :
    Calls Tryz.prog 98 #[.string s, .int .i64 i] w fun e w' => (∃ c, e = .returned (.tuple #[.int .i64 c, .int .i64 (p4 (s.size - i) (bt s i) (bt s (i + 1)) (bt s (i + 2)) (bt s (i + 3)))])) ∧ w' = w := by
  have hb := get_bt s
  have x1 := bt_nonneg s (i + 1)
  have y1 := bt_le s (i + 1)
  have x2 := bt_nonneg s (i + 2)
  have y2 := bt_le s (i + 2)
  have x3 := bt_nonneg s (i + 3)
  have y3 := bt_le s (i + 3)
  have hI : (i : Int) < (s.size : Int) := by omega
  by_cases hn : (s.size : Int) < (i : Int) + 4
  · go_enter Tryz.func98, Tryz.ntmps98
    go_wp2
    go_ret2
    exact ⟨⟨_, ret_pt (by unfold p4; rw [if_neg (by omega)])⟩, rfl⟩
  · have u1 : (i : Int) + 1 < (s.size : Int) := by omega
    have v1 : i + 1 < s.size := by omega
    have u2 : (i : Int) + 2 < (s.size : Int) := by omega
    have v2 : i + 2 < s.size := by omega
    have u3 : (i : Int) + 3 < (s.size : Int) := by omega
    have v3 : i + 3 < s.size := by omega
    go_enter Tryz.func98, Tryz.ntmps98
    go_wp2
    refine wp_loop_rounds 4 ?_
    rw [rounds_succ]
    go_wp2
    all_goals first | (go_ret2; exact ⟨⟨_, ret_pt (by unfold p4; first | rw [if_neg (by omega)] | rw [if_pos (by omega)])⟩, rfl⟩) | skip
    rw [rounds_succ]
    go_wp2
    all_goals first | (go_ret2; exact ⟨⟨_, ret_pt (by unfold p4; first | rw [if_neg (by omega)] | rw [if_pos (by omega)])⟩, rfl⟩) | skip
    rw [rounds_succ]
    go_wp2
    all_goals first | (go_ret2; exact ⟨⟨_, ret_pt (by unfold p4; first | rw [if_neg (by omega)] | rw [if_pos (by omega)])⟩, rfl⟩) | skip
    rw [rounds_succ]
    go_wp2
    all_goals (go_ret2; exact ⟨⟨_, ret_pt (by unfold p4; first | rw [if_neg (by omega)] | rw [if_pos (by omega)])⟩, rfl⟩)
theorem point_any (s : ByteArray) (i : Nat) (hi : i < s.size) (hs : s.size ≤ 4611686018427387904) (w : World) :
    Calls Tryz.prog 98 #[.string s, .int .i64 i] w fun e w' => (∃ c, e = .returned (.tuple #[.int .i64 c, .int .i64 (ptS s i)])) ∧ w' = w := by
  unfold ptS
  by_cases c1 : bt s i < 128
  · rw [if_pos c1]; exact point_1 s i hi hs w c1
  rw [if_neg c1]
  by_cases c2 : bt s i < 192
  · rw [if_pos c2]; exact point_0 s i hi hs w (.inl ⟨by omega, c2⟩)
  rw [if_neg c2]
  by_cases c3 : bt s i < 224
  · rw [if_pos c3]; exact point_2 s i hi hs w (by omega) c3
  rw [if_neg c3]
  by_cases c4 : bt s i < 240
  · rw [if_pos c4]; exact point_3 s i hi hs w (by omega) c4
  rw [if_neg c4]
  by_cases c5 : bt s i < 248
  · rw [if_pos c5]; exact point_4 s i hi hs w (by omega) c5
  rw [if_neg c5]
  exact point_0 s i hi hs w (.inr (by omega))
end
open Go.RowKit Go.PlainAid Go.Lib

/-- ptS over numbers. -/
def ptI (n B0 B1 B2 B3 : Int) : Int :=
  if B0 < 128 then 1
  else if B0 < 192 then 0
  else if B0 < 224 then p2 n B0 B1
  else if B0 < 240 then p3 n B0 B1 B2
  else if B0 < 248 then p4 n B0 B1 B2 B3
  else 0
theorem ptS_I (s : ByteArray) (i : Nat) : ptS s i = ptI (s.size - i) (bt s i) (bt s (i + 1)) (bt s (i + 2)) (bt s (i + 3)) := rfl
/-- No code point there: none in the library's decoding; else as many bytes. -/
def Same (p : Int) (n : Nat) (r : Nat × Nat) : Prop := (p = 0 ∧ r = (65533, 1)) ∨ (p = (r.2 : Int) ∧ 1 ≤ r.2 ∧ r.2 ≤ n ∧ ¬ (r.1 = 65533 ∧ r.2 = 1))
set_option maxHeartbeats 2000000 in
theorem pt_core (n b0 b1 b2 b3 : Nat) (hn : 1 ≤ n) (h0 : b0 < 256) (h1 : b1 < 256) (h2 : b2 < 256) (h3 : b3 < 256) : Same (ptI n b0 b1 b2 b3) n (decodeN n b0 b1 b2 b3) := by
  unfold ptI p2 p3 p4 decodeN Same
  repeat' split
  all_goals first
    | exact Or.inl ⟨rfl, rfl⟩
    | (exfalso; omega)
    | (refine Or.inr ⟨rfl, ?_, ?_, ?_⟩ <;> simp only <;> omega)
theorem bt_get (s : ByteArray) (i : Nat) : bt s i = ((s.get! i).toNat : Int) := by
  by_cases h : i < s.size
  · unfold bt
    rw [dif_pos h]
    have : s.get! i = s[i] := by
      show s.data[i]! = s.data[i]
      exact getElem!_pos s.data i h
    rw [this]
  · rw [bt_end s (by omega)]
    have : s.get! i = 0 := by
      show s.data[i]! = 0
      exact getElem!_neg s.data i h
    rw [this]; rfl
theorem pt_dec (s : ByteArray) (i : Nat) (h : i < s.size) : Same (ptS s i) (s.size - i) (Utf8.decode s i) := by
  rw [decode_at, ptS_I, bt_get, bt_get, bt_get, bt_get]
  have e : ((s.size : Int) - (i : Int)) = ((s.size - i : Nat) : Int) := by omega
  rw [e]
  exact pt_core _ _ _ _ _ (by omega) (UInt8.toNat_lt _) (UInt8.toNat_lt _) (UInt8.toNat_lt _) (UInt8.toNat_lt _)
theorem get_getD (s : ByteArray) (i : Nat) : s.get! i = s.data.toList.getD i 0 := by
  rw [List.getD_eq_getElem?_getD, Array.getElem?_toList]
  show s.data[i]! = _
  rw [getElem!_def]
  cases s.data[i]? <;> rfl
theorem dec_drop (s : ByteArray) (i : Nat) : decodeL (s.data.toList.drop i) = Utf8.decode s i := by
  unfold decodeL
  rw [decode_at, decode_at]
  have g : ∀ k, (ByteArray.mk (s.data.toList.drop i).toArray).get! k = s.get! (i + k) := fun k => by
    rw [get_getD, get_getD, List.getD_eq_getElem?_getD, List.getD_eq_getElem?_getD]
    show ((s.data.toList.drop i)[k]?).getD 0 = _
    rw [List.getElem?_drop]
  have z : (ByteArray.mk (s.data.toList.drop i).toArray).size = s.size - i := by
    show (s.data.toList.drop i).toArray.size = s.data.size - i
    rw [List.size_toArray, List.length_drop, Array.length_toList]
  rw [g, g, g, g, z]
  rfl
theorem drop_ne (s : ByteArray) (i : Nat) (h : i < s.size) : s.data.toList.drop i ≠ [] := by
  intro e
  have := congrArg List.length e
  rw [List.length_drop, Array.length_toList] at this
  have : s.data.size - i = 0 := this
  have : s.size = s.data.size := rfl
  omega
/-- One step: no code point: not well-formed; else on behind it. -/
theorem valid_at (s : ByteArray) (i : Nat) (h : i < s.size) :
    (ptS s i = 0 ∧ validD (s.data.toList.drop i) = false) ∨ (∃ k : Nat, ptS s i = k ∧ 1 ≤ k ∧ i + k ≤ s.size ∧ validD (s.data.toList.drop i) = validD (s.data.toList.drop (i + k))) := by
  have hv := validD_step (s.data.toList.drop i) (drop_ne s i h)
  rw [dec_drop] at hv
  rcases pt_dec s i h with ⟨h1, h2⟩ | ⟨h1, h2, h3, h4⟩
  · rw [if_pos (by rw [h2]; exact ⟨rfl, rfl⟩)] at hv
    exact Or.inl ⟨h1, hv⟩
  · rw [if_neg h4, List.drop_drop] at hv
    exact Or.inr ⟨_, h1, h2, by omega, hv⟩
set_option maxRecDepth 100000 in
set_option maxHeartbeats 1000000 in
/-- points: below 0 just where the string is not well-formed. -/
theorem points_any (s : ByteArray) (hs : s.size ≤ 4611686018427387904) (w : World) :
    Calls Tryz.prog 92 #[.string s] w fun e w' => (∃ r : Int, e = .returned (.int .i64 r) ∧ ((r = -1 ∧ validD s.data.toList = false) ∨ (0 ≤ r ∧ validD s.data.toList = true))) ∧ w' = w := by
  go_enter Tryz.func92, Tryz.ntmps92
  go_wp2
  go_loop [3, 4] (fun k i => ∃ n m : Nat, n ≤ s.size ∧ m ≤ n ∧ k = .int .i64 m ∧ i = .int .i64 n ∧ validD s.data.toList = validD (s.data.toList.drop n)) (fun _ i => s.size - (intOf i).toNat)
  case atStart => exact ⟨0, 0, Nat.zero_le _, Nat.le_refl _, rfl, rfl, by rw [List.drop_zero]⟩
  case round =>
    obtain ⟨n, m, hn, hm, rfl, rfl, hv⟩ := hrel
    have HV : Hid (validD s.data.toList = validD (s.data.toList.drop n)) := hv
    clear hv
    by_cases hlt : n < s.size
    · have HA : Hid _ := valid_at s n hlt
      have hI : (n : Int) < (s.size : Int) := by omega
      have HP : Hid _ := point_any s n hlt hs
      go_wp2_with fail
      refine (HP.out _).mono ?_
      rintro e w1 ⟨⟨c, rfl⟩, rfl⟩
      rcases HA.out with ⟨h1, h2⟩ | ⟨k, h1, h2, h3, h4⟩
      · rw [h1]
        have H2 : Hid _ := h2
        clear h1 h2
        go_wp2
        go_ret
        exact ⟨⟨-1, rfl, Or.inl ⟨rfl, by rw [HV.out]; exact H2.out⟩⟩, rfl⟩
      · rw [h1]
        have H4 : Hid _ := h4
        have z : ((k : Int) == 0) = false := by simp; omega
        clear h1 h4
        go_wp2
        go_round
        case rel => exact ⟨n + k, m + 1, h3, by omega, by go_num, by go_num, by rw [HV.out]; exact H4.out⟩
        case measure => simp [intOf]; omega
    · have hI : ¬ (n : Int) < (s.size : Int) := by omega
      go_wp2
      go_ret
      refine ⟨⟨m, rfl, Or.inr ⟨by omega, ?_⟩⟩, rfl⟩
      rw [HV.out, List.drop_eq_nil_of_le (by rw [Array.length_toList]; exact Nat.not_lt.1 hlt)]
      exact validD_nil
end Go.Proofs.YtcdjjmjhdoanlaaGreatDoor
