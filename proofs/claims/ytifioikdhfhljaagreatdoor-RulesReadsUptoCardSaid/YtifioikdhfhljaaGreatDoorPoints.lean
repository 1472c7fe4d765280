/- trellisref1.point: the code point at a place, its bytes; 0 bytes where none is. -/
import Derived.Test.YtifioikdhfhljaaGreatDoorBase
import Derived.PlainAid
import Derived.LoopN
namespace Go.Proofs.YtifioikdhfhljaaGreatDoor
open Go.RowKit Go.PlainAid

theorem ret_pt {c a b : Int} (h : a = b) : Ending.returned (.tuple #[.int .i64 c, .int .i64 a]) = .returned (.tuple #[.int .i64 c, .int .i64 b]) := by rw [h]
/-- The bytes of a code point of two, three, four bytes; 0: none. -/
def p2 (n B0 B1 : Int) : Int := if 2 ≤ n ∧ 128 ≤ B1 ∧ B1 < 192 ∧ 128 ≤ (B0 - 192) * 64 + B1 - 128 then 2 else 0
def p3 (n B0 B1 B2 : Int) : Int := if 3 ≤ n ∧ 128 ≤ B1 ∧ B1 < 192 ∧ 128 ≤ B2 ∧ B2 < 192 ∧ 2048 ≤ ((B0 - 224) * 64 + B1 - 128) * 64 + B2 - 128 ∧ (((B0 - 224) * 64 + B1 - 128) * 64 + B2 - 128 < 55296 ∨ 57344 ≤ ((B0 - 224) * 64 + B1 - 128) * 64 + B2 - 128) then 3 else 0
def p4 (n B0 B1 B2 B3 : Int) : Int := if 4 ≤ n ∧ 128 ≤ B1 ∧ B1 < 192 ∧ 128 ≤ B2 ∧ B2 < 192 ∧ 128 ≤ B3 ∧ B3 < 192 ∧ 65536 ≤ (((B0 - 240) * 64 + B1 - 128) * 64 + B2 - 128) * 64 + B3 - 128 ∧ (((B0 - 240) * 64 + B1 - 128) * 64 + B2 - 128) * 64 + B3 - 128 ≤ 1114111 then 4 else 0
/-- The bytes of the code point that begins at i. -/
def ptS (s : ByteArray) (i : Nat) : Int :=
  if bt s i < 128 then 1
  else if bt s i < 192 then 0
  else if bt s i < 224 then p2 (s.size - i) (bt s i) (bt s (i + 1))
  else if bt s i < 240 then p3 (s.size - i) (bt s i) (bt s (i + 1)) (bt s (i + 2))
  else if bt s i < 248 then p4 (s.size - i) (bt s i) (bt s (i + 1)) (bt s (i + 2)) (bt s (i + 3))
  else 0
set_option maxRecDepth 100000 in
set_option maxHeartbeats 400000 in
theorem point_1 (s : ByteArray) (i : Nat) (hi : i < s.size) (_hs : s.size ≤ 4611686018427387904) (w : World) (h : bt s i < 128) :
    Calls Tryz.prog 162 #[.string s, .int .i64 i] w fun e w' => (∃ c, e = .returned (.tuple #[.int .i64 c, .int .i64 1])) ∧ w' = w := by
  have hb := get_bt s
  have h0 := bt_nonneg s i
  have hI : (i : Int) < (s.size : Int) := by omega
  go_enter Tryz.func162, Tryz.ntmps162
  go_wp2
  go_ret2
  exact ⟨⟨_, rfl⟩, rfl⟩
set_option maxRecDepth 100000 in
set_option maxHeartbeats 400000 in
theorem point_0 (s : ByteArray) (i : Nat) (hi : i < s.size) (_hs : s.size ≤ 4611686018427387904) (w : World) (h : (128 ≤ bt s i ∧ bt s i < 192) ∨ 248 ≤ bt s i) :
    Calls Tryz.prog 162 #[.string s, .int .i64 i] w fun e w' => (∃ c, e = .returned (.tuple #[.int .i64 c, .int .i64 0])) ∧ w' = w := by
  have hb := get_bt s
  have h0 := bt_nonneg s i
  have hI : (i : Int) < (s.size : Int) := by omega
  have h00 := bt_le s i
  rcases h with ⟨h1, h2⟩ | h1
  · go_enter Tryz.func162, Tryz.ntmps162
    go_wp2
    go_ret2
    exact ⟨⟨_, rfl⟩, rfl⟩
  · go_enter Tryz.func162, Tryz.ntmps162
    go_wp2
    go_ret2
    exact ⟨⟨_, rfl⟩, rfl⟩
set_option maxRecDepth 100000 in
set_option maxHeartbeats 2000000 in
theorem point_2 (s : ByteArray) (i : Nat) (hi : i < s.size) (_hs : s.size ≤ 4611686018427387904) (w : World) (h1 : 192 ≤ bt s i) (h2 : bt s i < 224) :
    Calls Tryz.prog 162 #[.string s, .int .i64 i] w fun e w' => (∃ c, e = .returned (.tuple #[.int .i64 c, .int .i64 (p2 (s.size - i) (bt s i) (bt s (i + 1)))])) ∧ w' = w := by
  have hb := get_bt s
  have x1 := bt_nonneg s (i + 1)
  have y1 := bt_le s (i + 1)
  have hI : (i : Int) < (s.size : Int) := by omega
  by_cases hn : (s.size : Int) < (i : Int) + 2
  · go_enter Tryz.func162, Tryz.ntmps162
    go_wp2
    go_ret2
    exact ⟨⟨_, ret_pt (by unfold p2; rw [if_neg (by omega)])⟩, rfl⟩
  · have u1 : (i : Int) + 1 < (s.size : Int) := by omega
    have v1 : i + 1 < s.size := by omega
    go_enter Tryz.func162, Tryz.ntmps162
    go_wp2
    refine wp_loop_rounds 2 ?_
    rw [rounds_succ]
    go_wp2
    all_goals first | (go_ret2; exact ⟨⟨_, ret_pt (by unfold p2; first | rw [if_neg (by omega)] | rw [if_pos (by omega)])⟩, rfl⟩) | skip
    rw [rounds_succ]
    go_wp2
    all_goals (go_ret2; exact ⟨⟨_, ret_pt (by unfold p2; first | rw [if_neg (by omega)] | rw [if_pos (by omega)])⟩, rfl⟩)
set_option maxRecDepth 100000 in
set_option maxHeartbeats 2000000 in
theorem point_3 (s : ByteArray) (i : Nat) (hi : i < s.size) (_hs : s.size ≤ 4611686018427387904) (w : World) (h1 : 224 ≤ bt s i) (h2 : bt s i < 240) :
    Calls Tryz.prog 162 #[.string s, .int .i64 i] w fun e w' => (∃ c, e = .returned (.tuple #[.int .i64 c, .int .i64 (p3 (s.size - i) (bt s i) (bt s (i + 1)) (bt s (i + 2)))])) ∧ w' = w := by
  have hb := get_bt s
  have x1 := bt_nonneg s (i + 1)
  have y1 := bt_le s (i + 1)
  have x2 := bt_nonneg s (i + 2)
  have y2 := bt_le s (i + 2)
  have hI : (i : Int) < (s.size : Int) := by omega
  by_cases hn : (s.size : Int) < (i : Int) + 3
  · go_enter Tryz.func162, Tryz.ntmps162
    go_wp2
    go_ret2
    exact ⟨⟨_, ret_pt (by unfold p3; rw [if_neg (by omega)])⟩, rfl⟩
  · have u1 : (i : Int) + 1 < (s.size : Int) := by omega
    have v1 : i + 1 < s.size := by omega
    have u2 : (i : Int) + 2 < (s.size : Int) := by omega
    have v2 : i + 2 < s.size := by omega
    go_enter Tryz.func162, Tryz.ntmps162
    go_wp2
    refine wp_loop_rounds 3 ?_
    rw [rounds_succ]
    go_wp2
    all_goals first | (go_ret2; exact ⟨⟨_, ret_pt (by unfold p3; first | rw [if_neg (by omega)] | rw [if_pos (by omega)])⟩, rfl⟩) | skip
    rw [rounds_succ]
    go_wp2
    all_goals first | (go_ret2; exact ⟨⟨_, ret_pt (by unfold p3; first | rw [if_neg (by omega)] | rw [if_pos (by omega)])⟩, rfl⟩) | skip
    rw [rounds_succ]
    go_wp2
    all_goals (go_ret2; exact ⟨⟨_, ret_pt (by unfold p3; first | rw [if_neg (by omega)] | rw [if_pos (by omega)])⟩, rfl⟩)
set_option maxRecDepth 100000 in
set_option maxHeartbeats 2000000 in
theorem point_4 (s : ByteArray) (i : Nat) (hi : i < s.size) (_hs : s.size ≤ 4611686018427387904) (w : World) (h1 : 240 ≤ bt s i) (h2 : bt s i < 248) :
    Calls Tryz.prog 162 #[.string s, .int .i64 i] w fun e w' => (∃ c, e = .returned (.tuple #[.int .i64 c, .int .i64 (p4 (s.size - i) (bt s i) (bt s (i + 1)) (bt s (i + 2)) (bt s (i + 3)))])) ∧ w' = w := by
  have hb := get_bt s
  have x1 := bt_nonneg s (i + 1)
  have y1 := bt_le s (i + 1)
  have x2 := bt_nonneg s (i + 2)
  have y2 := bt_le s (i + 2)
  have x3 := bt_nonneg s (i + 3)
  have y3 := bt_le s (i + 3)
  have hI : (i : Int) < (s.size : Int) := by omega
  by_cases hn : (s.size : Int) < (i : Int) + 4
  · go_enter Tryz.func162, Tryz.ntmps162
    go_wp2
    go_ret2
    exact ⟨⟨_, ret_pt (by unfold p4; rw [if_neg (by omega)])⟩, rfl⟩
  · have u1 : (i : Int) + 1 < (s.size : Int) := by omega
    have v1 : i + 1 < s.size := by omega
    have u2 : (i : Int) + 2 < (s.size : Int) := by omega
    have v2 : i + 2 < s.size := by omega
    have u3 : (i : Int) + 3 < (s.size : Int) := by omega
    have v3 : i + 3 < s.size := by omega
    go_enter Tryz.func162, Tryz.ntmps162
    go_wp2
    refine wp_loop_rounds 4 ?_
    rw [rounds_succ]
    go_wp2
    all_goals first | (go_ret2; exact ⟨⟨_, ret_pt (by unfold p4; first | rw [if_neg (by omega)] | rw [if_pos (by omega)])⟩, rfl⟩) | skip
    rw [rounds_succ]
    go_wp2
    all_goals first | (go_ret2; exact ⟨⟨_, ret_pt (by unfold p4; first | rw [if_neg (by omega)] | rw [if_pos (by omega)])⟩, rfl⟩) | skip
    rw [rounds_succ]
    go_wp2
    all_goals first | (go_ret2; exact ⟨⟨_, ret_pt (by unfold p4; first | rw [if_neg (by omega)] | rw [if_pos (by omega)])⟩, rfl⟩) | skip
    rw [rounds_succ]
    go_wp2
    all_goals (go_ret2; exact ⟨⟨_, ret_pt (by unfold p4; first | rw [if_neg (by omega)] | rw [if_pos (by omega)])⟩, rfl⟩)
theorem point_any (s : ByteArray) (i : Nat) (hi : i < s.size) (hs : s.size ≤ 4611686018427387904) (w : World) :
    Calls Tryz.prog 162 #[.string s, .int .i64 i] w fun e w' => (∃ c, e = .returned (.tuple #[.int .i64 c, .int .i64 (ptS s i)])) ∧ w' = w := by
  unfold ptS
  by_cases c1 : bt s i < 128
  · rw [if_pos c1]; exact point_1 s i hi hs w c1
  rw [if_neg c1]
  by_cases c2 : bt s i < 192
  · rw [if_pos c2]; exact point_0 s i hi hs w (.inl ⟨by omega, c2⟩)
  rw [if_neg c2]
  by_cases c3 : bt s i < 224
  · rw [if_pos c3]; exact point_2 s i hi hs w (by omega) c3
  rw [if_neg c3]
  by_cases c4 : bt s i < 240
  · rw [if_pos c4]; exact point_3 s i hi hs w (by omega) c4
  rw [if_neg c4]
  by_cases c5 : bt s i < 248
  · rw [if_pos c5]; exact point_4 s i hi hs w (by omega) c5
  rw [if_neg c5]
  exact point_0 s i hi hs w (.inr (by omega))
end Go.Proofs.YtifioikdhfhljaaGreatDoor
