/- trellisref1.Valid: what it answers, kind by kind. -/
import Derived.Test.YtifioikdhfhljaaGreatDoorItems
import Derived.Test.YtifioikdhfhljaaGreatDoorUtf
namespace Go.Proofs.YtifioikdhfhljaaGreatDoor
open Go.RowKit Go.PlainAid Go.Lib

theorem ret_b {x y : Bool} (h : x = y) : Ending.returned (.bool x) = .returned (.bool y) := by rw [h]
/-- A part of a complex number, as a Bool. -/
def partB (n : Int) : Bool := decide (-33554432 ≤ n) && decide (n ≤ 33554432)
/-- What a value is (P102). -/
def okV (k a b : Int) (s : ByteArray) : Bool :=
  if k = 0 then (a == 0) && (b == 0) && s.toList.isEmpty
  else if k = 1 then ((a == 0) || (a == 1)) && (b == 0) && s.toList.isEmpty
  else if k = 2 then (b == 0) && s.toList.isEmpty
  else if k = 3 then partB a && partB b && s.toList.isEmpty
  else if k = 4 then (a == 0) && (b == 0) && decide (s.size ≤ 32) && validD s.data.toList
  else if k = 5 ∨ k = 6 then (a != 0) && (b == 0) && s.toList.isEmpty
  else false
set_option maxRecDepth 100000 in
set_option maxHeartbeats 400000 in
theorem part_any (n : Int) (w : World) : Calls Tryz.prog 132 #[.int .i64 n] w fun e w' => e = .returned (.bool (partB n)) ∧ w' = w := by
  unfold partB
  by_cases h : -33554432 ≤ n
  · go_enter Tryz.func132, Tryz.ntmps132
    go_wp2
    all_goals (go_ret; exact ⟨ret_b (by simp [*]), rfl⟩)
  · have h' : decide (-33554432 ≤ n) = false := by simp; omega
    go_enter Tryz.func132, Tryz.ntmps132
    go_wp2
    all_goals (go_ret; exact ⟨ret_b (by simp [*]), rfl⟩)
set_option maxRecDepth 100000 in
set_option maxHeartbeats 1000000 in
theorem rv_0 (a b : Int) (s : ByteArray) (w : World) : Calls Tryz.prog 98 #[V 0 a b s] w fun e w' => e = .returned (.bool ((a == 0) && (b == 0) && s.toList.isEmpty)) ∧ G w w' := by
  go_enter Tryz.func98, Tryz.ntmps98
  go_wp2
  all_goals (go_ret; exact ⟨ret_b (by simp [*]), (G.refl _).alloc _⟩)
set_option maxRecDepth 100000 in
set_option maxHeartbeats 1000000 in
theorem rv_1 (a b : Int) (s : ByteArray) (w : World) : Calls Tryz.prog 98 #[V 1 a b s] w fun e w' => e = .returned (.bool (((a == 0) || (a == 1)) && (b == 0) && s.toList.isEmpty)) ∧ G w w' := by
  go_enter Tryz.func98, Tryz.ntmps98
  go_wp2
  all_goals (go_ret; exact ⟨ret_b (by simp [*]), (G.refl _).alloc _⟩)
set_option maxRecDepth 100000 in
set_option maxHeartbeats 1000000 in
theorem rv_2 (a b : Int) (s : ByteArray) (w : World) : Calls Tryz.prog 98 #[V 2 a b s] w fun e w' => e = .returned (.bool ((b == 0) && s.toList.isEmpty)) ∧ G w w' := by
  go_enter Tryz.func98, Tryz.ntmps98
  go_wp2
  all_goals (go_ret; exact ⟨ret_b (by simp [*]), (G.refl _).alloc _⟩)
set_option maxRecDepth 100000 in
set_option maxHeartbeats 1000000 in
theorem rv_5 (a b : Int) (s : ByteArray) (w : World) : Calls Tryz.prog 98 #[V 5 a b s] w fun e w' => e = .returned (.bool ((a != 0) && (b == 0) && s.toList.isEmpty)) ∧ G w w' := by
  go_enter Tryz.func98, Tryz.ntmps98
  go_wp2
  all_goals (go_ret; exact ⟨ret_b (by simp [*]), (G.refl _).alloc _⟩)
set_option maxRecDepth 100000 in
set_option maxHeartbeats 1000000 in
theorem rv_6 (a b : Int) (s : ByteArray) (w : World) : Calls Tryz.prog 98 #[V 6 a b s] w fun e w' => e = .returned (.bool ((a != 0) && (b == 0) && s.toList.isEmpty)) ∧ G w w' := by
  go_enter Tryz.func98, Tryz.ntmps98
  go_wp2
  all_goals (go_ret; exact ⟨ret_b (by simp [*]), (G.refl _).alloc _⟩)
set_option maxRecDepth 100000 in
set_option maxHeartbeats 1000000 in
theorem rv_3 (a b : Int) (s : ByteArray) (w : World) : Calls Tryz.prog 98 #[V 3 a b s] w fun e w' => e = .returned (.bool (partB a && partB b && s.toList.isEmpty)) ∧ G w w' := by
  have HA : Hid _ := part_any a; have HB : Hid _ := part_any b
  generalize partB a = x at HA ⊢
  generalize partB b = y at HB ⊢
  cases x
  · go_enter Tryz.func98, Tryz.ntmps98
    go_wp2_with fail
    refine (HA.out _).mono ?_
    rintro e w1 ⟨rfl, rfl⟩
    go_wp2
    all_goals (go_ret; exact ⟨ret_b (by simp), (G.refl _).alloc _⟩)
  · go_enter Tryz.func98, Tryz.ntmps98
    go_wp2_with fail
    refine (HA.out _).mono ?_
    rintro e w1 ⟨rfl, rfl⟩
    go_wp2_with fail
    refine (HB.out _).mono ?_
    rintro e w1 ⟨rfl, rfl⟩
    cases y
    all_goals
      go_wp2
      go_ret
      exact ⟨ret_b (by simp), (G.refl _).alloc _⟩
set_option maxRecDepth 100000 in
set_option maxHeartbeats 1000000 in
theorem rv_4 (a b : Int) (s : ByteArray) (hs : s.size ≤ 4611686018427387904) (w : World) : Calls Tryz.prog 98 #[V 4 a b s] w fun e w' => e = .returned (.bool ((a == 0) && (b == 0) && decide (s.size ≤ 32) && validD s.data.toList)) ∧ G w w' := by
  have HP : Hid _ := points_any s hs
  generalize validD s.data.toList = v at HP ⊢
  by_cases h : a = 0 ∧ b = 0 ∧ s.size ≤ 32
  · obtain ⟨h1, h2, h3⟩ := h
    subst h1; subst h2
    have h4 : (s.size : Int) ≤ 32 := by omega
    go_enter Tryz.func98, Tryz.ntmps98
    go_wp2_with fail
    refine (HP.out _).mono ?_
    rintro e w1 ⟨⟨r, rfl, hr⟩, rfl⟩
    rcases hr with ⟨hr, rfl⟩ | ⟨hr, rfl⟩
    · subst hr
      go_wp2
      go_ret
      exact ⟨ret_b (by simp), (G.refl _).alloc _⟩
    · go_wp2
      go_ret
      exact ⟨ret_b (by simp [h3]), (G.refl _).alloc _⟩
  · have e0 : ((a == 0) && (b == 0) && decide (s.size ≤ 32) && v) = false := by
      cases v
      · simp
      · simp; omega
    rw [e0]
    clear HP e0
    by_cases h1 : a = 0
    · by_cases h2 : b = 0
      · have h3 : ¬ (s.size : Int) ≤ 32 := by omega
        clear h
        go_enter Tryz.func98, Tryz.ntmps98
        go_wp2
        go_ret
        exact ⟨ret_b (by simp), (G.refl _).alloc _⟩
      · clear h
        go_enter Tryz.func98, Tryz.ntmps98
        go_wp2
        go_ret
        exact ⟨ret_b (by simp), (G.refl _).alloc _⟩
    · clear h
      go_enter Tryz.func98, Tryz.ntmps98
      go_wp2
      go_ret
      exact ⟨ret_b (by simp), (G.refl _).alloc _⟩
set_option maxRecDepth 100000 in
set_option maxHeartbeats 1000000 in
theorem rv_no (k a b : Int) (s : ByteArray) (hk : k < 0 ∨ 6 < k) (w : World) : Calls Tryz.prog 98 #[V k a b s] w fun e w' => e = .returned (.bool false) ∧ G w w' := by
  have n0 : (k == 0) = false := by simp; omega
  have n1 : (k == 1) = false := by simp; omega
  have n2 : (k == 2) = false := by simp; omega
  have n3 : (k == 3) = false := by simp; omega
  have n4 : (k == 4) = false := by simp; omega
  have n5 : (k == 5) = false := by simp; omega
  have n6 : (k == 6) = false := by simp; omega
  clear hk
  go_enter Tryz.func98, Tryz.ntmps98
  go_wp2
  go_ret
  exact ⟨rfl, (G.refl _).alloc _⟩
theorem rv_any (k a b : Int) (s : ByteArray) (hs : s.size ≤ 4611686018427387904) (w : World) : Calls Tryz.prog 98 #[V k a b s] w fun e w' => e = .returned (.bool (okV k a b s)) ∧ G w w' := by
  by_cases hk : k < 0 ∨ 6 < k
  · have e : okV k a b s = false := by
      unfold okV
      rw [if_neg (by omega), if_neg (by omega), if_neg (by omega), if_neg (by omega), if_neg (by omega), if_neg (by omega)]
    rw [e]; exact rv_no k a b s hk w
  · have : k = 0 ∨ k = 1 ∨ k = 2 ∨ k = 3 ∨ k = 4 ∨ k = 5 ∨ k = 6 := by omega
    rcases this with rfl | rfl | rfl | rfl | rfl | rfl | rfl
    · exact rv_0 a b s w
    · exact rv_1 a b s w
    · exact rv_2 a b s w
    · exact rv_3 a b s w
    · exact rv_4 a b s hs w
    · exact rv_5 a b s w
    · exact rv_6 a b s w
end Go.Proofs.YtifioikdhfhljaaGreatDoor
