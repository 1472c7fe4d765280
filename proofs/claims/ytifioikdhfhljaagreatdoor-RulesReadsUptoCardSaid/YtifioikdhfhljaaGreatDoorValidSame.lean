/- itemOf, Valid, Storable at every api.Val: as trellisref1 has them. -/
import Derived.Test.YtifioikdhfhljaaGreatDoorItemKinds
import Derived.Test.YtifioikdhfhljaaGreatDoorAsserts
namespace Go.Proofs.YtifioikdhfhljaaGreatDoor
open Go.RowKit Go.Lib Go.Shelf

/-- The item of a value, by its kind. -/
def itemV (k a b : Int) (s : ByteArray) : Value :=
  if okV k a b s = false then .nilIface
  else if k = 0 then .iface 215 (.agg #[])
  else if k = 1 then .iface 216 (.bool (a == 1))
  else if k = 2 then .iface 217 (.int .i64 a)
  else if k = 3 then .iface 219 (.complex .f64 (fl a) (fl b))
  else if k = 4 then .iface 221 (.string s)
  else if k = 5 then .iface 222 (.int .i64 a)
  else .iface 223 (.int .i64 a)
theorem empty_list (s : ByteArray) : (E0.toList == s.toList) = s.toList.isEmpty := by
  have : E0.toList = [] := by simp [ByteArray.toList_eq]
  rw [this]
  cases s.toList <;> rfl
theorem beq_flip (a b : Int) : (a == b) = (b == a) := by
  rw [Bool.eq_iff_iff, beq_iff_eq, beq_iff_eq]
  exact ⟨Eq.symm, Eq.symm⟩
/-- What is said of itemOf at one value. -/
def ItemOf (k a b : Int) (s : ByteArray) : Prop := ∀ w, Tabs w → Calls Tryz.prog 130 #[V k a b s] w fun e w' => e = .returned (.tuple #[itemV k a b s, .bool (okV k a b s)]) ∧ G w w'
theorem ItemOf.yes {k a b : Int} {s : ByteArray} {x : Value} (ho : okV k a b s = true) (hx : itemV k a b s = x) (h : ∀ w, Tabs w → Calls Tryz.prog 130 #[V k a b s] w fun e w' => e = .returned (.tuple #[x, .bool true]) ∧ G w w') : ItemOf k a b s := by
  intro w hT; rw [ho, hx]; exact h w hT
theorem ItemOf.no {k a b : Int} {s : ByteArray} (ho : okV k a b s = false) (h : ∀ w, Tabs w → Calls Tryz.prog 130 #[V k a b s] w fun e w' => e = .returned (.tuple #[.nilIface, .bool false]) ∧ G w w') : ItemOf k a b s := by
  intro w hT
  have : itemV k a b s = .nilIface := by unfold itemV; rw [if_pos ho]
  rw [ho, this]; exact h w hT
theorem partB_iff (n : Int) : partB n = true ↔ -33554432 ≤ n ∧ n ≤ 33554432 := by unfold partB; simp
theorem itemOf_any (k a b : Int) (s : ByteArray) : ItemOf k a b s := by
  by_cases hk : k < 0 ∨ 6 < k
  · refine ItemOf.no ?_ (it_nil k a b s (ik_no k a b s hk))
    unfold okV
    rw [if_neg (by omega), if_neg (by omega), if_neg (by omega), if_neg (by omega), if_neg (by omega), if_neg (by omega)]
  have : k = 0 ∨ k = 1 ∨ k = 2 ∨ k = 3 ∨ k = 4 ∨ k = 5 ∨ k = 6 := by omega
  rcases this with rfl | rfl | rfl | rfl | rfl | rfl | rfl
  · have e : ((((0 : Int) == 0) && ((0 : Int) == a) && ((0 : Int) == b) && (E0.toList == s.toList))) = okV 0 a b s := by
      rw [empty_list, beq_flip 0 a, beq_flip 0 b]; simp [okV]
    cases h : okV 0 a b s
    · exact ItemOf.no h (it_null_no 0 a b s (e.trans h) (ik_0 a b s))
    · exact ItemOf.yes h (by simp [itemV, h]) (it_null_yes 0 a b s (e.trans h) (ik_0 a b s))
  · by_cases h1 : a = 1
    · subst h1
      have e : ((((1 : Int) == 1) && ((1 : Int) == 1) && ((0 : Int) == b) && (E0.toList == s.toList))) = okV 1 1 b s := by
        rw [empty_list, beq_flip 0 b]; simp [okV]
      have hk1 : ∀ w, Tabs w → Calls Tryz.prog 160 #[V 1 1 b s] w fun e w' => e = .returned (.iface 216 (.bool true)) ∧ G w w' := ik_1 1 b s
      cases h : okV 1 1 b s
      · exact ItemOf.no h (it_tt_no 1 1 b s (e.trans h) hk1)
      · exact ItemOf.yes h (by simp [itemV, h]) (it_tt_yes 1 1 b s (e.trans h) hk1)
    · have f1 : (a == 1) = false := by simpa using h1
      have e : ((((1 : Int) == 1) && ((0 : Int) == a) && ((0 : Int) == b) && (E0.toList == s.toList))) = okV 1 a b s := by
        rw [empty_list, beq_flip 0 a, beq_flip 0 b]; simp [okV, f1]
      have hk1 : ∀ w, Tabs w → Calls Tryz.prog 160 #[V 1 a b s] w fun e w' => e = .returned (.iface 216 (.bool false)) ∧ G w w' := by
        have := ik_1 a b s
        rw [f1] at this; exact this
      cases h : okV 1 a b s
      · exact ItemOf.no h (it_ff_no 1 a b s (e.trans h) hk1)
      · exact ItemOf.yes h (by simp [itemV, h, h1]) (it_ff_yes 1 a b s (e.trans h) hk1)
  · have e : ((((2 : Int) == 2) && ((a : Int) == a) && ((0 : Int) == b) && (E0.toList == s.toList))) = okV 2 a b s := by
      rw [empty_list, beq_flip 0 b]; simp [okV]
    cases h : okV 2 a b s
    · exact ItemOf.no h (it_whole_no a 2 a b s (e.trans h) (ik_2 a b s))
    · exact ItemOf.yes h (by simp [itemV, h]) (it_whole_yes a 2 a b s (e.trans h) (ik_2 a b s))
  · cases hp : partB a
    · exact ItemOf.no (by simp [okV, hp]) (it_nil 3 a b s (ik_3a a b s hp))
    · cases hq : partB b
      · exact ItemOf.no (by simp [okV, hq]) (it_nil 3 a b s (ik_3b a b s hp hq))
      · have pa := (partB_iff a).1 hp; have pb := (partB_iff b).1 hq
        have e : ((((3 : Int) == 3) && ((a : Int) == a) && ((b : Int) == b) && (E0.toList == s.toList))) = okV 3 a b s := by
          rw [empty_list]; simp [okV, hp, hq]
        cases h : okV 3 a b s
        · exact ItemOf.no h (it_cpx_no (fl a) (fl b) a b (Fl.ofInt a (by omega)) (Fl.ofInt b (by omega)) (by omega) (by omega) 3 a b s (e.trans h) (ik_3 a b s hp hq))
        · exact ItemOf.yes h (by simp [itemV, h]) (it_cpx_yes (fl a) (fl b) a b (Fl.ofInt a (by omega)) (Fl.ofInt b (by omega)) (by omega) (by omega) 3 a b s (e.trans h) (ik_3 a b s hp hq))
  · by_cases hs : s.size ≤ 32
    · cases hv : validD s.data.toList
      · exact ItemOf.no (by simp [okV, hv]) (it_nil 4 a b s (ik_4a a b s hs hv))
      · have e : ((((4 : Int) == 4) && ((0 : Int) == a) && ((0 : Int) == b) && (s.toList == s.toList))) = okV 4 a b s := by
          rw [beq_flip 0 a, beq_flip 0 b]; simp [okV, hs, hv]
        cases h : okV 4 a b s
        · exact ItemOf.no h (it_str_no s 4 a b s (e.trans h) (ik_4 a b s hs hv))
        · exact ItemOf.yes h (by simp [itemV, h]) (it_str_yes s 4 a b s (e.trans h) (ik_4 a b s hs hv))
    · exact ItemOf.no (by simp [okV, hs]) (it_nil 4 a b s (ik_4b a b s hs))
  · cases hz : (a != 0)
    · exact ItemOf.no (by simp [okV, hz]) (it_nil 5 a b s (ik_5a a b s hz))
    · have e : ((((5 : Int) == 5) && ((a : Int) == a) && ((0 : Int) == b) && (E0.toList == s.toList))) = okV 5 a b s := by
        rw [empty_list, beq_flip 0 b]; simp [okV, hz]
      cases h : okV 5 a b s
      · exact ItemOf.no h (it_node_no a 5 a b s (e.trans h) (ik_5 a b s hz))
      · exact ItemOf.yes h (by simp [itemV, h]) (it_node_yes a 5 a b s (e.trans h) (ik_5 a b s hz))
  · cases hz : (a != 0)
    · exact ItemOf.no (by simp [okV, hz]) (it_nil 6 a b s (ik_6a a b s hz))
    · have e : ((((6 : Int) == 6) && ((a : Int) == a) && ((0 : Int) == b) && (E0.toList == s.toList))) = okV 6 a b s := by
        rw [empty_list, beq_flip 0 b]; simp [okV, hz]
      cases h : okV 6 a b s
      · exact ItemOf.no h (it_edge_no a 6 a b s (e.trans h) (ik_6 a b s hz))
      · exact ItemOf.yes h (by simp [itemV, h]) (it_edge_yes a 6 a b s (e.trans h) (ik_6 a b s hz))
set_option maxRecDepth 100000 in
set_option maxHeartbeats 400000 in
theorem Valid_any (k a b : Int) (s : ByteArray) (w : World) (hT : Tabs w) : Calls Tryz.prog 95 #[V k a b s] w fun e w' => e = .returned (.bool (okV k a b s)) ∧ G w w' := by
  have HI : Hid (∀ w, Tabs w → Calls Tryz.prog 130 #[V k a b s] w fun e w' => e = .returned (.tuple #[itemV k a b s, .bool (okV k a b s)]) ∧ G w w') := itemOf_any k a b s
  generalize itemV k a b s = x at HI
  generalize okV k a b s = q at HI ⊢
  go_enter Tryz.func95, Tryz.ntmps95
  go_wp2_with fail
  refine (HI.out _ (by exact hT.G ((G.refl w).alloc _))).mono ?_
  rintro e w1 ⟨rfl, hb1⟩
  go_wp2
  go_ret
  exact ⟨rfl, ((G.refl w).alloc _).trans hb1⟩
end Go.Proofs.YtifioikdhfhljaaGreatDoor
