/- Graphs: is an id in a list that rises? -/
import Derived.Test.YtifioikdhfhljaaGreatDoorSh2
import Derived.PlainAid
namespace Go.Proofs.YtifioikdhfhljaaGreatDoor
open Go.RowKit Go.PlainAid

set_option maxRecDepth 100000 in
set_option maxHeartbeats 1000000 in
theorem nan1_any (a : Int) (w : World) : Calls Tryz.prog 163 #[I a] w fun e w' => e = .returned (.bool false) ∧ w' = w := by
  go_enter Tryz.func163, Tryz.ntmps163
  go_wp2_with fail
  go_ret
  exact ⟨by simp, rfl⟩
set_option maxRecDepth 100000 in
set_option maxHeartbeats 1000000 in
theorem nan2_any (a : Int) (w : World) : Calls Tryz.prog 159 #[I a] w fun e w' => e = .returned (.bool false) ∧ w' = w := by
  go_enter Tryz.func159, Tryz.ntmps159
  go_wp2_with fail
  go_ret
  exact ⟨by simp, rfl⟩
set_option maxRecDepth 100000 in
set_option maxHeartbeats 1000000 in
theorem less_any (a b : Int) (w : World) : Calls Tryz.prog 158 #[I a, I b] w fun e w' => e = .returned (.bool (decide (a < b))) ∧ w' = w := by
  have K := hide (nan1_any a w)
  go_enter Tryz.func158, Tryz.ntmps158
  go_wp2_with fail
  refine K.out.mono ?_
  rintro e w' ⟨rfl, h9⟩
  subst w'
  go_wp2_with fail
  go_ret
  exact ⟨rfl, rfl⟩
theorem rises_at {l : List Int} (h : l.Pairwise (· < ·)) {i j : Nat} {a b : Int} (hi : l[i]? = some a) (hj : l[j]? = some b) (hij : i < j) : a < b := by
  obtain ⟨h1, rfl⟩ := List.getElem?_eq_some_iff.1 hi
  obtain ⟨h2, rfl⟩ := List.getElem?_eq_some_iff.1 hj
  exact List.pairwise_iff_getElem.1 h i j h1 h2 hij
set_option maxRecDepth 100000 in
set_option maxHeartbeats 1000000 in
theorem bsearch_any (v : Value) (l : List Int) (x : Int) (w : World) (h : Row eI.rel w v l) (hs : l.Pairwise (· < ·)) (hl : l.length ≤ 4611686018427387903) : Calls Tryz.prog 129 #[v, I x] w fun e w' => (∃ n : Int, e = .returned (.tuple #[I n, .bool (decide (x ∈ l))])) ∧ w' = w := by
  obtain ⟨p, cap, hv⟩ := h.form
  subst hv
  have H := hide h; have HL := hide hl; have HS := hide hs
  clear h hl hs
  go_enter Tryz.func129, Tryz.ntmps129
  go_wp2_with fail
  go_loopw [7, 8, 9] (fun iv jv _ wr => ∃ i j : Nat, i ≤ j ∧ j ≤ l.length ∧ iv = I (i : Int) ∧ jv = I (j : Int) ∧ (∀ k y, k < i → l[k]? = some y → y < x) ∧ (∀ k y, j ≤ k → l[k]? = some y → x ≤ y) ∧ wr = w) (fun iv jv _ _ => (RowKit.intOf jv).toNat - (RowKit.intOf iv).toNat)
  case atStart => exact ⟨0, l.length, Nat.zero_le _, Nat.le_refl _, rfl, rfl, fun k y hk => by omega, fun k y hk e => by have := (List.getElem?_eq_some_iff.1 e).1; omega, rfl⟩
  case round =>
    obtain ⟨i, j, hij, hjn, rfl, rfl, h1, h2, hwr⟩ := hrel
    subst wr
    have hll := HL.out
    by_cases hlt : i < j
    · have i1 : (i : Int) < (j : Int) := by omega
      obtain ⟨m, hm⟩ : ∃ m : Nat, m = (i + j) / 2 := ⟨_, rfl⟩
      have hw1 : wrap64 ((i : Int) + (j : Int)) = ((i + j : Nat) : Int) := by unfold wrap64; omega
      have hm1 : ((i : Int) + (j : Int)) / 2 = (m : Int) := by omega
      have hml : m < l.length := by omega
      have m1 : (m : Int) < (l.length : Int) := by omega
      have hwm : wrap64 ((m : Int) + 1) = (m : Int) + 1 := by unfold wrap64; omega
      obtain ⟨y, hy⟩ : ∃ y, l[m]? = some y := ⟨_, List.getElem?_eq_getElem hml⟩
      obtain ⟨g, o, cap', hv⟩ := H.out.addr (by omega)
      injection hv with hp hl9 hc9
      subst hp
      subst hc9
      have hc : w.cell? ⟨g, o + m, none⟩ = some (I y) := by
        have := H.out.one hy 0 (u := I y) rfl
        simpa using this
      have K := hide (less_any y x w)
      have HIM : Hid (i ≤ m ∧ m < j ∧ j ≤ l.length) := ⟨by omega, by omega, hjn⟩
      have H1 := hide h1; have H2 := hide h2; have HY := hide hy; have HWM := hide hwm
      have HW1 := hide hw1
      clear hm h1 h2 hy hwm hlt hl9
      clear hw1
      have hw2 := HW1.out
      go_wp2_with fail
      refine K.out.mono ?_
      rintro e w' ⟨rfl, h9⟩
      subst w'
      clear hw2 hm1 hc i1 hij hjn hml hll
      by_cases hyx : y < x
      · have d1 : decide (y < x) = true := by simp [hyx]
        rw [d1]
        have HYX := hide hyx
        clear d1 hyx
        go_wp2_with fail
        refine ⟨⟨m + 1, j, HIM.out.2.1, HIM.out.2.2, by rw [HWM.out]; exact srl m, rfl, fun k z hk hz => ?_, H2.out, trivial⟩, ?_⟩
        · rcases Nat.lt_succ_iff_lt_or_eq.1 hk with q | rfl
          · exact Int.lt_trans (rises_at HS.out hz HY.out q) HYX.out
          · rw [HY.out] at hz
            cases hz
            exact HYX.out
        · rw [HWM.out]
          have := HIM.out
          simp only [RowKit.intOf]
          omega
      · have d1 : decide (y < x) = false := by simp [hyx]
        rw [d1]
        have HYX : Hid (x ≤ y) := by show _ ≤ _; omega
        clear d1 hyx
        go_wp2_with fail
        refine ⟨⟨i, m, HIM.out.1, by have := HIM.out; omega, rfl, rfl, H1.out, fun k z hk hz => ?_, trivial⟩, ?_⟩
        · rcases Nat.lt_or_eq_of_le hk with q | rfl
          · exact Int.le_of_lt (Int.lt_of_le_of_lt HYX.out (rises_at HS.out HY.out hz q))
          · rw [HY.out] at hz
            cases hz
            exact HYX.out
        · have := HIM.out
          simp only [RowKit.intOf]
          omega
    · obtain rfl : i = j := by omega
      have i1 : ¬ (i : Int) < (i : Int) := by omega
      have K := hide (fun a : Int => nan2_any a w)
      have H1 := hide h1; have H2 := hide h2
      by_cases hil : i < l.length
      · have i2 : (i : Int) < (l.length : Int) := by omega
        obtain ⟨y, hy⟩ : ∃ y, l[i]? = some y := ⟨_, List.getElem?_eq_getElem hil⟩
        obtain ⟨g, o, cap', hv⟩ := H.out.addr (by omega)
        injection hv with hp hl9 hc9
        subst hp
        subst hc9
        have hc : w.cell? ⟨g, o + i, none⟩ = some (I y) := by
          have := H.out.one hy 0 (u := I y) rfl
          simpa using this
        have HY := hide hy
        clear h1 h2 hy hij hjn hlt hil hll hl9
        by_cases hyx : y = x
        · have HF : Hid (decide (x ∈ l) = true) := by rw [Hid, decide_eq_true_iff, ← hyx]; exact List.mem_of_getElem? HY.out
          subst hyx
          go_wp2_with (first | (go_at_call 159; refine (K.out _).mono ?_; rintro e w' ⟨rfl, h9⟩; subst w') | fail)
          go_ret2
          exact ⟨⟨_, by rw [HF.out] <;> rfl⟩, rfl⟩
        · have HF : Hid (decide (x ∈ l) = false) := by
            rw [Hid, decide_eq_false_iff_not]
            intro hm
            obtain ⟨k, hk, e⟩ := List.getElem_of_mem hm
            have hk2 : l[k]? = some x := by rw [List.getElem?_eq_getElem hk, e]
            rcases Nat.lt_trichotomy k i with q | q | q
            · exact Int.lt_irrefl _ (H1.out k x q hk2)
            · subst q; rw [HY.out] at hk2; cases hk2; exact hyx rfl
            · have h3 := rises_at HS.out HY.out hk2 q
              have h4 := H2.out i y (Nat.le_refl _) HY.out
              omega
          have d1 : (y == x) = false := beq_false_of_ne hyx
          have d2 : decide (y = x) = false := decide_eq_false hyx
          clear hyx
          go_wp2_with (first | (go_at_call 159; refine (K.out _).mono ?_; rintro e w' ⟨rfl, h9⟩; subst w') | fail)
          go_ret2
          exact ⟨⟨_, by rw [HF.out] <;> rfl⟩, rfl⟩
      · have i2 : ¬ (i : Int) < (l.length : Int) := by omega
        have HF : Hid (decide (x ∈ l) = false) := by
          rw [Hid, decide_eq_false_iff_not]
          intro hm
          obtain ⟨k, hk, e⟩ := List.getElem_of_mem hm
          exact Int.lt_irrefl _ (h1 k x (by omega) (by rw [List.getElem?_eq_getElem hk, e]))
        clear h1 h2 hij hjn hlt hil hll
        go_wp2_with fail
        go_ret2
        exact ⟨⟨_, by rw [HF.out] <;> rfl⟩, rfl⟩
set_option maxRecDepth 100000 in
set_option maxHeartbeats 1000000 in
theorem stands_any (v : Value) (l : List Int) (x : Int) (w : World) (h : Row eI.rel w v l) (hs : l.Pairwise (· < ·)) (hl : l.length ≤ 4611686018427387903) : Calls Tryz.prog 87 #[v, I x] w fun e w' => e = .returned (.bool (decide (x ∈ l))) ∧ w' = w := by
  have K := hide (bsearch_any v l x w h hs hl)
  clear h hs hl
  generalize decide (x ∈ l) = b at K ⊢
  go_enter Tryz.func87, Tryz.ntmps87
  go_wp2_with fail
  refine K.out.mono ?_
  rintro e w' ⟨⟨n, rfl⟩, h9⟩
  subst w'
  clear K
  go_wp2_with fail
  go_ret
  exact ⟨rfl, rfl⟩
end Go.Proofs.YtifioikdhfhljaaGreatDoor
