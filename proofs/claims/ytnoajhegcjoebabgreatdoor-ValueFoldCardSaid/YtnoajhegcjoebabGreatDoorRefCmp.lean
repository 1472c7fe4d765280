/- trellisref1: numbers, rank, texts. -/
import Derived.Test.YtnoajhegcjoebabGreatDoorCmp
import Derived.Test.YtnoajhegcjoebabGreatDoorUtf
import Derived.BigQuiet
namespace Go.Proofs.YtnoajhegcjoebabGreatDoor
open Go.RowKit Go.Lib Go.PlainAid

set_option maxHeartbeats 400000 in
theorem rnum (x y : Int) (w : World) : Calls Tryz.prog 48 #[.int .i64 x, .int .i64 y] w fun e w' => e = .returned (.int .i64 (cI x y)) ∧ w' = w := by
  unfold cI
  by_cases h1 : x < y
  · go_enter Tryz.func48, Tryz.ntmps48
    go_wp2
    go_ret
    exact ⟨by first | rfl | (simp; done), rfl⟩
  · by_cases h2 : y < x
    · go_enter Tryz.func48, Tryz.ntmps48
      go_wp2
      go_ret
      exact ⟨by first | rfl | (simp; done), rfl⟩
    · go_enter Tryz.func48, Tryz.ntmps48
      go_wp2
      go_ret
      exact ⟨by first | rfl | (simp; done), rfl⟩
/-- The document's ranks. -/
def rkR (k : Int) : Int := if k = 5 then 1 else if k = 6 then 2 else if k = 4 then 3 else if k = 1 then 4 else if k = 2 then 5 else if k = 3 then 5 else 6
set_option maxRecDepth 100000 in
set_option maxHeartbeats 1000000 in
theorem rrank (k a b : Int) (s : ByteArray) (w : World) : Calls Tryz.prog 49 #[V k a b s] w fun e w' => e = .returned (.int .i64 (rkR k)) ∧ G w w' := by
  by_cases h5 : k = 5
  · subst h5
    rw [show rkR 5 = 1 by decide]
    go_enter Tryz.func49, Tryz.ntmps49
    go_wp2
    go_ret
    exact ⟨rfl, (G.refl _).alloc _⟩
  by_cases h6 : k = 6
  · subst h6
    rw [show rkR 6 = 2 by decide]
    go_enter Tryz.func49, Tryz.ntmps49
    go_wp2
    go_ret
    exact ⟨rfl, (G.refl _).alloc _⟩
  by_cases h4 : k = 4
  · subst h4
    rw [show rkR 4 = 3 by decide]
    go_enter Tryz.func49, Tryz.ntmps49
    go_wp2
    go_ret
    exact ⟨rfl, (G.refl _).alloc _⟩
  by_cases h1 : k = 1
  · subst h1
    rw [show rkR 1 = 4 by decide]
    go_enter Tryz.func49, Tryz.ntmps49
    go_wp2
    go_ret
    exact ⟨rfl, (G.refl _).alloc _⟩
  by_cases h2 : k = 2
  · subst h2
    rw [show rkR 2 = 5 by decide]
    go_enter Tryz.func49, Tryz.ntmps49
    go_wp2
    go_ret
    exact ⟨rfl, (G.refl _).alloc _⟩
  by_cases h3 : k = 3
  · subst h3
    rw [show rkR 3 = 5 by decide]
    go_enter Tryz.func49, Tryz.ntmps49
    go_wp2
    go_ret
    exact ⟨rfl, (G.refl _).alloc _⟩
  have n5 : (k == 5) = false := by simpa using h5
  have n6 : (k == 6) = false := by simpa using h6
  have n4 : (k == 4) = false := by simpa using h4
  have n1 : (k == 1) = false := by simpa using h1
  have n2 : (k == 2) = false := by simpa using h2
  have n3 : (k == 3) = false := by simpa using h3
  rw [show rkR k = 6 by simp [rkR, h5, h6, h4, h1, h2, h3]]
  clear h5 h6 h4 h1 h2 h3
  go_enter Tryz.func49, Tryz.ntmps49
  go_wp2
  go_ret
  exact ⟨rfl, (G.refl _).alloc _⟩
theorem G.drewK {a w : World} (h : G a w) (n : Nat) : G a (w.drewN n) := ⟨h.os, h.tape, h.output, h.size, h.block⟩
theorem drop_bt (s : ByteArray) (i : Nat) (h : i < s.size) : ∃ x : UInt8, s.data.toList.drop i = x :: s.data.toList.drop (i + 1) ∧ (x.toNat : Int) = bt s i := by
  have hl : i < s.data.toList.length := by simpa using h
  refine ⟨s.data.toList[i], List.drop_eq_getElem_cons hl, ?_⟩
  unfold bt
  rw [dif_pos h]
  rfl
theorem cb_nil (a b : List UInt8) (h : a = [] ∨ b = []) : compareBytes a b = cI a.length b.length := by
  unfold cI
  rcases h with rfl | rfl
  · cases b with
    | nil => rfl
    | cons x t => simp [compareBytes]
  · cases a with
    | nil => rfl
    | cons x t =>
      have h1 : ¬ ((t.length : Int) + 1 < 0) := by omega
      have h2 : (0 : Int) < (t.length : Int) + 1 := by omega
      simp [compareBytes, h1, h2]
theorem cb_step (a b : ByteArray) (m : Nat) (h1 : m < a.size) (h2 : m < b.size) :
    compareBytes (a.data.toList.drop m) (b.data.toList.drop m) = if bt a m < bt b m then -1 else if bt b m < bt a m then 1 else compareBytes (a.data.toList.drop (m + 1)) (b.data.toList.drop (m + 1)) := by
  obtain ⟨x, ex, hx⟩ := drop_bt a m h1
  obtain ⟨y, ey, hy⟩ := drop_bt b m h2
  rw [ex, ey, ← hx, ← hy]
  have l1 : (x < y) ↔ ((x.toNat : Int) < (y.toNat : Int)) := by rw [UInt8.lt_iff_toNat_lt]; omega
  have l2 : (y < x) ↔ ((y.toNat : Int) < (x.toNat : Int)) := by rw [UInt8.lt_iff_toNat_lt]; omega
  simp only [compareBytes, l1, l2]
set_option maxRecDepth 100000 in
set_option maxHeartbeats 1000000 in
theorem rtexts (a b : ByteArray) (ha : a.size ≤ 4611686018427387904) (hb : b.size ≤ 4611686018427387904) (w : World) :
    Calls Tryz.prog 50 #[.string a, .string b] w fun e w' => e = .returned (.int .i64 (compareBytes a.data.toList b.data.toList)) ∧ G w w' := by
  have hba := get_bt a
  have hbb := get_bt b
  have HQ : ∀ m, Hid (m < a.size → m < b.size → _) := fun m => cb_step a b m
  have HN : Hid _ := cb_nil
  generalize hg : compareBytes a.data.toList b.data.toList = g
  have HG : Hid _ := hg
  clear hg
  go_enter Tryz.func50, Tryz.ntmps50
  go_wp2
  go_loopw [5] (fun i W => ∃ m : Nat, m ≤ a.size ∧ m ≤ b.size ∧ i = .int .i64 m ∧ G w W ∧ Hid (compareBytes (a.data.toList.drop m) (b.data.toList.drop m) = g)) (fun i _ => a.size - (RowKit.intOf i).toNat)
  case atStart => exact ⟨0, by omega, by omega, rfl, G.refl _, HG.out⟩
  case round =>
    obtain ⟨m, hm1, hm2, rfl, hG, HI⟩ := hrel
    have HW : Hid (G w wr) := hG
    clear hG
    by_cases h1 : m < a.size
    · by_cases h2 : m < b.size
      · have HS : Hid _ := (HQ m).out h1 h2
        have i1 : (m : Int) < (a.size : Int) := by omega
        have i2 : (m : Int) < (b.size : Int) := by omega
        by_cases c1 : bt a m < bt b m
        · go_wp2
          go_quiet (fail)
          go_wp2
          go_ret
          have := HS.out
          rw [HI.out, if_pos c1] at this
          exact ⟨by rw [this]; rfl, by first | exact (HW.out.drewK _).drewK _ | exact HW.out.drewK _⟩
        · by_cases c2 : bt b m < bt a m
          · go_wp2
            go_quiet (fail)
            go_wp2
            go_quiet (fail)
            go_wp2
            go_ret
            have := HS.out
            rw [HI.out, if_neg (Int.not_lt.2 c1), if_pos c2] at this
            exact ⟨by rw [this]; rfl, by first | exact (HW.out.drewK _).drewK _ | exact HW.out.drewK _⟩
          · go_wp2
            go_quiet (fail)
            go_wp2
            go_quiet (fail)
            go_wp2
            go_roundw
            case rel =>
              have := HS.out
              rw [HI.out, if_neg (Int.not_lt.2 c1), if_neg (Int.not_lt.2 c2)] at this
              exact ⟨m + 1, by omega, by omega, by go_num, by first | exact HW.out.drewK _ | exact (HW.out.drewK _).drewK _, this.symm⟩
            case measure => simp [RowKit.intOf]; omega
      · have i1 : (m : Int) < (a.size : Int) := by omega
        have i2 : ¬ (m : Int) < (b.size : Int) := by omega
        go_wp2_with (go_at_call 48; refine (rnum _ _ _).mono ?_; rintro e w1 ⟨rfl, rfl⟩)
        go_ret
        have := HN.out (a.data.toList.drop m) (b.data.toList.drop m) (.inr (List.drop_eq_nil_of_le (by simp; exact Nat.not_lt.1 h2)))
        rw [HI.out] at this
        refine ⟨?_, HW.out⟩
        rw [this]
        unfold cI
        have l1 : (a.data.toList.drop m).length = a.size - m := by simp
        have l2 : (b.data.toList.drop m).length = b.size - m := by simp
        rw [l1, l2]
        have e1 : ((a.size : Int) < (b.size : Int)) ↔ (((a.size - m : Nat) : Int) < ((b.size - m : Nat) : Int)) := by omega
        have e2 : ((b.size : Int) < (a.size : Int)) ↔ (((b.size - m : Nat) : Int) < ((a.size - m : Nat) : Int)) := by omega
        simp only [e1, e2]
        rfl
    · have i1 : ¬ (m : Int) < (a.size : Int) := by omega
      go_wp2_with (go_at_call 48; refine (rnum _ _ _).mono ?_; rintro e w1 ⟨rfl, rfl⟩)
      go_ret
      have := HN.out (a.data.toList.drop m) (b.data.toList.drop m) (.inl (List.drop_eq_nil_of_le (by simp; exact Nat.not_lt.1 h1)))
      rw [HI.out] at this
      refine ⟨?_, HW.out⟩
      rw [this]
      unfold cI
      have l1 : (a.data.toList.drop m).length = a.size - m := by simp
      have l2 : (b.data.toList.drop m).length = b.size - m := by simp
      rw [l1, l2]
      have e1 : ((a.size : Int) < (b.size : Int)) ↔ (((a.size - m : Nat) : Int) < ((b.size - m : Nat) : Int)) := by omega
      have e2 : ((b.size : Int) < (a.size : Int)) ↔ (((b.size - m : Nat) : Int) < ((a.size - m : Nat) : Int)) := by omega
      simp only [e1, e2]
      rfl
end Go.Proofs.YtnoajhegcjoebabGreatDoor
