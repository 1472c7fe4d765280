/- trellisref1.Unpack. -/
import Derived.Test.YtficmpaeochcgaaGreatDoorNam4
namespace Go.Proofs.YtficmpaeochcgaaGreatDoor
open Go.RowKit Go.Shelf Go.PlainAid Go.Lib

theorem strN_size2 (xs : List Nat) : (strN xs).size = xs.length := by
  have e : (strN xs).toList = bytesOf (xs.map fun d : Nat => (d : Int)) := strOfNums_toList _
  have h2 : (strN xs).toList.length = (strN xs).size := by rw [ByteArray.toList_eq]; simp
  rw [← h2, e]; simp [bytesOf]
theorem lit_str (W : World) (z : Int) (d : Nat) (h : z = (d : Int)) : (convert 33 9 (.slice (some ⟨W.heap.size, 0, none⟩) 1 1)).run Tryz.prog (W.alloc (.cells #[.int .u8 z] 5)) = .ok (.string (strN [d])) (W.alloc (.cells #[.int .u8 z] 5)) := by
  subst h
  exact row_str ⟨_, 1, rfl, Nat.le_refl _, fun i e hi => ⟨W.heap.size, 0, rfl, by
    match i, hi with
    | 0, hi => simp at hi; subst hi; simp⟩⟩
set_option maxRecDepth 100000 in
set_option maxHeartbeats 16000000 in
theorem run_in (n : Int) (h : ¬ n < 1) (h2 : ¬ 4398046511104 ≤ n) (w : World) : Calls Tryz.prog 72 #[.int .i64 n] w (UAA n w) := by
  have h0 : 0 ≤ n := by omega
  go_enter Tryz.func72, Tryz.ntmps72
  go_wp2
  go_loopw [4, 5, 6, 7] (fun s m i _ W => ∃ (k : Nat) (xs : List Nat), k ≤ 8 ∧ xs.length ≤ k ∧ i = .int .i64 k ∧ m = .int .i64 (n / 37 ^ k) ∧ s = .string (strN xs) ∧ PNm n k xs ∧ G w W) (fun _ _ i _ _ => 8 - (RowKit.intOf i).toNat)
  case atStart => exact ⟨0, [], by omega, by simp, rfl, by simp, rfl, pn_start n, G.refl _⟩
  case round =>
    obtain ⟨k, xs, hk, hx, rfl, rfl, rfl, hp, hG⟩ := hrel
    obtain ⟨hq0, hq1⟩ := quo37 n h0 k
    have HG : Hid _ := hG
    have HP : Hid (PNm n k xs) := hp
    have HQ : Hid _ := hq1
    have hsz := strN_size2 xs
    clear hG hp hq1
    by_cases hlt : k < 8
    · have hki : (k : Int) < 8 := by omega
      have hqle : n / 37 ^ k ≤ 4398046511104 := Int.le_trans (Int.ediv_le_self _ h0) (by omega)
      by_cases hz : n / 37 ^ k % 37 = 0
      · have HPP : Hid _ := pn_zero hlt HP.out hz
        generalize n / 37 ^ k = q at hq0 hz HQ hqle
        by_cases hxn : xs = []
        · subst hxn
          have hse : strN [] = E0 := rfl
          rw [hse]
          go_wp2
          go_roundw
          case rel => exact ⟨k + 1, [], by omega, by simp, by go_num, by rw [HQ.out], rfl, HPP.out, HG.out⟩
          case measure => simp [RowKit.intOf]; omega
        · have HA : Hid (UAns n E0 1) := by
            refine .inr ⟨fun s0 h0 he => ?_, rfl, rfl⟩
            have h1 := HP.out s0 h0 he
            have h2 := HPP.out s0 h0 he
            have h3 : 8 - k ≥ s0.size ∨ 8 - k < s0.size := by omega
            rcases h3 with h3 | h3
            · exact hxn (by rw [h1, List.drop_of_length_le (by rw [pre_len]; omega)])
            · have e1 := congrArg List.length h1
              have e2 := congrArg List.length h2
              rw [List.length_drop, pre_len] at e1 e2
              omega
          have hsn : ((strN xs).toList == E0.toList) = false := by
            refine beq_false_of_ne fun he => hxn ?_
            have h1 := congrArg List.length he
            have h2 : (strN xs).toList.length = (strN xs).size := by rw [ByteArray.toList_eq]; simp
            have h3 : E0.toList.length = 0 := by simp [ByteArray.toList_eq]
            rw [h2, hsz, h3] at h1
            exact List.eq_nil_of_length_eq_zero h1
          have hs4 : ¬ (strN xs).toList = [] := fun he => hxn (by
            have h2 : (strN xs).toList.length = (strN xs).size := by rw [ByteArray.toList_eq]; simp
            rw [he, hsz] at h2
            exact List.eq_nil_of_length_eq_zero h2.symm)
          have hs5 : (strN xs).toList.isEmpty = false := by
            cases h : (strN xs).toList with
            | nil => exact absurd h hs4
            | cons _ _ => rfl
          generalize strN xs = S at hsn hsz hs4 hs5
          go_wp2
          go_ret2
          exact ⟨E0, 1, rfl, HA.out, HG.out⟩
      · have HPP : Hid _ := pn_some hlt HP.out hz
        generalize n / 37 ^ k = q at hq0 hz HQ hqle HPP
        have hs1 := strN_size2 [byN (q % 37)]
        have hadd : ∀ W, (Op.stringOp .add (strN [byN (q % 37)]) (strN xs)).run Tryz.prog W = .ok (.string (strN (byN (q % 37) :: xs))) W := fun W => by
          rw [run_string_add_sum W _ _ (by rw [hs1, hsz]; simp; omega), strN_cons]
        by_cases h10 : 10 < q % 37
        · have hcv := lit_str wr (97 + q % 37 - 11) (byN (q % 37)) (by unfold byN; rw [if_neg (by omega)]; omega)
          generalize byN (q % 37) = d at hcv hadd HPP hs1
          go_wp2
          go_roundw
          case rel => exact ⟨k + 1, d :: xs, by omega, by simp; omega, by go_num, by rw [HQ.out], rfl, HPP.out, G.alloc HG.out _⟩
          case measure => simp [RowKit.intOf]; omega
        · have hcv := lit_str wr (48 + q % 37 - 1) (byN (q % 37)) (by unfold byN; rw [if_pos (by omega)]; omega)
          have hpos : 0 < q % 37 := by omega
          generalize byN (q % 37) = d at hcv hadd HPP hs1
          go_wp2
          go_roundw
          case rel => exact ⟨k + 1, d :: xs, by omega, by simp; omega, by go_num, by rw [HQ.out], rfl, HPP.out, G.alloc HG.out _⟩
          case measure => simp [RowKit.intOf]; omega
    · have e : k = 8 := by omega
      subst e
      have HU : Hid _ := pn_end HP.out
      generalize strN xs = s at HU hsz
      cases hnb : nameB s
      · have HA : Hid (UAns n E0 1) := uans_no HU.out (.inl hnb)
        have HR : Hid _ := rPk_no s hnb
        clear hnb
        go_wp2_with fail
        refine (HR.out _).mono ?_
        rintro e w2 ⟨rfl, hw⟩
        rw [hw]
        clear hw
        go_wp2
        go_ret2
        exact ⟨E0, 1, rfl, HA.out, HG.out⟩
      · have hnp := nameB_true hnb
        have HR : Hid _ := rPk_yes s hnp
        by_cases hpn : packK s 8 = n
        · have HA : Hid (UAns n s 0) := .inl ⟨hnp, hpn, HU.out, rfl⟩
          rw [hpn] at HR
          clear hnb hnp hpn
          go_wp2_with fail
          refine (HR.out _).mono ?_
          rintro e w2 ⟨rfl, hw⟩
          rw [hw]
          clear hw
          go_wp2
          go_ret2
          exact ⟨s, 0, rfl, HA.out, HG.out⟩
        · have HA : Hid (UAns n E0 1) := uans_no HU.out (.inr hpn)
          generalize packK s 8 = q at HR hpn
          have hqn : (q != n) = true := bne_iff_ne.2 hpn
          clear hnb hnp
          go_wp2_with fail
          refine (HR.out _).mono ?_
          rintro e w2 ⟨rfl, hw⟩
          rw [hw]
          clear hw
          go_wp2
          go_ret2
          exact ⟨E0, 1, rfl, HA.out, HG.out⟩
theorem run_any (n : Int) (w : World) : Calls Tryz.prog 72 #[.int .i64 n] w (UAA n w) := by
  by_cases h : n < 1
  · exact run_out n h w
  · by_cases h2 : 4398046511104 ≤ n
    · exact run_out2 n h h2 w
    · exact run_in n h h2 w
end Go.Proofs.YtficmpaeochcgaaGreatDoor
