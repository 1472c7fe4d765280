/- Unpack: both faces. -/
import Derived.Test.YtdiikofgilplkaaDoorNam3
namespace Go.Proofs.YtdiikofgilplkaaDoor
open Go.RowKit Go.Shelf Go.PlainAid Go.Lib

/-- What Unpack answers (P116). -/
def UAns (n : Int) (s : ByteArray) (c : Int) : Prop :=
  (NameP s ∧ packK s 8 = n ∧ UNP n s ∧ c = 0) ∨ ((∀ s0, NameP s0 → packK s0 8 ≠ n) ∧ s = E0 ∧ c = 1)
theorem UAns.one {n c c' : Int} {s s' : ByteArray} (h : UAns n s c) (h' : UAns n s' c') : s = s' ∧ c = c' := by
  rcases h with ⟨h1, h2, h3, rfl⟩ | ⟨h1, rfl, rfl⟩
  · rcases h' with ⟨g1, g2, _, rfl⟩ | ⟨g1, _⟩
    · exact ⟨h3 s' g1 g2, rfl⟩
    · exact absurd h2 (g1 s h1)
  · rcases h' with ⟨g1, g2, _⟩ | ⟨_, rfl, rfl⟩
    · exact absurd g2 (h1 s' g1)
    · exact ⟨rfl, rfl⟩
theorem uans_no {n : Int} {s : ByteArray} (h : UNP n s) (hn : nameB s = false ∨ packK s 8 ≠ n) : UAns n E0 1 := by
  refine .inr ⟨fun s0 h0 he => ?_, rfl, rfl⟩
  have e := h s0 h0 he
  subst e
  rcases hn with hn | hn
  · rw [(nameB_iff s).2 h0] at hn; cases hn
  · exact hn he
def UAA (n : Int) (w : World) (e : Ending) (w' : World) : Prop := ∃ (s : ByteArray) (c : Int), e = .returned (.tuple #[.string s, .int .i64 c]) ∧ UAns n s c ∧ G w w'
theorem gn_any2 (n : Int) (h1 : -9223372036854775808 ≤ n) (h2 : n ≤ 9223372036854775807) (w : World) : Calls Tryd.prog 25 #[.int .i64 n] w fun e w' => ∃ xs, e = .returned (.string (strN xs)) ∧ UNP n (strN xs) ∧ xs.length ≤ 8 ∧ G w w' := by
  by_cases h : n < 0
  · exact gn_neg n h w
  · exact gn_pos n (by omega) h2 w
set_option maxRecDepth 100000 in
set_option maxHeartbeats 16000000 in
theorem un_any (n : Int) (h1 : -9223372036854775808 ≤ n) (h2 : n ≤ 9223372036854775807) (w : World) : Calls Tryd.prog 14 #[.int .i64 n] w (UAA n w) := by
  have H1 : Hid _ := gn_any2 n h1 h2
  clear h1 h2
  go_enter Tryd.func14, Tryd.ntmps14
  go_wp2_with fail
  refine (H1.out _).mono ?_
  rintro e w1 ⟨xs, rfl, hu, hx, hb1⟩
  generalize strN xs = s at hu
  have HN : Hid _ := Name_any s
  have HG : Hid (G w w1) := hb1
  have HU : Hid _ := hu
  clear hb1 hu H1 hx
  cases hnb : nameB s
  · have HA : Hid (UAns n E0 1) := uans_no HU.out (.inl hnb)
    rw [hnb] at HN
    clear hnb
    go_wp2_with fail
    refine (HN.out _).mono ?_
    rintro e w2 ⟨rfl, hw⟩
    rw [hw]
    clear hw
    go_wp2
    go_ret2
    exact ⟨E0, 1, rfl, HA.out, HG.out⟩
  · have hnp := nameB_true hnb
    have HP : Hid _ := pk_any s hnp
    rw [hnb] at HN
    by_cases hpn : packK s 8 = n
    · have HA : Hid (UAns n s 0) := .inl ⟨hnp, hpn, HU.out, rfl⟩
      rw [hpn] at HP
      clear hnb hnp hpn
      go_wp2_with fail
      refine (HN.out _).mono ?_
      rintro e w2 ⟨rfl, hw⟩
      rw [hw]
      clear hw
      go_wp2_with fail
      refine (HP.out _).mono ?_
      rintro e w2 ⟨rfl, hw⟩
      rw [hw]
      clear hw
      go_wp2
      go_ret2
      exact ⟨s, 0, rfl, HA.out, HG.out⟩
    · have HA : Hid (UAns n E0 1) := uans_no HU.out (.inr hpn)
      generalize packK s 8 = q at HP hpn
      have hqn : (q != n) = true := bne_iff_ne.2 hpn
      clear hnb hnp
      go_wp2_with fail
      refine (HN.out _).mono ?_
      rintro e w2 ⟨rfl, hw⟩
      rw [hw]
      clear hw
      go_wp2_with fail
      refine (HP.out _).mono ?_
      rintro e w2 ⟨rfl, hw⟩
      rw [hw]
      clear hw
      go_wp2
      go_ret2
      exact ⟨E0, 1, rfl, HA.out, HG.out⟩
theorem strN_cons (d : Nat) (xs : List Nat) : strN [d] ++ strN xs = strN (d :: xs) := by
  have h : (strN [d] ++ strN xs).data.toList = (strN (d :: xs)).data.toList := by
    have e : ∀ l : List Nat, (strN l).data.toList = l.map UInt8.ofNat := fun l => by
      have := strOfNums_toList (l.map fun d : Nat => (d : Int))
      rw [ByteArray.toList_eq] at this
      show (strOfNums _).data.toList = _
      rw [this]; simp [bytesOf]
    rw [ByteArray.data_append, Array.toList_append, e, e, e]
    rfl
  cases h1 : strN [d] ++ strN xs with
  | mk a => cases h2 : strN (d :: xs) with
    | mk b =>
      rw [h1, h2] at h
      congr 1
      exact Array.toList_inj.1 h
theorem run_no_lo {n : Int} (h : n < 1 ∨ 4398046511104 ≤ n) : UAns n E0 1 := by
  refine .inr ⟨fun s0 h0 he => ?_, rfl, rfl⟩
  have h1 := packK_64 s0 h0 8 (Nat.le_refl _)
  have h2 := pn_dig (k := 7) (by omega) s0 h0 he
  have h3 := chN_bd _ (h0.2.2.2 0 h0.1)
  rw [if_pos (by have := h0.1; omega)] at h2
  simp only [show 7 - 7 = 0 by omega] at h2
  rw [he] at h1
  rcases h with h | h
  · have e : n = 0 := by omega
    rw [e] at h2
    simp at h2
    omega
  · omega
end Go.Proofs.YtdiikofgilplkaaDoor
