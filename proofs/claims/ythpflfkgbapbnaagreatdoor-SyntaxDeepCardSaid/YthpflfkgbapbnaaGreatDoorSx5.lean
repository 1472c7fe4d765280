/- Tokens: the document's names. -/
import Derived.Test.YthpflfkgbapbnaaGreatDoorSx0
import Derived.Test.YthpflfkgbapbnaaGreatDoorShX1
import Derived.Test.YthpflfkgbapbnaaGreatDoorShB3
import Derived.Shelf.Small.Strs
import Derived.Shelf.Strings.Prefix
import Derived.Test.YthpflfkgbapbnaaGreatDoorBk1
import Derived.ChangeKeysEq
import Derived.Deep.MidRow
import Derived.Deep.RegionHeld3
import Derived.BigQuiet
import Derived.Deep.QuietTactic
namespace Go.Proofs.YthpflfkgbapbnaaGreatDoor
section
section
section
section
open Go.RowKit

theorem x_get (u : ByteArray) (k : Nat) (hk : k < u.size) : u.data.toList[k]? = some u[k] := by simp [ByteArray.getElem_eq_getElem_data, hk]
theorem x_some {u : ByteArray} {k : Nat} {c : UInt8} (h : u.data.toList[k]? = some c) : ∃ hk : k < u.size, u[k] = c := by
  obtain ⟨h1, h2⟩ := List.getElem?_eq_some_iff.1 h
  have hk : k < u.size := by rw [Array.length_toList] at h1; exact h1
  exact ⟨hk, by have := x_get u k hk; rw [h] at this; exact (Option.some.inj this).symm⟩
theorem x_len (u : ByteArray) : u.data.toList.length = u.size := by rw [Array.length_toList]; rfl
theorem x_ext (u : ByteArray) (i n m : Nat) (h : m = i + n) : u.extract i m = sU ((u.data.toList.drop i).take n) := by rw [h]; exact sU_ext u i n
set_option maxRecDepth 100000 in
set_option maxHeartbeats 1000000 in
theorem isL (c : UInt8) (w : World) : Calls Tryz.prog 59 #[.int .u8 (c.toNat : Int)] w fun e w' => e = .returned (.bool (xA c)) ∧ w' = w := by
  have hr : xA c = (decide (97 ≤ c.toNat) && decide (c.toNat ≤ 122)) := by unfold xA; exact Bool.decide_and _ _
  have HR := xh hr
  clear hr
  by_cases h1 : 97 ≤ c.toNat
  · have i1 : (97 : Int) ≤ (c.toNat : Int) := by omega
    by_cases h2 : c.toNat ≤ 122
    · have i2 : (c.toNat : Int) ≤ 122 := by omega
      go_enter Tryz.func59, Tryz.ntmps59
      go_wp2
      go_ret
      exact ⟨by rw [HR.out]; simp [h1, h2], rfl⟩
    · have i2 : ¬ (c.toNat : Int) ≤ 122 := by omega
      go_enter Tryz.func59, Tryz.ntmps59
      go_wp2
      go_ret
      exact ⟨by rw [HR.out]; simp [h1, h2], rfl⟩
  · have i1 : ¬ (97 : Int) ≤ (c.toNat : Int) := by omega
    go_enter Tryz.func59, Tryz.ntmps59
    go_wp2
    go_ret
    exact ⟨by rw [HR.out]; simp [h1], rfl⟩
set_option maxRecDepth 100000 in
set_option maxHeartbeats 1000000 in
theorem isDg (c : UInt8) (w : World) : Calls Tryz.prog 57 #[.int .u8 (c.toNat : Int)] w fun e w' => e = .returned (.bool (xD c)) ∧ w' = w := by
  have hr : xD c = (decide (48 ≤ c.toNat) && decide (c.toNat ≤ 57)) := by unfold xD; exact Bool.decide_and _ _
  have HR := xh hr
  clear hr
  by_cases h1 : 48 ≤ c.toNat
  · have i1 : (48 : Int) ≤ (c.toNat : Int) := by omega
    by_cases h2 : c.toNat ≤ 57
    · have i2 : (c.toNat : Int) ≤ 57 := by omega
      go_enter Tryz.func57, Tryz.ntmps57
      go_wp2
      go_ret
      exact ⟨by rw [HR.out]; simp [h1, h2], rfl⟩
    · have i2 : ¬ (c.toNat : Int) ≤ 57 := by omega
      go_enter Tryz.func57, Tryz.ntmps57
      go_wp2
      go_ret
      exact ⟨by rw [HR.out]; simp [h1, h2], rfl⟩
  · have i1 : ¬ (48 : Int) ≤ (c.toNat : Int) := by omega
    go_enter Tryz.func57, Tryz.ntmps57
    go_wp2
    go_ret
    exact ⟨by rw [HR.out]; simp [h1], rfl⟩
set_option maxRecDepth 100000 in
set_option maxHeartbeats 1000000 in
theorem isLD (c : UInt8) (w : World) : Calls Tryz.prog 55 #[.int .u8 (c.toNat : Int)] w fun e w' => e = .returned (.bool (xW c)) ∧ w' = w := by
  have H1 := xh (isL c)
  have H2 := xh (isDg c)
  have HW : Hid (xW c = (xA c || xD c)) := rfl
  cases h1 : xA c <;> cases h2 : xD c
  all_goals
    rw [h1] at H1 HW
    rw [h2] at H2 HW
    go_enter Tryz.func55, Tryz.ntmps55
    go_wp2_with (first | (go_at_call 59; refine (H1.out _).mono ?_; rintro e w1 ⟨rfl, rfl⟩) | (go_at_call 57; refine (H2.out _).mono ?_; rintro e w1 ⟨rfl, rfl⟩))
    go_ret
    exact ⟨by rw [HW.out]; rfl, rfl⟩
set_option maxRecDepth 100000 in
set_option maxHeartbeats 1000000 in
theorem run_W (u : ByteArray) (hs : u.size ≤ 4611686018427387904) (i : Nat) (hi : i ≤ u.size) (w : World) : Calls Tryz.prog 54 #[.string u, .int .i64 i, .func (.func 55) #[] #[]] w fun e w' => e = .returned (.int .i64 ((i + spn xW (u.data.toList.drop i) : Nat) : Int)) ∧ w' = w := by
  have hll := x_len u
  obtain ⟨n, hn⟩ : ∃ n, n = spn xW (u.data.toList.drop i) := ⟨_, rfl⟩
  have hnl := spn_len (p := xW) (u.data.toList.drop i)
  rw [← hn, List.length_drop, hll] at hnl
  have HLT : Hid (∀ k, k < n → ∃ c, u.data.toList[i + k]? = some c ∧ xW c = true) := fun k hk => by
    obtain ⟨c, h1, h2⟩ := spn_lt (p := xW) (u.data.toList.drop i) k (by rw [← hn]; exact hk)
    rw [List.getElem?_drop] at h1
    exact ⟨c, h1, h2⟩
  have HEN : Hid (∀ c, u.data.toList[i + n]? = some c → xW c = false) := fun c hc => by
    refine spn_end (p := xW) (u.data.toList.drop i) c ?_
    rw [← hn, List.getElem?_drop]
    exact hc
  rw [← hn]
  clear hn
  have HC := xh isLD
  go_enter Tryz.func54, Tryz.ntmps54
  go_wp2_with fail
  go_loopw [1] (fun p W => ∃ k : Nat, k ≤ n ∧ p = .int .i64 ((i + k : Nat) : Int) ∧ W = w) (fun p _ => u.size - (RowKit.intOf p).toNat)
  case atStart => exact ⟨0, by omega, rfl, rfl⟩
  case round =>
    obtain ⟨k, hk, rfl, rfl⟩ := hrel
    by_cases hlt : k < n
    · obtain ⟨c, h1, h2⟩ := HLT.out k hlt
      obtain ⟨p, hp⟩ : ∃ p, p = i + k := ⟨_, rfl⟩
      have HP := xh hp
      rw [← hp] at h1 ⊢
      obtain ⟨hps, hpc⟩ := x_some h1
      have hpI : (p : Int) < (u.size : Int) := by omega
      have HCC := xh (HC.out u[p])
      rw [hpc, h2, ← hpc] at HCC
      clear h1 h2 hp hpc
      go_wp2_with (first | (go_at_call 55; refine (HCC.out _).mono ?_; rintro e w1 ⟨rfl, rfl⟩) | fail)
      go_roundw
      case rel => exact ⟨k + 1, by omega, by rw [show i + (k + 1) = p + 1 from by rw [HP.out]; omega]; go_num, by first | trivial | rfl⟩
      case measure => simp [RowKit.intOf]; omega
    · obtain rfl : k = n := by omega
      obtain ⟨p, hp⟩ : ∃ p, p = i + k := ⟨_, rfl⟩
      have HEN' := HEN.out
      rw [← hp] at HEN' ⊢
      have HE2 := xh HEN'
      have HP := xh hp
      have hdl : p ≤ u.size := by omega
      clear HEN' HEN HLT hp
      by_cases hpe : p = u.size
      · subst hpe
        go_wp2
        go_ret
        exact ⟨by rw [← HP.out]; rfl, rfl⟩
      · have hps : p < u.size := by omega
        have hpI : (p : Int) < (u.size : Int) := by omega
        have hnd := HE2.out u[p] (x_get u p hps)
        have HCC := xh (HC.out u[p])
        rw [hnd] at HCC
        go_wp2_with (first | (go_at_call 55; refine (HCC.out _).mono ?_; rintro e w1 ⟨rfl, rfl⟩) | fail)
        go_ret
        exact ⟨by rw [← HP.out]; rfl, rfl⟩
set_option maxRecDepth 100000 in
set_option maxHeartbeats 1000000 in
theorem run_D (u : ByteArray) (hs : u.size ≤ 4611686018427387904) (i : Nat) (hi : i ≤ u.size) (w : World) : Calls Tryz.prog 54 #[.string u, .int .i64 i, .func (.func 57) #[] #[]] w fun e w' => e = .returned (.int .i64 ((i + spn xD (u.data.toList.drop i) : Nat) : Int)) ∧ w' = w := by
  have hll := x_len u
  obtain ⟨n, hn⟩ : ∃ n, n = spn xD (u.data.toList.drop i) := ⟨_, rfl⟩
  have hnl := spn_len (p := xD) (u.data.toList.drop i)
  rw [← hn, List.length_drop, hll] at hnl
  have HLT : Hid (∀ k, k < n → ∃ c, u.data.toList[i + k]? = some c ∧ xD c = true) := fun k hk => by
    obtain ⟨c, h1, h2⟩ := spn_lt (p := xD) (u.data.toList.drop i) k (by rw [← hn]; exact hk)
    rw [List.getElem?_drop] at h1
    exact ⟨c, h1, h2⟩
  have HEN : Hid (∀ c, u.data.toList[i + n]? = some c → xD c = false) := fun c hc => by
    refine spn_end (p := xD) (u.data.toList.drop i) c ?_
    rw [← hn, List.getElem?_drop]
    exact hc
  rw [← hn]
  clear hn
  have HC := xh isDg
  go_enter Tryz.func54, Tryz.ntmps54
  go_wp2_with fail
  go_loopw [1] (fun p W => ∃ k : Nat, k ≤ n ∧ p = .int .i64 ((i + k : Nat) : Int) ∧ W = w) (fun p _ => u.size - (RowKit.intOf p).toNat)
  case atStart => exact ⟨0, by omega, rfl, rfl⟩
  case round =>
    obtain ⟨k, hk, rfl, rfl⟩ := hrel
    by_cases hlt : k < n
    · obtain ⟨c, h1, h2⟩ := HLT.out k hlt
      obtain ⟨p, hp⟩ : ∃ p, p = i + k := ⟨_, rfl⟩
      have HP := xh hp
      rw [← hp] at h1 ⊢
      obtain ⟨hps, hpc⟩ := x_some h1
      have hpI : (p : Int) < (u.size : Int) := by omega
      have HCC := xh (HC.out u[p])
      rw [hpc, h2, ← hpc] at HCC
      clear h1 h2 hp hpc
      go_wp2_with (first | (go_at_call 57; refine (HCC.out _).mono ?_; rintro e w1 ⟨rfl, rfl⟩) | fail)
      go_roundw
      case rel => exact ⟨k + 1, by omega, by rw [show i + (k + 1) = p + 1 from by rw [HP.out]; omega]; go_num, by first | trivial | rfl⟩
      case measure => simp [RowKit.intOf]; omega
    · obtain rfl : k = n := by omega
      obtain ⟨p, hp⟩ : ∃ p, p = i + k := ⟨_, rfl⟩
      have HEN' := HEN.out
      rw [← hp] at HEN' ⊢
      have HE2 := xh HEN'
      have HP := xh hp
      have hdl : p ≤ u.size := by omega
      clear HEN' HEN HLT hp
      by_cases hpe : p = u.size
      · subst hpe
        go_wp2
        go_ret
        exact ⟨by rw [← HP.out]; rfl, rfl⟩
      · have hps : p < u.size := by omega
        have hpI : (p : Int) < (u.size : Int) := by omega
        have hnd := HE2.out u[p] (x_get u p hps)
        have HCC := xh (HC.out u[p])
        rw [hnd] at HCC
        go_wp2_with (first | (go_at_call 57; refine (HCC.out _).mono ?_; rintro e w1 ⟨rfl, rfl⟩) | fail)
        go_ret
        exact ⟨by rw [← HP.out]; rfl, rfl⟩
theorem u8_back (c : UInt8) : ((c.toNat : Int)).toNat.toUInt8 = c := by rw [Int.toNat_natCast]; simp
theorem ibB (c : UInt8) (w : World) : Calls Tryz.prog 50 #[.string ⟨#[32, 9, 10, 13]⟩, .int .u8 (c.toNat : Int)] w fun e w' => (∃ x : Int, e = .returned (.int .i64 x) ∧ (0 ≤ x ↔ xB c = true)) ∧ w' = w := by
  refine (Any.strings_IndexByte Tryz.laysIndexByte ⟨#[32, 9, 10, 13]⟩ (c.toNat : Int) w).mono ?_
  rintro e w' ⟨he, hw⟩
  refine ⟨⟨_, he, ?_⟩, hw⟩
  rw [u8_back]
  exact ib_blank c
theorem ibL (u : ByteArray) (w : World) : Calls Tryz.prog 50 #[.string u, .int .u8 10] w fun e w' => e = .returned (.int .i64 (Lib.indexByte u.data.toList 10)) ∧ w' = w :=
  Any.strings_IndexByte Tryz.laysIndexByte u 10 w
theorem hpX (u p : ByteArray) (w : World) : Calls Tryz.prog 51 #[.string u, .string p] w fun e w' => e = .returned (.bool (Lib.hasPrefix u.data.toList p.data.toList)) ∧ w' = w :=
  Any.strings_HasPrefix Tryz.laysHasPrefix u p w
end
open Go.RowKit

theorem x_tail (u : ByteArray) (i : Nat) : (u.extract i u.size).data.toList = u.data.toList.drop i := by
  rw [ByteArray.data_extract, Array.toList_extract, List.extract_eq_take_drop]
  apply List.take_of_length_le
  rw [List.length_drop, x_len]
  omega
theorem q_eq (c d : UInt8) : (d == c) = decide (c.toNat = d.toNat) := by
  rw [Bool.eq_iff_iff]; simp; exact ⟨fun h => by rw [h], fun h => UInt8.toNat_inj.1 h.symm⟩
theorem hp47 (c : UInt8) (t : List UInt8) : Lib.hasPrefix (c :: t) (⟨#[47, 47]⟩ : ByteArray).data.toList = (decide (c.toNat = 47) && sl1 t) := by
  cases t with
  | nil =>
    show ((47 : UInt8) == c && false) = _
    simp [sl1]
  | cons d t =>
    show ((47 : UInt8) == c && ((47 : UInt8) == d && true)) = _
    rw [q_eq, q_eq, Bool.and_true]
    rfl
set_option maxRecDepth 100000 in
set_option maxHeartbeats 1000000 in
theorem eol_any (u : ByteArray) (hs : u.size ≤ 4611686018427387904) (i : Nat) (hi : i ≤ u.size) (w : World) : Calls Tryz.prog 52 #[.string u, .int .i64 i] w fun e w' => (∃ m : Nat, e = .returned (.int .i64 m) ∧ m ≤ u.size ∧ skc u.data.toList i = skp u.data.toList m ∧ ((∃ c, u.data.toList[i]? = some c ∧ ¬ c.toNat = 10) → i < m)) ∧ w' = w := by
  have hiI : (i : Int) ≤ (u.size : Int) := by omega
  have HB := xh (ibL (u.extract i u.size))
  rw [x_tail] at HB
  have hll := x_len u
  rcases Int.lt_or_le (Lib.indexByte (u.data.toList.drop i) 10) 0 with hx | hx
  · have HN := xh (skc_none (l := u.data.toList) (i := i) (by omega) hx)
    generalize Lib.indexByte (u.data.toList.drop i) 10 = x at HB hx
    have hx2 : ¬ (0 : Int) ≤ x := by omega
    go_enter Tryz.func52, Tryz.ntmps52
    go_wp2_with (first | (go_at_call 50; refine (HB.out _).mono ?_; rintro e w1 ⟨rfl, rfl⟩) | fail)
    go_ret
    exact ⟨⟨u.size, rfl, Nat.le_refl _, by rw [HN.out, hll], fun ⟨c, hc, _⟩ => by
      have := (List.getElem?_eq_some_iff.1 hc).1
      omega⟩, rfl⟩
  · obtain ⟨n, hn⟩ := Int.eq_ofNat_of_zero_le hx
    obtain ⟨h1, h2⟩ := skc_some (l := u.data.toList) (i := i) hn
    have HN := xh h2
    have HP : Hid ((∃ c, u.data.toList[i]? = some c ∧ ¬ c.toNat = 10) → i < i + n) := fun ⟨c, hc, h10⟩ => by
      rcases Nat.eq_zero_or_pos n with h0 | h0
      · exfalso
        subst h0
        rw [drop_at hc] at hn
        have hne : ¬ c = 10 := fun e => h10 (by rw [e]; rfl)
        have hg := Lib.indexByte_ge (List.drop (i + 1) u.data.toList) 10
        simp [Lib.indexByte, hne] at hn
        split at hn <;> omega
      · omega
    rw [hn] at HB
    rw [hll] at h1
    clear hx hn h2
    go_enter Tryz.func52, Tryz.ntmps52
    go_wp2_with (first | (go_at_call 50; refine (HB.out _).mono ?_; rintro e w1 ⟨rfl, rfl⟩) | fail)
    go_ret
    exact ⟨⟨i + n, by first | rfl | (congr 2; go_num), by omega, HN.out, HP.out⟩, rfl⟩
set_option maxRecDepth 100000 in
set_option maxHeartbeats 1000000 in
theorem ab_any (u : ByteArray) (hs : u.size ≤ 4611686018427387904) (i : Nat) (hi : i ≤ u.size) (w : World) : Calls Tryz.prog 30 #[.string u, .int .i64 i] w fun e w' => e = .returned (.int .i64 (skp u.data.toList i : Nat)) ∧ w' = w := by
  have hll := x_len u
  obtain ⟨E, hE⟩ : ∃ E, E = skp u.data.toList i := ⟨_, rfl⟩
  rw [← hE]
  have HE := xh hE
  clear hE
  go_enter Tryz.func30, Tryz.ntmps30
  go_wp2_with fail
  go_loopw [1] (fun p W => ∃ k : Nat, k ≤ u.size ∧ p = .int .i64 (k : Int) ∧ E = skp u.data.toList k ∧ W = w) (fun p _ => u.size - (RowKit.intOf p).toNat)
  case atStart => exact ⟨i, hi, rfl, HE.out, rfl⟩
  case round =>
    obtain ⟨k, hk, rfl, hkE, rfl⟩ := hrel
    have HK := xh hkE
    clear hkE HE
    by_cases hlt : k < u.size
    · have hltI : (k : Int) < (u.size : Int) := by omega
      have hleI : (k : Int) ≤ (u.size : Int) := by omega
      have HGT := xh (x_get u k hlt)
      have HB1 := xh (ibB u[k])
      cases hb : xB u[k] with
      | true =>
        rw [hb] at HB1
        go_wp2_with (first | (go_at_call 50; refine (HB1.out _).mono ?_; rintro e w1 ⟨⟨x, rfl, hx⟩, rfl⟩; have hx0 : (0 : Int) ≤ x := hx.2 rfl; clear hx) | fail)
        go_roundw
        case rel => exact ⟨k + 1, by omega, by go_num, by rw [HK.out]; exact skp_blank HGT.out hb, by first | trivial | rfl⟩
        case measure => simp [RowKit.intOf]; omega
      | false =>
        rw [hb] at HB1
        have HPX := xh (hpX (u.extract k u.size) ⟨#[47, 47]⟩)
        rw [x_tail] at HPX
        have hpd : Lib.hasPrefix (u.data.toList.drop k) (⟨#[47, 47]⟩ : ByteArray).data.toList = (decide (u[k].toNat = 47) && sl1 (u.data.toList.drop (k + 1))) := by
          rw [drop_at HGT.out]
          exact hp47 _ _
        rw [hpd] at HPX
        clear hpd
        cases hcm : (decide (u[k].toNat = 47) && sl1 (u.data.toList.drop (k + 1))) with
        | true =>
          rw [hcm] at HPX
          rw [Bool.and_eq_true] at hcm
          have h47 : u[k].toNat = 47 := of_decide_eq_true hcm.1
          obtain ⟨d, hd1, hd2⟩ := sl1_at hcm.2
          have HCM := xh (skp_com HGT.out h47 hd1 hd2)
          have HEL := xh (eol_any u hs k hk)
          have H47 := xh h47
          clear hcm hd1 hd2 h47
          go_wp2_with (first | (go_at_call 50; refine (HB1.out _).mono ?_; rintro e w1 ⟨⟨x, rfl, hx⟩, rfl⟩; have hx0 : ¬ (0 : Int) ≤ x := fun h => (by simpa using hx.1 h); clear hx) | (go_at_call 51; refine (HPX.out _).mono ?_; rintro e w1 ⟨rfl, rfl⟩) | (go_at_call 52; refine (HEL.out _).mono ?_; rintro e w1 ⟨⟨m, rfl, hm1, hm2, hm3⟩, rfl⟩; have HM2 := xh hm2; have HM3 := xh hm3; clear hm2 hm3) | fail)
          have hlm : k < m := HM3.out ⟨_, HGT.out, by rw [H47.out]; decide⟩
          go_roundw
          case rel => exact ⟨m, hm1, rfl, by rw [HK.out, HCM.out, HM2.out], by first | trivial | rfl⟩
          case measure => simp [RowKit.intOf]; omega
        | false =>
          rw [hcm] at HPX
          have HST : Hid (E = k) := by
            have hq : E = k := HK.out.trans (skp_stop HGT.out hb (fun h => by rw [h.2] at hcm; simp [h.1] at hcm))
            exact hq
          clear hcm
          go_wp2_with (first | (go_at_call 50; refine (HB1.out _).mono ?_; rintro e w1 ⟨⟨x, rfl, hx⟩, rfl⟩; have hx0 : ¬ (0 : Int) ≤ x := fun h => (by simpa using hx.1 h); clear hx) | (go_at_call 51; refine (HPX.out _).mono ?_; rintro e w1 ⟨rfl, rfl⟩) | fail)
          go_ret
          exact ⟨by rw [HST.out]; rfl, rfl⟩
    · have hke : k = u.size := by omega
      have hltI : ¬ (k : Int) < (u.size : Int) := by omega
      have HST : Hid (E = k) := HK.out.trans (skp_end (by omega))
      clear hke
      go_wp2
      go_ret
      exact ⟨by rw [HST.out]; rfl, rfl⟩
/-- The byte at a place; 0 behind the end. -/
def bAt (l : List UInt8) (i : Nat) : UInt8 := (l[i]?).getD 0
theorem bAt_some {l : List UInt8} {i : Nat} {c : UInt8} (h : l[i]? = some c) : bAt l i = c := by unfold bAt; rw [h]; rfl
theorem bAt_none {l : List UInt8} {i : Nat} (h : l.length ≤ i) : bAt l i = 0 := by unfold bAt; rw [List.getElem?_eq_none_iff.2 h]; rfl
end
open Go.RowKit

theorem ix_str (t n k : Nat) (cs : Array Value) (s : ByteArray) (h : Tryz.prog.underlying t = some (.array n 9)) (hk : k < n) (hv : cs[k]? = some (.string s)) (w : World) : (Instr.index t (.agg cs) (.int .i64 (k : Int))).run Tryz.prog w = .ok (.string s) w := by
  have h1 : (0 : Int) ≤ (k : Int) ∧ (k : Int) < (n : Int) := by omega
  have hz : (sizeOf 9).run Tryz.prog w = .ok 1 w := by kernel_rfl
  simp only [Instr.index, asIntOf, Sem.run_bind, Sem.run_pure, Result.andThen_ok, run_underlying h, if_pos h1, hz]
  rw [Nat.mul_one, Int.toNat_natCast]
  exact run_part_plain _ (by kernel_rfl) hv
def mkL : List (List UInt8) := [[46, 46], [60, 62], [60, 61], [62, 61], [40], [41], [91], [93], [123], [125], [44], [59], [58], [46], [42], [43], [45], [47], [37], [61], [60], [62]]
def m1L : List Nat := [40, 41, 91, 93, 123, 125, 44, 59, 58, 46, 42, 43, 45, 47, 37, 61, 60, 62]
/-- The tables. -/
structure Lxe (w : World) : Prop where
  e : Env w
  sw : w.var? Tryz.prog "trellis/syntax.words" = some (wdL.map fun x => Value.string (sU x)).toArray
  sm : w.var? Tryz.prog "trellis/syntax.marks" = some (mkL.map fun x => Value.string (sU x)).toArray
theorem Lxe.G {w w' : World} (h : Lxe w) (g : G w w') : Lxe w' := ⟨h.e.G g, var_G g h.sw, var_G g h.sm⟩
theorem tab_cell {w : World} {n : String} {b : Nat} {l : List Value} (hg : Tryz.prog.globalNamed n = some b) (h : w.var? Tryz.prog n = some l.toArray) (j : Nat) : w.cell? ⟨b, j, none⟩ = l[j]? := by
  have := World.var?_cell hg h j
  simpa using this
theorem s_eq (x : List UInt8) (u : ByteArray) : ((sU x).toList == u.toList) = (x == u.data.toList) := by
  rw [ByteArray.toList_eq, ByteArray.toList_eq, sU_list]
theorem wd_yes {l : List UInt8} {k : Nat} {x : List UInt8} (h : wdL[k]? = some x) (e : (x == l) = true) : wdB l = true := by
  unfold wdB
  rw [List.any_eq_true]
  exact ⟨x, List.mem_of_getElem? h, e⟩
theorem wd_no {l : List UInt8} (h : ∀ j x, j < 37 → wdL[j]? = some x → (x == l) = false) : wdB l = false := by
  unfold wdB
  rw [List.any_eq_false]
  intro x hx
  obtain ⟨j, hj⟩ := List.getElem?_of_mem hx
  have hl := (List.getElem?_eq_some_iff.1 hj).1
  rw [h j x hl hj]
  exact Bool.false_ne_true
theorem wd_at (k : Nat) (h : k < 37) : ∃ x, wdL[k]? = some x := ⟨_, List.getElem?_eq_getElem (show k < wdL.length from h)⟩
set_option maxRecDepth 100000 in
set_option maxHeartbeats 1000000 in
theorem iw_any (u : ByteArray) (w : World) (hE : Lxe w) : Calls Tryz.prog 56 #[.string u] w fun e w' => e = .returned (.bool (wdB u.data.toList)) ∧ w' = w := by
  obtain ⟨cs, hcs⟩ : ∃ cs, cs = wdL.map fun x => Value.string (sU x) := ⟨_, rfl⟩
  have hr : w.rangeAt 1 0 cs := fun j v hv => by rw [Nat.zero_add, tab_cell (by kernel_rfl) hE.sw j, ← hcs]; exact hv
  have hln : cs.length = 37 := by rw [hcs, List.length_map]; rfl
  have hi : (Tryz.prog.info? 137).map (·.size) = some cs.length := by rw [hln]; kernel_rfl
  have HIX : Hid (∀ (k : Nat) (x : List UInt8), wdL[k]? = some x → k < 37 → ∀ w, (Instr.index 137 (.agg cs.toArray) (.int .i64 (k : Int))).run Tryz.prog w = .ok (.string (sU x)) w) := fun k x hx hk w => ix_str 137 37 k _ _ (by kernel_rfl) hk (by rw [hcs]; simp [hx]) w
  clear hE hln hcs
  go_enter Tryz.func56, Tryz.ntmps56
  go_wp2_with (first | (refine wpList_load_mid rfl 137 _ rfl 1 0 rfl cs _ hr Tryz.underlying137 rfl hi ?_) | fail)
  generalize Value.agg cs.toArray = AG at HIX ⊢
  clear hr hi
  go_loopw [6] (fun p W => ∃ k : Nat, k ≤ 37 ∧ p = .int .i64 (k : Int) ∧ (∀ j x, j < k → wdL[j]? = some x → (x == u.data.toList) = false) ∧ W = w) (fun p _ => 37 - (RowKit.intOf p).toNat)
  case atStart => exact ⟨0, by omega, rfl, fun j _ h => absurd h (Nat.not_lt_zero j), rfl⟩
  case round =>
    obtain ⟨k, hk, rfl, hno, rfl⟩ := hrel
    have HNO := xh hno
    clear hno
    by_cases hlt : k < 37
    · have hltI : (k : Int) < 37 := by omega
      obtain ⟨x, hx⟩ := wd_at k hlt
      have hix := HIX.out k x hx hlt
      have HX := xh hx
      have hse := s_eq x u
      clear hx
      cases hb : (x == u.data.toList) with
      | true =>
        rw [hb] at hse
        have HB := xh (wd_yes HX.out hb)
        clear hb
        go_wp2
        go_ret
        exact ⟨by rw [HB.out]; rfl, rfl⟩
      | false =>
        rw [hb] at hse
        go_wp2
        go_roundw
        case rel => exact ⟨k + 1, by omega, by go_num, fun j y hj hy => (Nat.lt_succ_iff_lt_or_eq.1 hj).elim (fun h => HNO.out j y h hy) (fun h => by subst h; rw [HX.out] at hy; cases hy; exact hb), by first | trivial | rfl⟩
        case measure => simp [RowKit.intOf]; omega
    · obtain rfl : k = 37 := by omega
      have HB := xh (wd_no HNO.out)
      go_wp2
      go_ret
      exact ⟨by rw [HB.out]; rfl, rfl⟩
/-- The kind of a mark that a text begins with. -/
def kmF (l : List UInt8) : Int := if mk2 l then 8 else if (match l with | [] => false | c :: _ => mk1 c) then 6 else 0
theorem pf_one (c : UInt8) (t : List UInt8) (d : UInt8) : Lib.hasPrefix (c :: t) [d] = decide (c.toNat = d.toNat) := by
  show ((d == c) && true) = _
  rw [q_eq, Bool.and_true]
theorem pf_two (c : UInt8) (t : List UInt8) (d e : UInt8) : Lib.hasPrefix (c :: t) [d, e] = (decide (c.toNat = d.toNat) && Lib.hasPrefix t [e]) := by
  show ((d == c) && _) = _
  rw [q_eq]; rfl
theorem pf_nil (e : UInt8) (t : List UInt8) : Lib.hasPrefix [] (e :: t) = false := rfl
theorem mk1_or (c : UInt8) (t : List UInt8) : mk1 c = (Lib.hasPrefix (c :: t) [40] || Lib.hasPrefix (c :: t) [41] || Lib.hasPrefix (c :: t) [91] || Lib.hasPrefix (c :: t) [93] || Lib.hasPrefix (c :: t) [123] || Lib.hasPrefix (c :: t) [125] || Lib.hasPrefix (c :: t) [44] || Lib.hasPrefix (c :: t) [59] || Lib.hasPrefix (c :: t) [58] || Lib.hasPrefix (c :: t) [46] || Lib.hasPrefix (c :: t) [42] || Lib.hasPrefix (c :: t) [43] || Lib.hasPrefix (c :: t) [45] || Lib.hasPrefix (c :: t) [47] || Lib.hasPrefix (c :: t) [37] || Lib.hasPrefix (c :: t) [61] || Lib.hasPrefix (c :: t) [60] || Lib.hasPrefix (c :: t) [62]) := by
  simp only [pf_one, mk1, List.any_cons, List.any_nil, Bool.or_false]
  have e : ∀ n : Nat, (n == c.toNat) = decide (c.toNat = n) := fun n => by rw [Bool.eq_iff_iff]; simp; exact eq_comm
  simp only [e, Bool.or_assoc]
  rfl
theorem mk2_or (c : UInt8) (t : List UInt8) : mk2 (c :: t) = (Lib.hasPrefix (c :: t) [46, 46] || Lib.hasPrefix (c :: t) [60, 62] || Lib.hasPrefix (c :: t) [60, 61] || Lib.hasPrefix (c :: t) [62, 61]) := by
  simp only [pf_two]
  have k1 : (46 : UInt8).toNat = 46 := rfl
  have k2 : (60 : UInt8).toNat = 60 := rfl
  have k3 : (62 : UInt8).toNat = 62 := rfl
  have k4 : (61 : UInt8).toNat = 61 := rfl
  cases t with
  | nil => simp [mk2, pf_nil]
  | cons d t =>
    simp only [pf_one, mk2, k1, k2, k3, k4]
    rw [Bool.eq_iff_iff]
    simp only [decide_eq_true_eq, Bool.or_eq_true, Bool.and_eq_true]
    omega
def pfx (c : UInt8) (t : List UInt8) (k : Nat) : Bool := Lib.hasPrefix (c :: t) (mkL.getD k [])
theorem km_eq (c : UInt8) (t : List UInt8) : kmF (c :: t) = if (pfx c t 0 || pfx c t 1 || pfx c t 2 || pfx c t 3) then 8 else if (pfx c t 4 || pfx c t 5 || pfx c t 6 || pfx c t 7 || pfx c t 8 || pfx c t 9 || pfx c t 10 || pfx c t 11 || pfx c t 12 || pfx c t 13 || pfx c t 14 || pfx c t 15 || pfx c t 16 || pfx c t 17 || pfx c t 18 || pfx c t 19 || pfx c t 20 || pfx c t 21) then 6 else 0 := by
  unfold kmF
  rw [mk2_or]
  simp only [mk1_or c t]
  rfl
theorem km_found {c : UInt8} {t : List UInt8} (k : Nat) (hk : k < 22) (h : ∀ j, j < k → pfx c t j = false) (hy : pfx c t k = true) : kmF (c :: t) = if k < 4 then 8 else 6 := by
  rw [km_eq]
  have hc : k = 0 ∨ k = 1 ∨ k = 2 ∨ k = 3 ∨ k = 4 ∨ k = 5 ∨ k = 6 ∨ k = 7 ∨ k = 8 ∨ k = 9 ∨ k = 10 ∨ k = 11 ∨ k = 12 ∨ k = 13 ∨ k = 14 ∨ k = 15 ∨ k = 16 ∨ k = 17 ∨ k = 18 ∨ k = 19 ∨ k = 20 ∨ k = 21 := by omega
  rcases hc with rfl | rfl | rfl | rfl | rfl | rfl | rfl | rfl | rfl | rfl | rfl | rfl | rfl | rfl | rfl | rfl | rfl | rfl | rfl | rfl | rfl | rfl
  · simp [hy]
  · simp [hy, h 0 (by omega)]
  · simp [hy, h 0 (by omega), h 1 (by omega)]
  · simp [hy, h 0 (by omega), h 1 (by omega), h 2 (by omega)]
  · simp [hy, h 0 (by omega), h 1 (by omega), h 2 (by omega), h 3 (by omega)]
  · simp [hy, h 0 (by omega), h 1 (by omega), h 2 (by omega), h 3 (by omega), h 4 (by omega)]
  · simp [hy, h 0 (by omega), h 1 (by omega), h 2 (by omega), h 3 (by omega), h 4 (by omega), h 5 (by omega)]
  · simp [hy, h 0 (by omega), h 1 (by omega), h 2 (by omega), h 3 (by omega), h 4 (by omega), h 5 (by omega), h 6 (by omega)]
  · simp [hy, h 0 (by omega), h 1 (by omega), h 2 (by omega), h 3 (by omega), h 4 (by omega), h 5 (by omega), h 6 (by omega), h 7 (by omega)]
  · simp [hy, h 0 (by omega), h 1 (by omega), h 2 (by omega), h 3 (by omega), h 4 (by omega), h 5 (by omega), h 6 (by omega), h 7 (by omega), h 8 (by omega)]
  · simp [hy, h 0 (by omega), h 1 (by omega), h 2 (by omega), h 3 (by omega), h 4 (by omega), h 5 (by omega), h 6 (by omega), h 7 (by omega), h 8 (by omega), h 9 (by omega)]
  · simp [hy, h 0 (by omega), h 1 (by omega), h 2 (by omega), h 3 (by omega), h 4 (by omega), h 5 (by omega), h 6 (by omega), h 7 (by omega), h 8 (by omega), h 9 (by omega), h 10 (by omega)]
  · simp [hy, h 0 (by omega), h 1 (by omega), h 2 (by omega), h 3 (by omega), h 4 (by omega), h 5 (by omega), h 6 (by omega), h 7 (by omega), h 8 (by omega), h 9 (by omega), h 10 (by omega), h 11 (by omega)]
  · simp [hy, h 0 (by omega), h 1 (by omega), h 2 (by omega), h 3 (by omega), h 4 (by omega), h 5 (by omega), h 6 (by omega), h 7 (by omega), h 8 (by omega), h 9 (by omega), h 10 (by omega), h 11 (by omega), h 12 (by omega)]
  · simp [hy, h 0 (by omega), h 1 (by omega), h 2 (by omega), h 3 (by omega), h 4 (by omega), h 5 (by omega), h 6 (by omega), h 7 (by omega), h 8 (by omega), h 9 (by omega), h 10 (by omega), h 11 (by omega), h 12 (by omega), h 13 (by omega)]
  · simp [hy, h 0 (by omega), h 1 (by omega), h 2 (by omega), h 3 (by omega), h 4 (by omega), h 5 (by omega), h 6 (by omega), h 7 (by omega), h 8 (by omega), h 9 (by omega), h 10 (by omega), h 11 (by omega), h 12 (by omega), h 13 (by omega), h 14 (by omega)]
  · simp [hy, h 0 (by omega), h 1 (by omega), h 2 (by omega), h 3 (by omega), h 4 (by omega), h 5 (by omega), h 6 (by omega), h 7 (by omega), h 8 (by omega), h 9 (by omega), h 10 (by omega), h 11 (by omega), h 12 (by omega), h 13 (by omega), h 14 (by omega), h 15 (by omega)]
  · simp [hy, h 0 (by omega), h 1 (by omega), h 2 (by omega), h 3 (by omega), h 4 (by omega), h 5 (by omega), h 6 (by omega), h 7 (by omega), h 8 (by omega), h 9 (by omega), h 10 (by omega), h 11 (by omega), h 12 (by omega), h 13 (by omega), h 14 (by omega), h 15 (by omega), h 16 (by omega)]
  · simp [hy, h 0 (by omega), h 1 (by omega), h 2 (by omega), h 3 (by omega), h 4 (by omega), h 5 (by omega), h 6 (by omega), h 7 (by omega), h 8 (by omega), h 9 (by omega), h 10 (by omega), h 11 (by omega), h 12 (by omega), h 13 (by omega), h 14 (by omega), h 15 (by omega), h 16 (by omega), h 17 (by omega)]
  · simp [hy, h 0 (by omega), h 1 (by omega), h 2 (by omega), h 3 (by omega), h 4 (by omega), h 5 (by omega), h 6 (by omega), h 7 (by omega), h 8 (by omega), h 9 (by omega), h 10 (by omega), h 11 (by omega), h 12 (by omega), h 13 (by omega), h 14 (by omega), h 15 (by omega), h 16 (by omega), h 17 (by omega), h 18 (by omega)]
  · simp [hy, h 0 (by omega), h 1 (by omega), h 2 (by omega), h 3 (by omega), h 4 (by omega), h 5 (by omega), h 6 (by omega), h 7 (by omega), h 8 (by omega), h 9 (by omega), h 10 (by omega), h 11 (by omega), h 12 (by omega), h 13 (by omega), h 14 (by omega), h 15 (by omega), h 16 (by omega), h 17 (by omega), h 18 (by omega), h 19 (by omega)]
  · simp [hy, h 0 (by omega), h 1 (by omega), h 2 (by omega), h 3 (by omega), h 4 (by omega), h 5 (by omega), h 6 (by omega), h 7 (by omega), h 8 (by omega), h 9 (by omega), h 10 (by omega), h 11 (by omega), h 12 (by omega), h 13 (by omega), h 14 (by omega), h 15 (by omega), h 16 (by omega), h 17 (by omega), h 18 (by omega), h 19 (by omega), h 20 (by omega)]
theorem km_none {c : UInt8} {t : List UInt8} (h : ∀ j, j < 22 → pfx c t j = false) : kmF (c :: t) = 0 := by
  rw [km_eq]
  simp [h 0 (by omega), h 1 (by omega), h 2 (by omega), h 3 (by omega), h 4 (by omega), h 5 (by omega), h 6 (by omega), h 7 (by omega), h 8 (by omega), h 9 (by omega), h 10 (by omega), h 11 (by omega), h 12 (by omega), h 13 (by omega), h 14 (by omega), h 15 (by omega), h 16 (by omega), h 17 (by omega), h 18 (by omega), h 19 (by omega), h 20 (by omega), h 21 (by omega)]
theorem mk_at (k : Nat) (h : k < 22) : ∃ x, mkL[k]? = some x ∧ mkL.getD k [] = x ∧ x.length = if k < 4 then 2 else 1 := by
  have hc : k = 0 ∨ k = 1 ∨ k = 2 ∨ k = 3 ∨ k = 4 ∨ k = 5 ∨ k = 6 ∨ k = 7 ∨ k = 8 ∨ k = 9 ∨ k = 10 ∨ k = 11 ∨ k = 12 ∨ k = 13 ∨ k = 14 ∨ k = 15 ∨ k = 16 ∨ k = 17 ∨ k = 18 ∨ k = 19 ∨ k = 20 ∨ k = 21 := by omega
  rcases hc with rfl | rfl | rfl | rfl | rfl | rfl | rfl | rfl | rfl | rfl | rfl | rfl | rfl | rfl | rfl | rfl | rfl | rfl | rfl | rfl | rfl | rfl <;> exact ⟨_, rfl, rfl, rfl⟩
theorem sU_size (l : List UInt8) : (sU l).size = l.length := by simp [sU, ByteArray.size]
set_option maxRecDepth 100000 in
set_option maxHeartbeats 1000000 in
theorem km_any (u : ByteArray) (c : UInt8) (t : List UInt8) (hu : u.data.toList = c :: t) (w : World) (hE : Lxe w) : Calls Tryz.prog 91 #[.string u] w fun e w' => e = .returned (.int .i64 (kmF u.data.toList)) ∧ w' = w := by
  obtain ⟨cs, hcs⟩ : ∃ cs, cs = mkL.map fun x => Value.string (sU x) := ⟨_, rfl⟩
  have hr : w.rangeAt 5 0 cs := fun j v hv => by rw [Nat.zero_add, tab_cell (by kernel_rfl) hE.sm j, ← hcs]; exact hv
  have hln : cs.length = 22 := by rw [hcs, List.length_map]; rfl
  have hi : (Tryz.prog.info? 159).map (·.size) = some cs.length := by rw [hln]; kernel_rfl
  have HIX : Hid (∀ (k : Nat) (x : List UInt8), mkL[k]? = some x → k < 22 → ∀ w, (Instr.index 159 (.agg cs.toArray) (.int .i64 (k : Int))).run Tryz.prog w = .ok (.string (sU x)) w) := fun k x hx hk w => ix_str 159 22 k _ _ (by kernel_rfl) hk (by rw [hcs]; simp [hx]) w
  have HU := xh hu
  rw [hu]
  clear hE hln hcs hu
  go_enter Tryz.func91, Tryz.ntmps91
  go_wp2_with (first | (refine wpList_load_mid rfl 159 _ rfl 5 0 rfl cs _ hr Tryz.underlying159 rfl hi ?_) | fail)
  generalize Value.agg cs.toArray = AG at HIX ⊢
  clear hr hi
  go_loopw [6] (fun p W => ∃ k : Nat, k ≤ 22 ∧ p = .int .i64 (k : Int) ∧ (∀ j, j < k → pfx c t j = false) ∧ W = w) (fun p _ => 22 - (RowKit.intOf p).toNat)
  case atStart => exact ⟨0, by omega, rfl, fun j h => absurd h (Nat.not_lt_zero j), rfl⟩
  case round =>
    obtain ⟨k, hk, rfl, hno, rfl⟩ := hrel
    have HNO := xh hno
    clear hno
    by_cases hlt : k < 22
    · have hltI : (k : Int) < 22 := by omega
      obtain ⟨x, hx, hgd, hxl⟩ := mk_at k hlt
      have hix := HIX.out k x hx hlt
      have hpf : pfx c t k = Lib.hasPrefix (c :: t) x := by unfold pfx; rw [hgd]
      have HPX := xh (hpX u (sU x))
      rw [HU.out, sU_list, ← hpf] at HPX
      have hsz : (sU x).size = if k < 4 then 2 else 1 := by rw [sU_size, hxl]
      clear hx hgd hpf hxl
      cases hb : pfx c t k with
      | true =>
        rw [hb] at HPX
        have hf := km_found k hlt HNO.out hb
        clear hb
        by_cases h4 : k < 4
        · rw [if_pos h4] at hf hsz
          have HB := xh hf
          clear hf h4
          go_wp2_with (first | (go_at_call 51; refine (HPX.out _).mono ?_; rintro e w1 ⟨rfl, rfl⟩) | fail)
          go_ret
          exact ⟨by rw [HB.out]; rfl, rfl⟩
        · rw [if_neg h4] at hf hsz
          have HB := xh hf
          clear hf h4
          go_wp2_with (first | (go_at_call 51; refine (HPX.out _).mono ?_; rintro e w1 ⟨rfl, rfl⟩) | fail)
          go_ret
          exact ⟨by rw [HB.out]; rfl, rfl⟩
      | false =>
        rw [hb] at HPX
        clear hsz
        go_wp2_with (first | (go_at_call 51; refine (HPX.out _).mono ?_; rintro e w1 ⟨rfl, rfl⟩) | fail)
        go_roundw
        case rel => exact ⟨k + 1, by omega, by go_num, fun j hj => (Nat.lt_succ_iff_lt_or_eq.1 hj).elim (fun h => HNO.out j h) (fun h => by subst h; exact hb), by first | trivial | rfl⟩
        case measure => simp [RowKit.intOf]; omega
    · obtain rfl : k = 22 := by omega
      have HB := xh (km_none HNO.out)
      go_wp2
      go_ret
      exact ⟨by rw [HB.out]; rfl, rfl⟩
end
open Go.RowKit

theorem wr1 (i : Nat) (h : i < 4611686018427387904) : IntKind.i64.wrap ((i : Int) + 1) = ((i + 1 : Nat) : Int) := by
  rw [IntKind.wrap_i64]; omega
theorem G.six {a w : World} (g : G a w) (v0 v1 v2 v3 v4 v5 : Value) : G a ((((((w.setCell ⟨a.heap.size, 0, none⟩ v0).setCell ⟨a.heap.size, 1, none⟩ v1).setCell ⟨a.heap.size, 2, none⟩ v2).setCell ⟨a.heap.size, 3, none⟩ v3).setCell ⟨a.heap.size, 4, none⟩ v4).setCell ⟨a.heap.size, 5, none⟩ v5) :=
  (((((g.setCell (Nat.le_refl _) _).setCell (Nat.le_refl _) _).setCell (Nat.le_refl _) _).setCell (Nat.le_refl _) _).setCell (Nat.le_refl _) _).setCell (Nat.le_refl _) _
/-- A Cut, as the document's cut tells it. -/
def cutV (i : Nat) : TkV → Value
  | .bad c o => .agg #[I 0, .string E0, I 0, I 0, I c, I ((i + o : Nat) : Int)]
  | .tok k t m => .agg #[I k, .string t, I i, I m, I 0, I 0]
theorem m1_at (k : Nat) (h : k < 18) : ∃ x, m1L[k]? = some x := ⟨_, List.getElem?_eq_getElem (show k < m1L.length from h)⟩
theorem mk1_L (c : UInt8) : mk1 c = m1L.any fun (x : Nat) => x == c.toNat := rfl
theorem m1_yes {c : UInt8} {k x : Nat} (h : m1L[k]? = some x) (e : x = c.toNat) : mk1 c = true := by
  rw [mk1_L, List.any_eq_true]
  exact ⟨x, List.mem_of_getElem? h, by simp [e]⟩
theorem m1_no {c : UInt8} (h : ∀ j x : Nat, j < 18 → m1L[j]? = some x → x ≠ c.toNat) : mk1 c = false := by
  rw [mk1_L, List.any_eq_false]
  intro x hx
  obtain ⟨j, hj⟩ := List.getElem?_of_mem hx
  have hl := (List.getElem?_eq_some_iff.1 hj).1
  have := h j x hl hj
  simpa using this
theorem m1_lt {k x : Nat} (h : m1L[k]? = some x) : x < 256 := by
  have hm := List.mem_of_getElem? h
  have : ∀ y ∈ m1L, y < 256 := by decide
  exact this x hm
/-- Is it a mark of two bytes? d: the byte behind the first, 0 where there is none. -/
theorem mk2_at {l : List UInt8} {i : Nat} {c : UInt8} (h : l[i]? = some c) : mk2 (l.drop i) = decide ((c.toNat = 46 ∧ (bAt l (i + 1)).toNat = 46) ∨ (c.toNat = 60 ∧ ((bAt l (i + 1)).toNat = 62 ∨ (bAt l (i + 1)).toNat = 61)) ∨ (c.toNat = 62 ∧ (bAt l (i + 1)).toNat = 61)) := by
  rw [drop_at h]
  cases hd : l[i + 1]? with
  | none =>
    rw [bAt_none (List.getElem?_eq_none_iff.1 hd), List.drop_of_length_le (List.getElem?_eq_none_iff.1 hd)]
    simp [mk2]
  | some d =>
    rw [bAt_some hd, drop_at hd]
    rfl
end
open Go.RowKit

theorem xW_zero : xW 0 = false := by decide
theorem xD_zero : xD 0 = false := by decide
theorem xA_zero : xA 0 = false := by decide
theorem spn_bat {p : UInt8 → Bool} (h0 : p 0 = false) (l : List UInt8) (i : Nat) : p (bAt l (i + spn p (l.drop i))) = false := by
  cases hd : l[i + spn p (l.drop i)]? with
  | none => unfold bAt; rw [hd]; exact h0
  | some c =>
    rw [bAt_some hd]
    refine spn_end (p := p) (l.drop i) c ?_
    rw [List.getElem?_drop]
    exact hd
theorem spn_bat_lt {p : UInt8 → Bool} (l : List UInt8) (i k : Nat) (h : k < spn p (l.drop i)) : p (bAt l (i + k)) = true := by
  obtain ⟨c, h1, h2⟩ := spn_lt (p := p) (l.drop i) k h
  rw [List.getElem?_drop] at h1
  rw [bAt_some h1]
  exact h2
/-- The result's cell, while a call is under way. -/
structure Rz (w : World) (t : Nat) (W : World) : Prop where
  g : G w W
  c : ∀ o, W.cell? ⟨w.heap.size, o, none⟩ = [I 0, .string E0, I 0, I 0, I 0, I 0][o]?
  f : ∀ o, W.frozen? ⟨w.heap.size, o, none⟩ = false
  z : w.heap.size < W.heap.size
theorem Rz.new (w : World) (t : Nat) : Rz w t (w.alloc (.cells #[I 0, .string E0, I 0, I 0, I 0, I 0] t)) := ⟨(G.refl w).alloc _, fun o => by simp, fun o => by simp, by simp⟩
theorem Rz.G {w : World} {t : Nat} {W W' : World} (h : Rz w t W) (g : G W W') : Rz w t W' := ⟨h.g.trans g, G.cells g h.c h.z, G.frozens g h.f h.z, Nat.lt_of_lt_of_le h.z g.size⟩
end Go.Proofs.YthpflfkgbapbnaaGreatDoor
