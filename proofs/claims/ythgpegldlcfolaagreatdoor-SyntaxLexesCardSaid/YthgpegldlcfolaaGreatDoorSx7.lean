/- Tokens: the document's numbers. -/
import Derived.Test.YthgpegldlcfolaaGreatDoorSx5
import Derived.Lib.ParseIntBCases
namespace Go.Proofs.YthgpegldlcfolaaGreatDoor
section
open Go.RowKit

def dv (c : UInt8) : Nat := c.toNat - 48
def fd (a : Nat) (l : List UInt8) : Nat := l.foldl (fun a c => a * 10 + (c.toNat - 48)) a
theorem fd_nil (a : Nat) : fd a [] = a := rfl
theorem fd_cons (a : Nat) (c : UInt8) (l : List UInt8) : fd a (c :: l) = fd (a * 10 + dv c) l := by unfold fd dv; rw [List.foldl_cons]
theorem fd_eq (l : List UInt8) : ∀ a, fd a l = a * 10 ^ l.length + decN l := by
  have h : ∀ (l : List UInt8) (a : Nat), fd a l = a * 10 ^ l.length + fd 0 l := by
    intro l
    induction l with
    | nil => intro a; simp [fd]
    | cons c l ih =>
      intro a
      rw [fd_cons, ih, fd_cons, ih (0 * 10 + dv c)]
      rw [List.length_cons, Nat.pow_succ, Nat.zero_mul, Nat.zero_add, Nat.add_mul, Nat.mul_assoc, Nat.mul_comm 10, Nat.add_assoc]
  exact h l
theorem decN_cons (c : UInt8) (l : List UInt8) : decN (c :: l) = dv c * 10 ^ l.length + decN l := by
  show fd 0 (c :: l) = _
  rw [fd_cons, fd_eq, Nat.zero_mul, Nat.zero_add]
def isDs (l : List UInt8) : Prop := ∀ c ∈ l, xD c = true
theorem xD_rng {c : UInt8} (h : xD c = true) : 48 ≤ c.toNat ∧ c.toNat ≤ 57 := of_decide_eq_true h
theorem decN_lt (l : List UInt8) (h : isDs l) : decN l < 10 ^ l.length := by
  induction l with
  | nil => decide
  | cons c l ih =>
    have h1 := xD_rng (h c (by simp))
    have h2 := ih (fun d hd => h d (by simp [hd]))
    rw [decN_cons, List.length_cons, Nat.pow_succ]
    have h3 : dv c ≤ 9 := by unfold dv; omega
    have h4 : dv c * 10 ^ l.length ≤ 9 * 10 ^ l.length := Nat.mul_le_mul_right _ h3
    omega
theorem fd_le (l : List UInt8) : ∀ a, a ≤ fd a l := by
  induction l with
  | nil => intro a; exact Nat.le_refl _
  | cons c l ih => intro a; rw [fd_cons]; have := ih (a * 10 + dv c); omega
theorem pu_fd (l : List UInt8) : ∀ a, isDs l → a ≤ 18446744073709551615 → Lib.parseUintM 18446744073709551615 a l = if fd a l ≤ 18446744073709551615 then .ok (fd a l) else .range := by
  induction l with
  | nil => intro a _ ha; rw [fd_nil, if_pos ha]; rfl
  | cons c l ih =>
    intro a h ha
    have h1 := xD_rng (h c (by simp))
    have h2 : isDs l := fun d hd => h d (by simp [hd])
    have h3 := fd_le l (a * 10 + dv c)
    simp only [Lib.parseUintM]
    rw [if_pos h1, fd_cons]
    by_cases c1 : 1844674407370955162 ≤ a
    · rw [if_pos c1, if_neg (by omega)]
    · rw [if_neg c1]
      show (if 18446744073709551615 < a * 10 + dv c then Lib.NumEnd.range else Lib.parseUintM 18446744073709551615 (a * 10 + dv c) l) = _
      by_cases c2 : 18446744073709551615 < a * 10 + dv c
      · rw [if_pos c2, if_neg (by omega)]
      · rw [if_neg c2]
        exact ih _ h2 (by omega)
theorem pu_dec (l : List UInt8) (h : isDs l) (hne : l ≠ []) : Lib.parseUintB 64 l = if decN l ≤ 18446744073709551615 then .ok (decN l) else .range := by
  unfold Lib.parseUintB
  rw [if_neg hne]
  exact pu_fd l 0 h (by omega)
/-- Zeros ahead count for nothing. -/
theorem decN_zero (l : List UInt8) : decN (48 :: l) = decN l := by
  rw [decN_cons]
  show 0 * _ + _ = _
  omega
theorem dec_long {a b : List UInt8} (ha : isDs a) (hb : isDs b) (h0 : ∀ c t, b = c :: t → ¬ c.toNat = 48) (h : a.length < b.length) : decN a < decN b := by
  cases b with
  | nil => simp at h
  | cons c t =>
    have h1 := decN_lt a ha
    have h2 := xD_rng (hb c (by simp))
    have h3 : 1 ≤ dv c := by have := h0 c t rfl; unfold dv; omega
    rw [decN_cons]
    have h4 : 1 * 10 ^ t.length ≤ dv c * 10 ^ t.length := Nat.mul_le_mul_right _ h3
    have h5 : 10 ^ a.length ≤ 10 ^ t.length := Nat.pow_le_pow_right (by decide) (by simp at h; omega)
    omega
/-- Of equal length: byte by byte. -/
def ltB : List UInt8 → List UInt8 → Bool
  | _, [] => false
  | [], _ :: _ => true
  | a :: r, b :: t => if a.toNat < b.toNat then true else if b.toNat < a.toNat then false else ltB r t
theorem dec_lt (a : List UInt8) : ∀ b : List UInt8, isDs a → isDs b → a.length = b.length → (ltB a b = true ↔ decN a < decN b) := by
  induction a with
  | nil =>
    intro b _ _ hl
    cases b with
    | nil => simp [ltB]
    | cons c t => simp at hl
  | cons c r ih =>
    intro b ha hb hl
    cases b with
    | nil => simp at hl
    | cons d t =>
      have hl' : r.length = t.length := by simpa using hl
      have h1 := xD_rng (ha c (by simp))
      have h2 := xD_rng (hb d (by simp))
      have h3 := decN_lt r (fun x hx => ha x (by simp [hx]))
      have h4 := decN_lt t (fun x hx => hb x (by simp [hx]))
      have h5 := ih t (fun x hx => ha x (by simp [hx])) (fun x hx => hb x (by simp [hx])) hl'
      rw [decN_cons, decN_cons, hl']
      rw [hl'] at h3
      simp only [ltB]
      by_cases c1 : c.toNat < d.toNat
      · rw [if_pos c1]
        have h6 : dv c + 1 ≤ dv d := by unfold dv; omega
        have h7 : (dv c + 1) * 10 ^ t.length ≤ dv d * 10 ^ t.length := Nat.mul_le_mul_right _ h6
        rw [Nat.add_mul] at h7
        exact ⟨fun _ => by omega, fun _ => rfl⟩
      · rw [if_neg c1]
        by_cases c2 : d.toNat < c.toNat
        · rw [if_pos c2]
          have h6 : dv d + 1 ≤ dv c := by unfold dv; omega
          have h7 : (dv d + 1) * 10 ^ t.length ≤ dv c * 10 ^ t.length := Nat.mul_le_mul_right _ h6
          rw [Nat.add_mul] at h7
          exact ⟨fun h => (by cases h), fun h => by omega⟩
        · rw [if_neg c2, h5]
          have : dv c = dv d := by unfold dv; omega
          rw [this]
          omega
/-- The bytes without the zeros ahead. -/
def nz0 (l : List UInt8) : List UInt8 := l.dropWhile fun c => decide (c.toNat = 48)
theorem nz0_dec (l : List UInt8) : decN (nz0 l) = decN l := by
  induction l with
  | nil => rfl
  | cons c l ih =>
    unfold nz0
    rw [List.dropWhile_cons]
    by_cases h : c.toNat = 48
    · rw [if_pos (by simp [h])]
      have : c = 48 := UInt8.toNat_inj.1 h
      subst this
      rw [decN_zero]; exact ih
    · rw [if_neg (by simp [h])]
theorem nz0_ds {l : List UInt8} (h : isDs l) : isDs (nz0 l) := fun c hc => h c ((List.dropWhile_suffix _).subset hc)
theorem nz0_head (l : List UInt8) : ∀ c t, nz0 l = c :: t → ¬ c.toNat = 48 := by
  induction l with
  | nil => intro c t h; cases h
  | cons d l ih =>
    intro c t h
    unfold nz0 at h
    rw [List.dropWhile_cons] at h
    by_cases hd : d.toNat = 48
    · rw [if_pos (by simp [hd])] at h; exact ih c t h
    · rw [if_neg (by simp [hd])] at h; cases h; exact hd
/-- Above: by length, then byte by byte. -/
def abB (d t : List UInt8) : Bool := if (nz0 d).length = t.length then ltB t (nz0 d) else decide (t.length < (nz0 d).length)
theorem ab_dec {d t : List UInt8} (hd : isDs d) (ht : isDs t) (h0 : ∀ c r, t = c :: r → ¬ c.toNat = 48) : abB d t = decide (decN t < decN d) := by
  unfold abB
  rw [Bool.eq_iff_iff, decide_eq_true_eq, ← nz0_dec d]
  have h1 := nz0_ds hd
  by_cases hl : (nz0 d).length = t.length
  · rw [if_pos hl]
    exact dec_lt t (nz0 d) ht h1 hl.symm
  · rw [if_neg hl, decide_eq_true_eq]
    refine ⟨fun h => dec_long ht h1 (nz0_head d) h, fun h => ?_⟩
    rcases Nat.lt_or_ge t.length (nz0 d).length with h2 | h2
    · exact h2
    · have := dec_long h1 ht h0 (by omega)
      omega
theorem gt_ltB (a : List UInt8) : ∀ b : List UInt8, (!Op.bytesLess a b && !a == b) = ltB b a := by
  induction a with
  | nil => intro b; cases b <;> simp [Op.bytesLess, ltB]
  | cons c r ih =>
    intro b
    cases b with
    | nil => simp [Op.bytesLess, ltB]
    | cons d t =>
      have h := ih t
      simp only [Op.bytesLess, ltB]
      by_cases c1 : d.toNat < c.toNat
      · have n1 : ¬ c < d := fun h => by have := UInt8.lt_iff_toNat_lt.1 h; omega
        have n2 : ¬ c = d := fun h => by rw [h] at c1; omega
        simp [c1, n1, n2]
      · by_cases c2 : c.toNat < d.toNat
        · have n1 : c < d := UInt8.lt_iff_toNat_lt.2 c2
          simp [c1, c2, n1]
        · have e : c = d := UInt8.toNat_inj.1 (by omega)
          subst e
          rw [if_neg (by omega), if_neg (by omega), ← h]
          simp
end
open Go.RowKit

def vsz : Value → Nat
  | .string s => s.size
  | _ => 0
theorem nz0_z {c : UInt8} (r : List UInt8) (h : c.toNat = 48) : nz0 (c :: r) = nz0 r := by
  unfold nz0; rw [List.dropWhile_cons, if_pos (by simp [h])]
theorem nz0_n {c : UInt8} (r : List UInt8) (h : ¬ c.toNat = 48) : nz0 (c :: r) = c :: r := by
  unfold nz0; rw [List.dropWhile_cons, if_neg (by simp [h])]
theorem u_cons (d : ByteArray) (h : 0 < d.size) : d.data.toList = d[0] :: (d.extract 1 d.size).data.toList := by
  rw [x_tail]
  have := drop_at (x_get d 0 h)
  rwa [List.drop_zero] at this
theorem u_nil (d : ByteArray) (h : d.size = 0) : d.data.toList = [] := List.eq_nil_of_length_eq_zero (by rw [x_len]; exact h)
set_option maxRecDepth 100000 in
set_option maxHeartbeats 1000000 in
theorem above_any (u t : ByteArray) (_hs : u.size ≤ 4611686018427387904) (_ht : t.size ≤ 4611686018427387904) (w : World) : Calls Tryz.prog 38 #[.string u, .string t] w fun e w' => e = .returned (.bool (abB u.data.toList t.data.toList)) ∧ w' = w := by
  go_enter Tryz.func38, Tryz.ntmps38
  go_wp2_with fail
  go_loopw [0] (fun p W => ∃ d : ByteArray, p = .string d ∧ d.size ≤ u.size ∧ nz0 d.data.toList = nz0 u.data.toList ∧ W = w) (fun p _ => vsz p)
  case atStart => exact ⟨u, rfl, Nat.le_refl _, rfl, rfl⟩
  case round =>
    obtain ⟨d, rfl, hds, hd, rfl⟩ := hrel
    have HD := xh hd
    clear hd
    by_cases h0 : d.size = 0
    · have HDZ : Hid (nz0 d.data.toList = d.data.toList) := by unfold Hid; rw [u_nil d h0]; rfl
      have h0I : (d.size : Int) = 0 := by omega
      by_cases hl : d.size = t.size
      · have hlI : (d.size : Int) = (t.size : Int) := by omega
        have HR : Hid (abB u.data.toList t.data.toList = ltB t.data.toList d.data.toList) := by
          unfold Hid abB
          rw [← HD.out, HDZ.out, x_len, x_len, if_pos hl]
        clear hl
        go_wp2
        go_ret
        exact ⟨by rw [HR.out, ← gt_ltB, ← ByteArray.toList_eq, ← ByteArray.toList_eq]; rfl, rfl⟩
      · have hlI : ((d.size : Int) == (t.size : Int)) = false := beq_false_of_ne (by omega)
        have hlJ : ((d.size : Int) != (t.size : Int)) = true := by simp [bne, hlI]
        have HR : Hid (abB u.data.toList t.data.toList = decide ((t.size : Int) < (d.size : Int))) := by
          unfold Hid abB
          rw [← HD.out, HDZ.out, x_len, x_len, if_neg hl]
          rw [Bool.eq_iff_iff]; simp
        clear hl
        go_wp2
        go_ret
        exact ⟨by rw [HR.out]; first | rfl | (simp; done) | (simp; omega), rfl⟩
    · have h1 : 0 < d.size := by omega
      have h1I : (0 : Int) < (d.size : Int) := by omega
      by_cases hz : d[0].toNat = 48
      · have hzI : (d[0].toNat : Int) = 48 := by omega
        have hle : (1 : Int) ≤ (d.size : Int) := by omega
        have HN : Hid (nz0 (d.extract 1 d.size).data.toList = nz0 u.data.toList) := by
          rw [← HD.out, u_cons d h1, nz0_z _ hz]; exact rfl
        have HSZ : Hid ((d.extract 1 d.size).size < d.size) := by
          have := congrArg List.length (u_cons d h1)
          rw [x_len, List.length_cons, x_len] at this
          unfold Hid; omega
        clear h0
        go_wp2
        go_roundw
        case rel => exact ⟨_, rfl, by have := HSZ.out; omega, HN.out, by first | trivial | rfl⟩
        case measure => exact HSZ.out
      · have hzI : ((d[0].toNat : Int) == 48) = false := beq_false_of_ne (by omega)
        have HDZ : Hid (nz0 d.data.toList = d.data.toList) := by
          rw [u_cons d h1]; exact nz0_n _ hz
        clear h0
        by_cases hl : d.size = t.size
        · have hlI : (d.size : Int) = (t.size : Int) := by omega
          have HR : Hid (abB u.data.toList t.data.toList = ltB t.data.toList d.data.toList) := by
            unfold Hid abB
            rw [← HD.out, HDZ.out, x_len, x_len, if_pos hl]
          clear hl
          go_wp2
          go_ret
          exact ⟨by rw [HR.out, ← gt_ltB, ← ByteArray.toList_eq, ← ByteArray.toList_eq]; rfl, rfl⟩
        · have hlI : ((d.size : Int) == (t.size : Int)) = false := beq_false_of_ne (by omega)
          have hlJ : ((d.size : Int) != (t.size : Int)) = true := by simp [bne, hlI]
          have HR : Hid (abB u.data.toList t.data.toList = decide ((t.size : Int) < (d.size : Int))) := by
            unfold Hid abB
            rw [← HD.out, HDZ.out, x_len, x_len, if_neg hl]
            rw [Bool.eq_iff_iff]; simp
          clear hl
          go_wp2
          go_ret
          exact ⟨by rw [HR.out]; first | rfl | (simp; done) | (simp; omega), rfl⟩
theorem any_bat {p : UInt8 → Bool} (h0 : p 0 = false) (l : List UInt8) (i : Nat) : (l[i]?).any p = p (bAt l i) := by
  unfold bAt
  cases l[i]? with
  | none => exact h0.symm
  | some c => rfl
theorem im_at (l : List UInt8) (i p : Nat) (hp : p = i + spn xD (l.drop i)) : imB (l.drop i) = (decide ((bAt l p).toNat = 105) && !xW (bAt l (p + 1))) := by
  unfold imB
  rw [List.getElem?_drop, List.getElem?_drop, ← Nat.add_assoc, ← hp, any_bat (by decide), any_bat xW_zero]
theorem decA : decN [57, 50, 50, 51, 51, 55, 50, 48, 51, 54, 56, 53, 52, 55, 55, 53, 56, 48, 56] = 9223372036854775808 := by decide
theorem decB : decN [51, 51, 53, 53, 52, 52, 51, 50] = 33554432 := by decide
theorem tw_mem {p : UInt8 → Bool} : ∀ (l : List UInt8) (c : UInt8), c ∈ l.takeWhile p → p c = true
  | [], c, h => by simp at h
  | d :: l, c, h => by
    rw [List.takeWhile_cons] at h
    cases hp : p d with
    | false => rw [hp] at h; simp at h
    | true =>
      rw [hp] at h
      simp only [if_true, List.mem_cons] at h
      rcases h with rfl | h
      · exact hp
      · exact tw_mem l c h
theorem dsT (l : List UInt8) (i n : Nat) (hn : n = spn xD (l.drop i)) : isDs ((l.drop i).take n) := fun c hc => by
  rw [hn, spn_take] at hc
  exact tw_mem _ c hc
theorem above_dec (u : ByteArray) (hs : u.size ≤ 4611686018427387904) (i n p : Nat) (hp : p = i + n) (hn : n = spn xD (u.data.toList.drop i)) (hpl : p ≤ u.size) (t : List UInt8) (m : Nat) (hm : decN t = m) (ht : isDs t) (h0 : ∀ c r, t = c :: r → ¬ c.toNat = 48) (hts : t.length ≤ 30) (w : World) :
    Calls Tryz.prog 38 #[.string (u.extract i p), .string (sU t)] w fun e w' => e = .returned (.bool (decide (m < decN ((u.data.toList.drop i).take n)))) ∧ w' = w := by
  have hx := x_ext u i n p hp
  have hsz : (u.extract i p).size ≤ 4611686018427387904 := by rw [ByteArray.size_extract]; omega
  refine (above_any (u.extract i p) (sU t) hsz (by rw [sU_size]; omega) w).mono ?_
  rintro e w' ⟨rfl, rfl⟩
  refine ⟨?_, rfl⟩
  rw [hx, sU_list, sU_list, ab_dec (dsT _ i n hn) ht h0, hm]
set_option maxRecDepth 100000 in
set_option maxHeartbeats 1000000 in
theorem rnum_any (u : ByteArray) (hs : u.size ≤ 4611686018427387904) (i : Nat) (hi : i ≤ u.size) (w : World) : Calls Tryz.prog 26 #[.string u, .int .i64 i] w fun e w' => e = .returned (cutV i (nuT (u.data.toList.drop i))) ∧ G w w' := by
  have hll := x_len u
  obtain ⟨n, hn⟩ : ∃ n, n = spn xD (u.data.toList.drop i) := ⟨_, rfl⟩
  have hnl := spn_len (p := xD) (u.data.toList.drop i)
  rw [← hn, List.length_drop, hll] at hnl
  have HLT : Hid (∀ k, k < n → xD (bAt u.data.toList (i + k)) = true) := fun k hk => spn_bat_lt _ i k (by rw [← hn]; exact hk)
  have HEN : Hid (xD (bAt u.data.toList (i + n)) = false) := by rw [hn]; exact spn_bat xD_zero _ i
  have HN := xh hn
  have HRZ := xh (Rz.new w 36)
  clear hn
  go_enter Tryz.func26, Tryz.ntmps26
  go_wp2_with fail
  generalize w.alloc (.cells #[I 0, .string E0, I 0, I 0, I 0, I 0] 36) = wb at HRZ ⊢
  go_loopw [5] (fun p W => ∃ k : Nat, k ≤ n ∧ p = .int .i64 ((i + k : Nat) : Int) ∧ W = wb) (fun p _ => u.size - (RowKit.intOf p).toNat)
  case atStart => exact ⟨0, by omega, rfl, rfl⟩
  case round =>
    obtain ⟨k, hk, rfl, rfl⟩ := hrel
    obtain ⟨p, hp⟩ : ∃ p, p = i + k := ⟨_, rfl⟩
    have HP := xh hp
    rw [← hp]
    have HAT := xh (rat_any u p)
    by_cases hlt : k < n
    · have hW := HLT.out k hlt
      rw [← hp] at hW
      have hpl : p < u.size := by omega
      generalize bAt u.data.toList p = c at hW HAT
      have HDI := xh (rDg c)
      rw [hW] at HDI
      clear hp
      go_wp2_with (first | (go_at_call 22; refine (HAT.out _).mono ?_; rintro e w1 ⟨rfl, rfl⟩) | (go_at_call 25; refine (HDI.out _).mono ?_; rintro e w1 ⟨rfl, rfl⟩) | fail)
      go_roundw
      case rel => exact ⟨k + 1, by omega, by rw [show i + (k + 1) = p + 1 from by rw [HP.out]; omega]; go_num, by first | trivial | rfl⟩
      case measure => simp [RowKit.intOf]; omega
    · obtain rfl : n = k := by omega
      have hW := HEN.out
      rw [← hp] at hW
      have hpl : p ≤ u.size := by omega
      have hin : i ≤ p := by omega
      have hinI : (i : Int) ≤ (p : Int) := by omega
      have hplI : (p : Int) ≤ (u.size : Int) := by omega
      have him := im_at u.data.toList i p (by rw [← HN.out]; exact hp)
      have HAT2 := xh (rat_x u (p + 1) ((p : Int) + 1) (by omega))
      have HBA := xh (above_dec u hs i n p hp HN.out hpl [57, 50, 50, 51, 51, 55, 50, 48, 51, 54, 56, 53, 52, 55, 55, 53, 56, 48, 56] 9223372036854775808 decA (by unfold isDs; decide) (by rintro c r h; cases h; decide) (by decide))
      have HBB := xh (above_dec u hs i n p hp HN.out hpl [51, 51, 53, 53, 52, 52, 51, 50] 33554432 decB (by unfold isDs; decide) (by rintro c r h; cases h; decide) (by decide))
      have HA1 : Hid (((u.data.toList.drop i)[n]?).any xA = xA (bAt u.data.toList p)) := by
        unfold Hid
        rw [List.getElem?_drop, ← hp]; exact any_bat xA_zero _ _
      have HP1 : Hid (∀ c, (bAt u.data.toList p).toNat = c → 0 < c → p + 1 ≤ u.size) := fun c hc h0 => by
        rcases Nat.lt_or_ge p u.size with h | h
        · exact h
        · rw [bAt_none (by omega)] at hc
          exact absurd hc (by show ¬ 0 = c; omega)
      simp only [sU] at HBA HBB
      generalize bAt u.data.toList p = c1 at hW HAT him HA1 HP1
      generalize bAt u.data.toList (p + 1) = c2 at HAT2 him
      have HDI := xh (rDg c1)
      rw [hW] at HDI
      have HLE := xh (rL c1)
      have HLE2 := xh (rL c2)
      have HDI2 := xh (rDg c2)
      have hcr := HRZ.out.c
      have hfr := HRZ.out.f
      have HGC := xh HRZ.out.g
      clear hW HEN HLT hlt hp HRZ
      by_cases h105 : c1.toNat = 105
      · have h105I : (c1.toNat : Int) = 105 := by omega
        have hp1 := HP1.out 105 h105 (by decide)
        have hp1I : (p : Int) + 1 ≤ (u.size : Int) := by omega
        have hA1 : xA c1 = true := by simp [xA, h105]
        rw [hA1] at HLE HA1
        rw [h105, decide_eq_true rfl, Bool.true_and] at him
        rw [h105I] at HAT HDI HLE
        clear hA1 HP1
        cases hA2 : xA c2 with
        | true =>
          rw [hA2] at HLE2
          have HIM : Hid (imB (u.data.toList.drop i) = false) := by rw [him, xW, hA2]; exact rfl
          clear him
          have HIM' : imB (u.data.toList.drop i) = false := HIM.out
          by_cases hb : 9223372036854775808 < decN ((u.data.toList.drop i).take n)
          · have HT : Hid (nuT (u.data.toList.drop i) = .bad 102 0) := by unfold Hid nuT; rw [HIM', if_neg (by decide), ← HN.out, if_pos hb]
            rw [decide_eq_true hb] at HBA
            clear hb HIM'
            go_wp2_with (first
                | (go_at_call 22; with_reducible refine (HAT.out _).mono ?_; rintro e w1 ⟨rfl, rfl⟩)
                | (go_at_call 22; with_reducible refine (HAT2.out _).mono ?_; rintro e w1 ⟨rfl, rfl⟩)
                | (go_at_call 23; with_reducible refine (HLE.out _).mono ?_; rintro e w1 ⟨rfl, rfl⟩)
                | (go_at_call 23; with_reducible refine (HLE2.out _).mono ?_; rintro e w1 ⟨rfl, rfl⟩)
                | (go_at_call 25; with_reducible refine (HDI.out _).mono ?_; rintro e w1 ⟨rfl, rfl⟩)
                | (go_at_call 25; with_reducible refine (HDI2.out _).mono ?_; rintro e w1 ⟨rfl, rfl⟩)
                | (go_at_call 38; with_reducible refine (HBA.out _).mono ?_; rintro e w1 ⟨rfl, rfl⟩)
                | (go_at_call 38; with_reducible refine (HBB.out _).mono ?_; rintro e w1 ⟨rfl, rfl⟩)
                | fail)
            refine bodyPost_ret (v := .agg #[I 0, .string E0, I 0, I 0, I 102, I i]) (by simp [results, Tryz.results26, go_sem, hcr]) rfl ⟨?_, G.six HGC.out _ _ _ _ _ _⟩
            rw [HT.out]; rfl
          · rw [decide_eq_false hb] at HBA
            have HT : Hid (nuT (u.data.toList.drop i) = .bad 100 n) := by
              unfold Hid nuT
              rw [HIM', if_neg (by decide), ← HN.out, if_neg hb, HA1.out, if_pos rfl]
            have HPN : Hid (p = i + n) := HP.out
            clear hb HIM'
            go_wp2_with (first
                | (go_at_call 22; with_reducible refine (HAT.out _).mono ?_; rintro e w1 ⟨rfl, rfl⟩)
                | (go_at_call 22; with_reducible refine (HAT2.out _).mono ?_; rintro e w1 ⟨rfl, rfl⟩)
                | (go_at_call 23; with_reducible refine (HLE.out _).mono ?_; rintro e w1 ⟨rfl, rfl⟩)
                | (go_at_call 23; with_reducible refine (HLE2.out _).mono ?_; rintro e w1 ⟨rfl, rfl⟩)
                | (go_at_call 25; with_reducible refine (HDI.out _).mono ?_; rintro e w1 ⟨rfl, rfl⟩)
                | (go_at_call 25; with_reducible refine (HDI2.out _).mono ?_; rintro e w1 ⟨rfl, rfl⟩)
                | (go_at_call 38; with_reducible refine (HBA.out _).mono ?_; rintro e w1 ⟨rfl, rfl⟩)
                | (go_at_call 38; with_reducible refine (HBB.out _).mono ?_; rintro e w1 ⟨rfl, rfl⟩)
                | fail)
            refine bodyPost_ret (v := .agg #[I 0, .string E0, I 0, I 0, I 100, I ((p : Nat) : Int)]) (by simp [results, Tryz.results26, go_sem, hcr]) rfl ⟨?_, G.six HGC.out _ _ _ _ _ _⟩
            rw [HT.out, HPN.out]; rfl
        | false =>
          rw [hA2] at HLE2
          cases hD2 : xD c2 with
          | true =>
            rw [hD2] at HDI2
            have HIM : Hid (imB (u.data.toList.drop i) = false) := by rw [him, xW, hA2, hD2]; exact rfl
            clear him
            have HIM' : imB (u.data.toList.drop i) = false := HIM.out
            by_cases hb : 9223372036854775808 < decN ((u.data.toList.drop i).take n)
            · have HT : Hid (nuT (u.data.toList.drop i) = .bad 102 0) := by unfold Hid nuT; rw [HIM', if_neg (by decide), ← HN.out, if_pos hb]
              rw [decide_eq_true hb] at HBA
              clear hb HIM'
              go_wp2_with (first
                  | (go_at_call 22; with_reducible refine (HAT.out _).mono ?_; rintro e w1 ⟨rfl, rfl⟩)
                  | (go_at_call 22; with_reducible refine (HAT2.out _).mono ?_; rintro e w1 ⟨rfl, rfl⟩)
                  | (go_at_call 23; with_reducible refine (HLE.out _).mono ?_; rintro e w1 ⟨rfl, rfl⟩)
                  | (go_at_call 23; with_reducible refine (HLE2.out _).mono ?_; rintro e w1 ⟨rfl, rfl⟩)
                  | (go_at_call 25; with_reducible refine (HDI.out _).mono ?_; rintro e w1 ⟨rfl, rfl⟩)
                  | (go_at_call 25; with_reducible refine (HDI2.out _).mono ?_; rintro e w1 ⟨rfl, rfl⟩)
                  | (go_at_call 38; with_reducible refine (HBA.out _).mono ?_; rintro e w1 ⟨rfl, rfl⟩)
                  | (go_at_call 38; with_reducible refine (HBB.out _).mono ?_; rintro e w1 ⟨rfl, rfl⟩)
                  | fail)
              refine bodyPost_ret (v := .agg #[I 0, .string E0, I 0, I 0, I 102, I i]) (by simp [results, Tryz.results26, go_sem, hcr]) rfl ⟨?_, G.six HGC.out _ _ _ _ _ _⟩
              rw [HT.out]; rfl
            · rw [decide_eq_false hb] at HBA
              have HT : Hid (nuT (u.data.toList.drop i) = .bad 100 n) := by
                unfold Hid nuT
                rw [HIM', if_neg (by decide), ← HN.out, if_neg hb, HA1.out, if_pos rfl]
              have HPN : Hid (p = i + n) := HP.out
              clear hb HIM'
              go_wp2_with (first
                  | (go_at_call 22; with_reducible refine (HAT.out _).mono ?_; rintro e w1 ⟨rfl, rfl⟩)
                  | (go_at_call 22; with_reducible refine (HAT2.out _).mono ?_; rintro e w1 ⟨rfl, rfl⟩)
                  | (go_at_call 23; with_reducible refine (HLE.out _).mono ?_; rintro e w1 ⟨rfl, rfl⟩)
                  | (go_at_call 23; with_reducible refine (HLE2.out _).mono ?_; rintro e w1 ⟨rfl, rfl⟩)
                  | (go_at_call 25; with_reducible refine (HDI.out _).mono ?_; rintro e w1 ⟨rfl, rfl⟩)
                  | (go_at_call 25; with_reducible refine (HDI2.out _).mono ?_; rintro e w1 ⟨rfl, rfl⟩)
                  | (go_at_call 38; with_reducible refine (HBA.out _).mono ?_; rintro e w1 ⟨rfl, rfl⟩)
                  | (go_at_call 38; with_reducible refine (HBB.out _).mono ?_; rintro e w1 ⟨rfl, rfl⟩)
                  | fail)
              refine bodyPost_ret (v := .agg #[I 0, .string E0, I 0, I 0, I 100, I ((p : Nat) : Int)]) (by simp [results, Tryz.results26, go_sem, hcr]) rfl ⟨?_, G.six HGC.out _ _ _ _ _ _⟩
              rw [HT.out, HPN.out]; rfl
          | false =>
            rw [hD2] at HDI2
            have HIM : Hid (imB (u.data.toList.drop i) = true) := by rw [him, xW, hA2, hD2]; exact rfl
            clear him
            have HIM' : imB (u.data.toList.drop i) = true := HIM.out
            by_cases hb : 33554432 < decN ((u.data.toList.drop i).take n)
            · have HT : Hid (nuT (u.data.toList.drop i) = .bad 102 0) := by unfold Hid nuT; rw [HIM', if_pos rfl, ← HN.out, if_pos hb]
              rw [decide_eq_true hb] at HBB
              generalize decide (9223372036854775808 < decN ((u.data.toList.drop i).take n)) = bA at HBA
              clear hb HIM'
              go_wp2_with (first
                  | (go_at_call 22; with_reducible refine (HAT.out _).mono ?_; rintro e w1 ⟨rfl, rfl⟩)
                  | (go_at_call 22; with_reducible refine (HAT2.out _).mono ?_; rintro e w1 ⟨rfl, rfl⟩)
                  | (go_at_call 23; with_reducible refine (HLE.out _).mono ?_; rintro e w1 ⟨rfl, rfl⟩)
                  | (go_at_call 23; with_reducible refine (HLE2.out _).mono ?_; rintro e w1 ⟨rfl, rfl⟩)
                  | (go_at_call 25; with_reducible refine (HDI.out _).mono ?_; rintro e w1 ⟨rfl, rfl⟩)
                  | (go_at_call 25; with_reducible refine (HDI2.out _).mono ?_; rintro e w1 ⟨rfl, rfl⟩)
                  | (go_at_call 38; with_reducible refine (HBA.out _).mono ?_; rintro e w1 ⟨rfl, rfl⟩)
                  | (go_at_call 38; with_reducible refine (HBB.out _).mono ?_; rintro e w1 ⟨rfl, rfl⟩)
                  | fail)
              refine bodyPost_ret (v := .agg #[I 0, .string E0, I 0, I 0, I 102, I i]) (by simp [results, Tryz.results26, go_sem, hcr]) rfl ⟨?_, G.six HGC.out _ _ _ _ _ _⟩
              rw [HT.out]; rfl
            · have HT : Hid (nuT (u.data.toList.drop i) = .tok 4 (u.extract i (p + 1)) (n + 1)) := by
                unfold Hid nuT
                rw [HIM', if_pos rfl, ← HN.out, if_neg hb, x_ext u i (n + 1) (p + 1) (by have := HP.out; omega)]
              rw [decide_eq_false hb] at HBB
              generalize decide (9223372036854775808 < decN ((u.data.toList.drop i).take n)) = bA at HBA
              have HPN : Hid ((p : Int) + 1 - (i : Int) = ((n + 1 : Nat) : Int)) := by have := HP.out; unfold Hid; omega
              clear hb HIM'
              go_wp2_with (first
                  | (go_at_call 22; with_reducible refine (HAT.out _).mono ?_; rintro e w1 ⟨rfl, rfl⟩)
                  | (go_at_call 22; with_reducible refine (HAT2.out _).mono ?_; rintro e w1 ⟨rfl, rfl⟩)
                  | (go_at_call 23; with_reducible refine (HLE.out _).mono ?_; rintro e w1 ⟨rfl, rfl⟩)
                  | (go_at_call 23; with_reducible refine (HLE2.out _).mono ?_; rintro e w1 ⟨rfl, rfl⟩)
                  | (go_at_call 25; with_reducible refine (HDI.out _).mono ?_; rintro e w1 ⟨rfl, rfl⟩)
                  | (go_at_call 25; with_reducible refine (HDI2.out _).mono ?_; rintro e w1 ⟨rfl, rfl⟩)
                  | (go_at_call 38; with_reducible refine (HBA.out _).mono ?_; rintro e w1 ⟨rfl, rfl⟩)
                  | (go_at_call 38; with_reducible refine (HBB.out _).mono ?_; rintro e w1 ⟨rfl, rfl⟩)
                  | fail)
              refine bodyPost_ret (v := .agg #[I 4, .string (u.extract i (p + 1)), I i, I ((p : Int) + 1 - (i : Int)), I 0, I 0]) (by simp [results, Tryz.results26, go_sem, hcr]) rfl ⟨?_, G.six HGC.out _ _ _ _ _ _⟩
              rw [HT.out, HPN.out]; rfl
      · have h105B : ((c1.toNat : Int) == 105) = false := beq_false_of_ne (by omega)
        have HIM : Hid (imB (u.data.toList.drop i) = false) := by rw [him, decide_eq_false h105]; exact rfl
        clear him HP1 h105
        cases hA1 : xA c1 with
        | true =>
          rw [hA1] at HLE HA1
          clear hA1
          have HIM' : imB (u.data.toList.drop i) = false := HIM.out
          by_cases hb : 9223372036854775808 < decN ((u.data.toList.drop i).take n)
          · have HT : Hid (nuT (u.data.toList.drop i) = .bad 102 0) := by unfold Hid nuT; rw [HIM', if_neg (by decide), ← HN.out, if_pos hb]
            rw [decide_eq_true hb] at HBA
            clear hb HIM'
            go_wp2_with (first
                | (go_at_call 22; with_reducible refine (HAT.out _).mono ?_; rintro e w1 ⟨rfl, rfl⟩)
                | (go_at_call 22; with_reducible refine (HAT2.out _).mono ?_; rintro e w1 ⟨rfl, rfl⟩)
                | (go_at_call 23; with_reducible refine (HLE.out _).mono ?_; rintro e w1 ⟨rfl, rfl⟩)
                | (go_at_call 23; with_reducible refine (HLE2.out _).mono ?_; rintro e w1 ⟨rfl, rfl⟩)
                | (go_at_call 25; with_reducible refine (HDI.out _).mono ?_; rintro e w1 ⟨rfl, rfl⟩)
                | (go_at_call 25; with_reducible refine (HDI2.out _).mono ?_; rintro e w1 ⟨rfl, rfl⟩)
                | (go_at_call 38; with_reducible refine (HBA.out _).mono ?_; rintro e w1 ⟨rfl, rfl⟩)
                | (go_at_call 38; with_reducible refine (HBB.out _).mono ?_; rintro e w1 ⟨rfl, rfl⟩)
                | fail)
            refine bodyPost_ret (v := .agg #[I 0, .string E0, I 0, I 0, I 102, I i]) (by simp [results, Tryz.results26, go_sem, hcr]) rfl ⟨?_, G.six HGC.out _ _ _ _ _ _⟩
            rw [HT.out]; rfl
          · rw [decide_eq_false hb] at HBA
            have HT : Hid (nuT (u.data.toList.drop i) = .bad 100 n) := by
              unfold Hid nuT
              rw [HIM', if_neg (by decide), ← HN.out, if_neg hb, HA1.out, if_pos rfl]
            have HPN : Hid (p = i + n) := HP.out
            clear hb HIM'
            go_wp2_with (first
                | (go_at_call 22; with_reducible refine (HAT.out _).mono ?_; rintro e w1 ⟨rfl, rfl⟩)
                | (go_at_call 22; with_reducible refine (HAT2.out _).mono ?_; rintro e w1 ⟨rfl, rfl⟩)
                | (go_at_call 23; with_reducible refine (HLE.out _).mono ?_; rintro e w1 ⟨rfl, rfl⟩)
                | (go_at_call 23; with_reducible refine (HLE2.out _).mono ?_; rintro e w1 ⟨rfl, rfl⟩)
                | (go_at_call 25; with_reducible refine (HDI.out _).mono ?_; rintro e w1 ⟨rfl, rfl⟩)
                | (go_at_call 25; with_reducible refine (HDI2.out _).mono ?_; rintro e w1 ⟨rfl, rfl⟩)
                | (go_at_call 38; with_reducible refine (HBA.out _).mono ?_; rintro e w1 ⟨rfl, rfl⟩)
                | (go_at_call 38; with_reducible refine (HBB.out _).mono ?_; rintro e w1 ⟨rfl, rfl⟩)
                | fail)
            refine bodyPost_ret (v := .agg #[I 0, .string E0, I 0, I 0, I 100, I ((p : Nat) : Int)]) (by simp [results, Tryz.results26, go_sem, hcr]) rfl ⟨?_, G.six HGC.out _ _ _ _ _ _⟩
            rw [HT.out, HPN.out]; rfl
        | false =>
          rw [hA1] at HLE HA1
          clear hA1
          have HIM' : imB (u.data.toList.drop i) = false := HIM.out
          by_cases hb : 9223372036854775808 < decN ((u.data.toList.drop i).take n)
          · have HT : Hid (nuT (u.data.toList.drop i) = .bad 102 0) := by unfold Hid nuT; rw [HIM', if_neg (by decide), ← HN.out, if_pos hb]
            rw [decide_eq_true hb] at HBA
            clear hb HIM'
            go_wp2_with (first
                | (go_at_call 22; with_reducible refine (HAT.out _).mono ?_; rintro e w1 ⟨rfl, rfl⟩)
                | (go_at_call 22; with_reducible refine (HAT2.out _).mono ?_; rintro e w1 ⟨rfl, rfl⟩)
                | (go_at_call 23; with_reducible refine (HLE.out _).mono ?_; rintro e w1 ⟨rfl, rfl⟩)
                | (go_at_call 23; with_reducible refine (HLE2.out _).mono ?_; rintro e w1 ⟨rfl, rfl⟩)
                | (go_at_call 25; with_reducible refine (HDI.out _).mono ?_; rintro e w1 ⟨rfl, rfl⟩)
                | (go_at_call 25; with_reducible refine (HDI2.out _).mono ?_; rintro e w1 ⟨rfl, rfl⟩)
                | (go_at_call 38; with_reducible refine (HBA.out _).mono ?_; rintro e w1 ⟨rfl, rfl⟩)
                | (go_at_call 38; with_reducible refine (HBB.out _).mono ?_; rintro e w1 ⟨rfl, rfl⟩)
                | fail)
            refine bodyPost_ret (v := .agg #[I 0, .string E0, I 0, I 0, I 102, I i]) (by simp [results, Tryz.results26, go_sem, hcr]) rfl ⟨?_, G.six HGC.out _ _ _ _ _ _⟩
            rw [HT.out]; rfl
          · rw [decide_eq_false hb] at HBA
            have HT : Hid (nuT (u.data.toList.drop i) = .tok 3 (u.extract i p) n) := by
              unfold Hid nuT
              rw [HIM', if_neg (by decide), ← HN.out, if_neg hb, HA1.out, if_neg (by decide), x_ext u i n p HP.out]
            have HPN : Hid ((p : Int) - (i : Int) = (n : Int)) := by have := HP.out; unfold Hid; omega
            clear hb HIM'
            go_wp2_with (first
                | (go_at_call 22; with_reducible refine (HAT.out _).mono ?_; rintro e w1 ⟨rfl, rfl⟩)
                | (go_at_call 22; with_reducible refine (HAT2.out _).mono ?_; rintro e w1 ⟨rfl, rfl⟩)
                | (go_at_call 23; with_reducible refine (HLE.out _).mono ?_; rintro e w1 ⟨rfl, rfl⟩)
                | (go_at_call 23; with_reducible refine (HLE2.out _).mono ?_; rintro e w1 ⟨rfl, rfl⟩)
                | (go_at_call 25; with_reducible refine (HDI.out _).mono ?_; rintro e w1 ⟨rfl, rfl⟩)
                | (go_at_call 25; with_reducible refine (HDI2.out _).mono ?_; rintro e w1 ⟨rfl, rfl⟩)
                | (go_at_call 38; with_reducible refine (HBA.out _).mono ?_; rintro e w1 ⟨rfl, rfl⟩)
                | (go_at_call 38; with_reducible refine (HBB.out _).mono ?_; rintro e w1 ⟨rfl, rfl⟩)
                | fail)
            refine bodyPost_ret (v := .agg #[I 3, .string (u.extract i p), I i, I ((p : Int) - (i : Int)), I 0, I 0]) (by simp [results, Tryz.results26, go_sem, hcr]) rfl ⟨?_, G.six HGC.out _ _ _ _ _ _⟩
            rw [HT.out, HPN.out]; rfl
end Go.Proofs.YthgpegldlcfolaaGreatDoor
