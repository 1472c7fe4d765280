/- The document's digits. -/
import Derived.Test.YthgpegldlcfolaaGreatDoorRt2
namespace Go.Proofs.YthgpegldlcfolaaGreatDoor
open Go.RowKit Go.Lib Go.Shelf

def isD (c : UInt8) : Bool := decide (48 ≤ c.toNat ∧ c.toNat ≤ 57)
/-- A number beyond the range is 0. -/
def cl (x : Int) : Int := if -9223372036854775808 ≤ x ∧ x ≤ 9223372036854775807 then x else 0
theorem cl_I64 (x : Int) : I64 (cl x) := by unfold cl I64; split <;> omega
theorem cl_id {x : Int} (h : I64 x) : cl x = x := by unfold cl I64 at *; rw [if_pos h]
def rstp (n : Int) (c : UInt8) : Int := cl (cl (n * 10) + -((c.toNat : Int) - 48))
theorem rstp_I64 (l : List UInt8) : ∀ n, I64 n → I64 (l.foldl rstp n) := by
  induction l with
  | nil => exact fun n h => h
  | cons c l ih => exact fun n _ => ih _ (cl_I64 _)
def sgn (l : List UInt8) : Bool × Nat := match l with | [] => (false, 0) | c :: _ => if c.toNat = 45 then (true, 1) else if c.toNat = 43 then (false, 1) else (false, 0)
def dgs (l : List UInt8) : List UInt8 := (l.drop (sgn l).2).takeWhile isD
def dgN (l : List UInt8) : Int := if (sgn l).1 then (dgs l).foldl rstp 0 else cl (-((dgs l).foldl rstp 0))
def dgL (l : List UInt8) : Nat := (sgn l).2 + (dgs l).length
theorem dgN_R (l : List UInt8) : R64 (dgN l) := by
  unfold dgN
  split
  · exact rstp_I64 _ 0 (by unfold I64; omega)
  · exact cl_I64 _
theorem tw_lt {p : UInt8 → Bool} : ∀ (l : List UInt8) (k : Nat), k < (l.takeWhile p).length → ∃ c, l[k]? = some c ∧ p c = true ∧ (l.takeWhile p)[k]? = some c
  | [], k, h => by simp at h
  | c :: l, k, h => by
    cases hp : p c with
    | false => rw [List.takeWhile_cons, hp] at h; simp at h
    | true =>
      rw [List.takeWhile_cons, hp] at h ⊢
      cases k with
      | zero => exact ⟨c, rfl, hp, rfl⟩
      | succ k =>
        obtain ⟨d, h1, h2, h3⟩ := tw_lt l k (by simp at h; exact h)
        exact ⟨d, by simpa using h1, h2, by simpa using h3⟩
theorem tw_end {p : UInt8 → Bool} : ∀ (l : List UInt8) (c : UInt8), l[(l.takeWhile p).length]? = some c → p c = false
  | [], c, h => by simp at h
  | d :: l, c, h => by
    cases hp : p d with
    | false => rw [List.takeWhile_cons, hp] at h; simp at h; rw [← h]; exact hp
    | true =>
      rw [List.takeWhile_cons, hp] at h
      exact tw_end l c (by simpa using h)
theorem tw_len {p : UInt8 → Bool} : ∀ (l : List UInt8), (l.takeWhile p).length ≤ l.length
  | [] => by simp
  | d :: l => by
    have := tw_len (p := p) l
    rw [List.takeWhile_cons]
    split
    · simp; omega
    · simp
theorem tw_app {p : UInt8 → Bool} : ∀ (l r : List UInt8), (∀ c ∈ l, p c = true) → (∀ c t, r = c :: t → p c = false) → (l ++ r).takeWhile p = l
  | [], r, _, hr => by
    cases r with
    | nil => rfl
    | cons c t => rw [List.nil_append, List.takeWhile_cons, hr c t rfl]; rfl
  | c :: l, r, hl, hr => by
    rw [List.cons_append, List.takeWhile_cons, hl c (by simp)]
    simp only [if_true]
    rw [tw_app l r (fun d hd => hl d (by simp [hd])) hr]
theorem fold_dec (u : Nat) (hu : u ≤ 9223372036854775808) : (decDigits u).foldl rstp 0 = -(u : Int) := by
  induction u using Nat.strongRecOn with
  | _ u ih =>
    rw [decDigits]
    by_cases h : u < 10
    · rw [dif_pos h]
      simp only [List.foldl_cons, List.foldl_nil, rstp]
      rw [dig_nat u h, Int.zero_mul, cl_id (x := 0) (by unfold I64; omega), cl_id (by unfold I64; omega)]
      omega
    · rw [dif_neg h, List.foldl_append, ih (u / 10) (by omega) (by omega)]
      simp only [List.foldl_cons, List.foldl_nil, rstp]
      rw [dig_nat _ (by omega), cl_id (x := -((u / 10 : Nat) : Int) * 10) (by unfold I64; omega), cl_id (by unfold I64; omega)]
      omega
theorem dec_isD (u : Nat) : ∀ c ∈ decDigits u, isD c = true := fun c hc => by
  have := decD_digit u c hc
  simp [isD, this]
theorem dg_dec (u : Nat) (r : List UInt8) (hr : ∀ c t, r = c :: t → isD c = false) : sgn (decDigits u ++ r) = (false, 0) ∧ dgs (decDigits u ++ r) = decDigits u := by
  have hs : sgn (decDigits u ++ r) = (false, 0) := by
    cases h : decDigits u with
    | nil => exact absurd h (decD_ne u)
    | cons c t =>
      have := decD_digit u c (by rw [h]; simp)
      simp only [List.cons_append, sgn]
      rw [if_neg (by omega), if_neg (by omega)]
  refine ⟨hs, ?_⟩
  unfold dgs
  rw [hs]
  exact tw_app _ _ (dec_isD u) hr
theorem dg_itoa (m : Int) (hm : R64 m) (r : List UInt8) (hr : ∀ c t, r = c :: t → isD c = false) : dgN (itoa m ++ r) = m ∧ dgL (itoa m ++ r) = (itoa m).length := by
  unfold R64 at hm
  unfold itoa
  by_cases h : m < 0
  · rw [if_pos h]
    have hs : sgn (45 :: decDigits m.natAbs ++ r) = (true, 1) := rfl
    have hd : dgs (45 :: decDigits m.natAbs ++ r) = decDigits m.natAbs := by
      unfold dgs
      rw [hs]
      exact tw_app _ _ (dec_isD _) hr
    unfold dgN dgL
    rw [hs, hd, fold_dec _ (by omega)]
    refine ⟨?_, by simp; omega⟩
    simp only [if_true]
    omega
  · rw [if_neg h]
    obtain ⟨hs, hd⟩ := dg_dec m.toNat r hr
    unfold dgN dgL
    rw [hs, hd, fold_dec _ (by omega)]
    refine ⟨?_, by simp⟩
    simp only [Bool.false_eq_true, if_false]
    rw [cl_id (by unfold I64; omega)]
    omega
theorem dg_plus (m : Int) (hm : R64 m) (h0 : ¬ m < 0) (r : List UInt8) (hr : ∀ c t, r = c :: t → isD c = false) : dgN (43 :: itoa m ++ r) = m := by
  unfold R64 at hm
  unfold itoa
  rw [if_neg h0]
  have hs : sgn (43 :: decDigits m.toNat ++ r) = (false, 1) := rfl
  have hd : dgs (43 :: decDigits m.toNat ++ r) = decDigits m.toNat := by
    unfold dgs
    rw [hs]
    exact tw_app _ _ (dec_isD _) hr
  unfold dgN
  rw [hs, hd, fold_dec _ (by omega)]
  simp only [Bool.false_eq_true, if_false]
  rw [cl_id (by unfold I64; omega)]
  omega
theorem rprod2 (a b : Int) (ha : I64 a) (hb : I64 b) (w : World) : Calls Tryz.prog 81 #[.int .i64 a, .int .i64 b] w fun e w' => (∃ x : Bool, e = .returned (.tuple #[.int .i64 (cl (a * b)), .bool x])) ∧ w' = w := by
  refine (rproduct_any a b ha hb w).mono ?_
  rintro e w' ⟨h | h, rfl⟩
  · exact ⟨⟨true, by rw [cl_id h.1]; exact h.2⟩, rfl⟩
  · exact ⟨⟨false, by rw [show cl (a * b) = 0 from if_neg h.1]; exact h.2⟩, rfl⟩
theorem rsum2 (a b : Int) (ha : I64 a) (hb : I64 b) (w : World) : Calls Tryz.prog 82 #[.int .i64 a, .int .i64 b] w fun e w' => (∃ x : Bool, e = .returned (.tuple #[.int .i64 (cl (a + b)), .bool x])) ∧ w' = w := by
  by_cases h : I64 (a + b)
  · rw [cl_id h]
    exact (rsum_yes a b ha hb h w).mono fun e w' ⟨h1, h2⟩ => ⟨⟨true, h1⟩, h2⟩
  · rw [show cl (a + b) = 0 from if_neg h]
    exact (rsum_no a b ha hb h w).mono fun e w' ⟨h1, h2⟩ => ⟨⟨false, h1⟩, h2⟩
theorem rminus2 (a : Int) (ha : I64 a) (w : World) : Calls Tryz.prog 83 #[.int .i64 a] w fun e w' => (∃ x : Bool, e = .returned (.tuple #[.int .i64 (cl (-a)), .bool x])) ∧ w' = w := by
  unfold I64 at ha
  by_cases h : a = -9223372036854775808
  · subst h
    exact (rminus_no w).mono fun e w' ⟨h1, h2⟩ => ⟨⟨false, h1⟩, h2⟩
  · rw [cl_id (by unfold I64; omega)]
    exact (rminus_yes a (by omega) ha.2 w).mono fun e w' ⟨h1, h2⟩ => ⟨⟨true, h1⟩, h2⟩
theorem u_get (u : ByteArray) (k : Nat) (hk : k < u.size) : u.data.toList[k]? = some u[k] := by simp [ByteArray.getElem_eq_getElem_data, hk]
theorem u_some {u : ByteArray} {k : Nat} {c : UInt8} (h : u.data.toList[k]? = some c) : ∃ hk : k < u.size, u[k] = c := by
  obtain ⟨h1, h2⟩ := List.getElem?_eq_some_iff.1 h
  have hk : k < u.size := by rw [Array.length_toList] at h1; exact h1
  exact ⟨hk, by have := u_get u k hk; rw [h] at this; exact (Option.some.inj this).symm⟩
set_option maxRecDepth 100000 in
set_option maxHeartbeats 4000000 in
theorem rdig_none (u : ByteArray) (_hs : u.size ≤ 4611686018427387904) (i : Nat) (hi : i = u.size) (w : World) : Calls Tryz.prog 64 #[.string u, .int .i64 i] w fun e w' => e = .returned (.tuple #[.int .i64 (dgN (u.data.toList.drop i)), .int .i64 ((i + dgL (u.data.toList.drop i) : Nat) : Int)]) ∧ w' = w := by
  have hsg : sgn (u.data.toList.drop i) = (false, 0) := by rw [List.drop_of_length_le (by rw [Array.length_toList, hi]; exact Nat.le_refl _)]; rfl
  have hiI : ¬ (i : Int) < (u.size : Int) := by omega
  have hll : u.data.toList.length = u.size := by rw [Array.length_toList]; rfl
  obtain ⟨ds, hds⟩ : ∃ ds, ds = (u.data.toList.drop (i + 0)).takeWhile isD := ⟨_, rfl⟩
  have HRES : Hid (.tuple #[.int .i64 (dgN (u.data.toList.drop i)), .int .i64 ((i + dgL (u.data.toList.drop i) : Nat) : Int)] = Value.tuple #[.int .i64 (cl (-(ds.foldl rstp 0))), .int .i64 ((i + 0 + ds.length : Nat) : Int)]) := by
    unfold Hid dgN dgL dgs
    rw [hsg]
    simp only [List.drop_drop]
    rw [← hds]
    simp
  have hdl : i + 0 + ds.length ≤ u.size := by
    have := tw_len (p := isD) (u.data.toList.drop (i + 0))
    rw [← hds, List.length_drop, hll] at this
    omega
  have HLT : Hid (∀ k, k < ds.length → ∃ c, u.data.toList[i + 0 + k]? = some c ∧ isD c = true ∧ ds[k]? = some c) := fun k hk => by
    obtain ⟨c, h1, h2, h3⟩ := tw_lt (p := isD) (u.data.toList.drop (i + 0)) k (by rw [← hds]; exact hk)
    rw [List.getElem?_drop] at h1
    exact ⟨c, h1, h2, by rw [hds]; exact h3⟩
  have HEN : Hid (∀ c, u.data.toList[i + 0 + ds.length]? = some c → isD c = false) := fun c hc => by
    refine tw_end (p := isD) (u.data.toList.drop (i + 0)) c ?_
    rw [← hds, List.getElem?_drop]
    exact hc
  clear hds hsg
  go_enter Tryz.func64, Tryz.ntmps64
  go_wp2_with fail
  go_loopw [1, 7, 8, 9] (fun p n _ _ W => ∃ k : Nat, k ≤ ds.length ∧ p = .int .i64 ((i + 0 + k : Nat) : Int) ∧ n = .int .i64 ((ds.take k).foldl rstp 0) ∧ W = w) (fun p _ _ _ _ => u.size - (RowKit.intOf p).toNat)
  case atStart => exact ⟨0, by omega, by first | rfl | (simp; done) | go_num, rfl, rfl⟩
  case round =>
    obtain ⟨k, hk, rfl, rfl, rfl⟩ := hrel
    by_cases hlt : k < ds.length
    · obtain ⟨c, h1, h2, h3⟩ := HLT.out k hlt
      obtain ⟨hps, hpc⟩ := u_some h1
      have hcd : 48 ≤ c.toNat ∧ c.toNat ≤ 57 := by simpa [isD] using h2
      obtain ⟨p, hp⟩ : ∃ p, p = i + 0 + k := ⟨_, rfl⟩
      have HP := hide hp
      rw [← hp] at h1 ⊢
      simp only [← hp] at hps hpc
      have hpI : (p : Int) < (u.size : Int) := by omega
      have htk : (ds.take (k + 1)).foldl rstp 0 = rstp ((ds.take k).foldl rstp 0) c := by
        obtain ⟨g1, g2⟩ := List.getElem?_eq_some_iff.1 h3
        rw [List.take_succ_eq_append_getElem g1, g2, List.foldl_append]
        rfl
      have HTK := hide htk
      have HI : Hid (I64 ((ds.take k).foldl rstp 0)) := rstp_I64 _ 0 (by unfold I64; omega)
      generalize (ds.take k).foldl rstp 0 = N at HTK HI htk ⊢
      have hcu : u[p].toNat = c.toNat := by rw [hpc]
      have HZ : Hid ((c.toNat : Int) = (u[p].toNat : Int)) := hide (by rw [hcu])
      have hz1 : 48 ≤ u[p].toNat := by omega
      have hz2 : u[p].toNat ≤ 57 := by omega
      have hz3 : (48 : Int) ≤ (u[p].toNat : Int) := by omega
      have hz4 : (u[p].toNat : Int) ≤ 57 := by omega
      clear htk h1 h2 h3 hcd hp hpc hcu
      go_wp2_with fail
      refine (rprod2 N 10 HI.out (by unfold I64; omega) _).mono ?_
      rintro e' w2 ⟨⟨x2, rfl⟩, rfl⟩
      have HSU := hide (rsum2 (cl (N * 10)) (-((u[p].toNat : Int) - 48)) (cl_I64 _) (by unfold I64; omega) w2)
      go_wp2_with fail
      refine HSU.out.mono ?_
      rintro e' w3 ⟨⟨x3, rfl⟩, rfl⟩
      go_wp2
      go_roundw
      case rel => exact ⟨k + 1, by omega, by rw [show i + 0 + (k + 1) = p + 1 from by rw [HP.out]; omega]; go_num, by rw [HTK.out]; unfold rstp; rw [HZ.out], by first | trivial | rfl⟩
      case measure => simp [RowKit.intOf]; omega
    · obtain rfl : k = ds.length := by omega
      rw [List.take_length]
      obtain ⟨p, hp⟩ : ∃ p, p = i + 0 + ds.length := ⟨_, rfl⟩
      have HP := hide hp
      have HEN' := HEN.out
      rw [← hp] at HRES HEN' hdl ⊢
      have HE2 := hide HEN'
      clear HEN' HEN HLT hp
      have HI : Hid (I64 (ds.foldl rstp 0)) := rstp_I64 _ 0 (by unfold I64; omega)
      generalize ds.foldl rstp 0 = N at HI HRES ⊢
      by_cases hpe : p = u.size
      · subst hpe
        go_wp2_with fail
        refine (rminus2 N HI.out _).mono ?_
        rintro e' w2 ⟨⟨x2, rfl⟩, rfl⟩
        go_wp2
        go_ret2
        exact ⟨congrArg Ending.returned HRES.out.symm, rfl⟩
      · have hps : p < u.size := by omega
        have hpI : (p : Int) < (u.size : Int) := by omega
        have hnd := HE2.out u[p] (u_get u p hps)
        by_cases hlo : u[p].toNat < 48
        · have hlo2 : ¬ (48 : Int) ≤ (u[p].toNat : Int) := by omega
          go_wp2_with fail
          refine (rminus2 N HI.out _).mono ?_
          rintro e' w2 ⟨⟨x2, rfl⟩, rfl⟩
          go_wp2
          go_ret2
          exact ⟨congrArg Ending.returned HRES.out.symm, rfl⟩
        · have hlo1 : (48 : Int) ≤ (u[p].toNat : Int) := by omega
          have hhi : ¬ (u[p].toNat : Int) ≤ 57 := by
            have : ¬ (48 ≤ u[p].toNat ∧ u[p].toNat ≤ 57) := by simpa [isD] using hnd
            omega
          go_wp2_with fail
          refine (rminus2 N HI.out _).mono ?_
          rintro e' w2 ⟨⟨x2, rfl⟩, rfl⟩
          go_wp2
          go_ret2
          exact ⟨congrArg Ending.returned HRES.out.symm, rfl⟩
set_option maxRecDepth 100000 in
set_option maxHeartbeats 4000000 in
theorem rdig_neg (u : ByteArray) (hs : u.size ≤ 4611686018427387904) (i : Nat) (hi : i < u.size) (hc : u[i].toNat = 45) (w : World) : Calls Tryz.prog 64 #[.string u, .int .i64 i] w fun e w' => e = .returned (.tuple #[.int .i64 (dgN (u.data.toList.drop i)), .int .i64 ((i + dgL (u.data.toList.drop i) : Nat) : Int)]) ∧ w' = w := by
  have hsg : sgn (u.data.toList.drop i) = (true, 1) := by rw [List.drop_eq_getElem_cons (by rw [Array.length_toList]; exact hi)]; have e : u.data.toList[i]'(by rw [Array.length_toList]; exact hi) = u[i] := (Option.some.inj ((List.getElem?_eq_getElem (by rw [Array.length_toList]; exact hi)).symm.trans (u_get u i hi))); rw [e]; unfold sgn; simp [hc]
  have hiI : (i : Int) < (u.size : Int) := by omega
  have hcI : (u[i].toNat : Int) = 45 := by omega
  have hll : u.data.toList.length = u.size := by rw [Array.length_toList]; rfl
  obtain ⟨ds, hds⟩ : ∃ ds, ds = (u.data.toList.drop (i + 1)).takeWhile isD := ⟨_, rfl⟩
  have HRES : Hid (.tuple #[.int .i64 (dgN (u.data.toList.drop i)), .int .i64 ((i + dgL (u.data.toList.drop i) : Nat) : Int)] = Value.tuple #[.int .i64 (ds.foldl rstp 0), .int .i64 ((i + 1 + ds.length : Nat) : Int)]) := by
    unfold Hid dgN dgL dgs
    rw [hsg]
    simp only [List.drop_drop]
    rw [← hds]
    simp [Nat.add_assoc]
  have hdl : i + 1 + ds.length ≤ u.size := by
    have := tw_len (p := isD) (u.data.toList.drop (i + 1))
    rw [← hds, List.length_drop, hll] at this
    omega
  have HLT : Hid (∀ k, k < ds.length → ∃ c, u.data.toList[i + 1 + k]? = some c ∧ isD c = true ∧ ds[k]? = some c) := fun k hk => by
    obtain ⟨c, h1, h2, h3⟩ := tw_lt (p := isD) (u.data.toList.drop (i + 1)) k (by rw [← hds]; exact hk)
    rw [List.getElem?_drop] at h1
    exact ⟨c, h1, h2, by rw [hds]; exact h3⟩
  have HEN : Hid (∀ c, u.data.toList[i + 1 + ds.length]? = some c → isD c = false) := fun c hc => by
    refine tw_end (p := isD) (u.data.toList.drop (i + 1)) c ?_
    rw [← hds, List.getElem?_drop]
    exact hc
  clear hds hsg
  go_enter Tryz.func64, Tryz.ntmps64
  go_wp2_with fail
  go_loopw [1, 7, 8, 9] (fun p n _ _ W => ∃ k : Nat, k ≤ ds.length ∧ p = .int .i64 ((i + 1 + k : Nat) : Int) ∧ n = .int .i64 ((ds.take k).foldl rstp 0) ∧ W = w) (fun p _ _ _ _ => u.size - (RowKit.intOf p).toNat)
  case atStart => exact ⟨0, by omega, by first | rfl | (simp; done) | go_num, rfl, rfl⟩
  case round =>
    obtain ⟨k, hk, rfl, rfl, rfl⟩ := hrel
    by_cases hlt : k < ds.length
    · obtain ⟨c, h1, h2, h3⟩ := HLT.out k hlt
      obtain ⟨hps, hpc⟩ := u_some h1
      have hcd : 48 ≤ c.toNat ∧ c.toNat ≤ 57 := by simpa [isD] using h2
      obtain ⟨p, hp⟩ : ∃ p, p = i + 1 + k := ⟨_, rfl⟩
      have HP := hide hp
      rw [← hp] at h1 ⊢
      simp only [← hp] at hps hpc
      have hpI : (p : Int) < (u.size : Int) := by omega
      have htk : (ds.take (k + 1)).foldl rstp 0 = rstp ((ds.take k).foldl rstp 0) c := by
        obtain ⟨g1, g2⟩ := List.getElem?_eq_some_iff.1 h3
        rw [List.take_succ_eq_append_getElem g1, g2, List.foldl_append]
        rfl
      have HTK := hide htk
      have HI : Hid (I64 ((ds.take k).foldl rstp 0)) := rstp_I64 _ 0 (by unfold I64; omega)
      generalize (ds.take k).foldl rstp 0 = N at HTK HI htk ⊢
      have hcu : u[p].toNat = c.toNat := by rw [hpc]
      have HZ : Hid ((c.toNat : Int) = (u[p].toNat : Int)) := hide (by rw [hcu])
      have hz1 : 48 ≤ u[p].toNat := by omega
      have hz2 : u[p].toNat ≤ 57 := by omega
      have hz3 : (48 : Int) ≤ (u[p].toNat : Int) := by omega
      have hz4 : (u[p].toNat : Int) ≤ 57 := by omega
      clear htk h1 h2 h3 hcd hp hpc hcu
      go_wp2_with fail
      refine (rprod2 N 10 HI.out (by unfold I64; omega) _).mono ?_
      rintro e' w2 ⟨⟨x2, rfl⟩, rfl⟩
      have HSU := hide (rsum2 (cl (N * 10)) (-((u[p].toNat : Int) - 48)) (cl_I64 _) (by unfold I64; omega) w2)
      go_wp2_with fail
      refine HSU.out.mono ?_
      rintro e' w3 ⟨⟨x3, rfl⟩, rfl⟩
      go_wp2
      go_roundw
      case rel => exact ⟨k + 1, by omega, by rw [show i + 1 + (k + 1) = p + 1 from by rw [HP.out]; omega]; go_num, by rw [HTK.out]; unfold rstp; rw [HZ.out], by first | trivial | rfl⟩
      case measure => simp [RowKit.intOf]; omega
    · obtain rfl : k = ds.length := by omega
      rw [List.take_length]
      obtain ⟨p, hp⟩ : ∃ p, p = i + 1 + ds.length := ⟨_, rfl⟩
      have HP := hide hp
      have HEN' := HEN.out
      rw [← hp] at HRES HEN' hdl ⊢
      have HE2 := hide HEN'
      clear HEN' HEN HLT hp
      have HI : Hid (I64 (ds.foldl rstp 0)) := rstp_I64 _ 0 (by unfold I64; omega)
      generalize ds.foldl rstp 0 = N at HI HRES ⊢
      by_cases hpe : p = u.size
      · subst hpe
        go_wp2
        go_ret2
        exact ⟨congrArg Ending.returned HRES.out.symm, rfl⟩
      · have hps : p < u.size := by omega
        have hpI : (p : Int) < (u.size : Int) := by omega
        have hnd := HE2.out u[p] (u_get u p hps)
        by_cases hlo : u[p].toNat < 48
        · have hlo2 : ¬ (48 : Int) ≤ (u[p].toNat : Int) := by omega
          go_wp2
          go_ret2
          exact ⟨congrArg Ending.returned HRES.out.symm, rfl⟩
        · have hlo1 : (48 : Int) ≤ (u[p].toNat : Int) := by omega
          have hhi : ¬ (u[p].toNat : Int) ≤ 57 := by
            have : ¬ (48 ≤ u[p].toNat ∧ u[p].toNat ≤ 57) := by simpa [isD] using hnd
            omega
          go_wp2
          go_ret2
          exact ⟨congrArg Ending.returned HRES.out.symm, rfl⟩
set_option maxRecDepth 100000 in
set_option maxHeartbeats 4000000 in
theorem rdig_pos (u : ByteArray) (hs : u.size ≤ 4611686018427387904) (i : Nat) (hi : i < u.size) (hc : u[i].toNat = 43) (w : World) : Calls Tryz.prog 64 #[.string u, .int .i64 i] w fun e w' => e = .returned (.tuple #[.int .i64 (dgN (u.data.toList.drop i)), .int .i64 ((i + dgL (u.data.toList.drop i) : Nat) : Int)]) ∧ w' = w := by
  have hsg : sgn (u.data.toList.drop i) = (false, 1) := by rw [List.drop_eq_getElem_cons (by rw [Array.length_toList]; exact hi)]; have e : u.data.toList[i]'(by rw [Array.length_toList]; exact hi) = u[i] := (Option.some.inj ((List.getElem?_eq_getElem (by rw [Array.length_toList]; exact hi)).symm.trans (u_get u i hi))); rw [e]; unfold sgn; simp [hc]
  have hiI : (i : Int) < (u.size : Int) := by omega
  have hcI : (u[i].toNat : Int) = 43 := by omega
  have hll : u.data.toList.length = u.size := by rw [Array.length_toList]; rfl
  obtain ⟨ds, hds⟩ : ∃ ds, ds = (u.data.toList.drop (i + 1)).takeWhile isD := ⟨_, rfl⟩
  have HRES : Hid (.tuple #[.int .i64 (dgN (u.data.toList.drop i)), .int .i64 ((i + dgL (u.data.toList.drop i) : Nat) : Int)] = Value.tuple #[.int .i64 (cl (-(ds.foldl rstp 0))), .int .i64 ((i + 1 + ds.length : Nat) : Int)]) := by
    unfold Hid dgN dgL dgs
    rw [hsg]
    simp only [List.drop_drop]
    rw [← hds]
    simp [Nat.add_assoc]
  have hdl : i + 1 + ds.length ≤ u.size := by
    have := tw_len (p := isD) (u.data.toList.drop (i + 1))
    rw [← hds, List.length_drop, hll] at this
    omega
  have HLT : Hid (∀ k, k < ds.length → ∃ c, u.data.toList[i + 1 + k]? = some c ∧ isD c = true ∧ ds[k]? = some c) := fun k hk => by
    obtain ⟨c, h1, h2, h3⟩ := tw_lt (p := isD) (u.data.toList.drop (i + 1)) k (by rw [← hds]; exact hk)
    rw [List.getElem?_drop] at h1
    exact ⟨c, h1, h2, by rw [hds]; exact h3⟩
  have HEN : Hid (∀ c, u.data.toList[i + 1 + ds.length]? = some c → isD c = false) := fun c hc => by
    refine tw_end (p := isD) (u.data.toList.drop (i + 1)) c ?_
    rw [← hds, List.getElem?_drop]
    exact hc
  clear hds hsg
  go_enter Tryz.func64, Tryz.ntmps64
  go_wp2_with fail
  go_loopw [1, 7, 8, 9] (fun p n _ _ W => ∃ k : Nat, k ≤ ds.length ∧ p = .int .i64 ((i + 1 + k : Nat) : Int) ∧ n = .int .i64 ((ds.take k).foldl rstp 0) ∧ W = w) (fun p _ _ _ _ => u.size - (RowKit.intOf p).toNat)
  case atStart => exact ⟨0, by omega, by first | rfl | (simp; done) | go_num, rfl, rfl⟩
  case round =>
    obtain ⟨k, hk, rfl, rfl, rfl⟩ := hrel
    by_cases hlt : k < ds.length
    · obtain ⟨c, h1, h2, h3⟩ := HLT.out k hlt
      obtain ⟨hps, hpc⟩ := u_some h1
      have hcd : 48 ≤ c.toNat ∧ c.toNat ≤ 57 := by simpa [isD] using h2
      obtain ⟨p, hp⟩ : ∃ p, p = i + 1 + k := ⟨_, rfl⟩
      have HP := hide hp
      rw [← hp] at h1 ⊢
      simp only [← hp] at hps hpc
      have hpI : (p : Int) < (u.size : Int) := by omega
      have htk : (ds.take (k + 1)).foldl rstp 0 = rstp ((ds.take k).foldl rstp 0) c := by
        obtain ⟨g1, g2⟩ := List.getElem?_eq_some_iff.1 h3
        rw [List.take_succ_eq_append_getElem g1, g2, List.foldl_append]
        rfl
      have HTK := hide htk
      have HI : Hid (I64 ((ds.take k).foldl rstp 0)) := rstp_I64 _ 0 (by unfold I64; omega)
      generalize (ds.take k).foldl rstp 0 = N at HTK HI htk ⊢
      have hcu : u[p].toNat = c.toNat := by rw [hpc]
      have HZ : Hid ((c.toNat : Int) = (u[p].toNat : Int)) := hide (by rw [hcu])
      have hz1 : 48 ≤ u[p].toNat := by omega
      have hz2 : u[p].toNat ≤ 57 := by omega
      have hz3 : (48 : Int) ≤ (u[p].toNat : Int) := by omega
      have hz4 : (u[p].toNat : Int) ≤ 57 := by omega
      clear htk h1 h2 h3 hcd hp hpc hcu
      go_wp2_with fail
      refine (rprod2 N 10 HI.out (by unfold I64; omega) _).mono ?_
      rintro e' w2 ⟨⟨x2, rfl⟩, rfl⟩
      have HSU := hide (rsum2 (cl (N * 10)) (-((u[p].toNat : Int) - 48)) (cl_I64 _) (by unfold I64; omega) w2)
      go_wp2_with fail
      refine HSU.out.mono ?_
      rintro e' w3 ⟨⟨x3, rfl⟩, rfl⟩
      go_wp2
      go_roundw
      case rel => exact ⟨k + 1, by omega, by rw [show i + 1 + (k + 1) = p + 1 from by rw [HP.out]; omega]; go_num, by rw [HTK.out]; unfold rstp; rw [HZ.out], by first | trivial | rfl⟩
      case measure => simp [RowKit.intOf]; omega
    · obtain rfl : k = ds.length := by omega
      rw [List.take_length]
      obtain ⟨p, hp⟩ : ∃ p, p = i + 1 + ds.length := ⟨_, rfl⟩
      have HP := hide hp
      have HEN' := HEN.out
      rw [← hp] at HRES HEN' hdl ⊢
      have HE2 := hide HEN'
      clear HEN' HEN HLT hp
      have HI : Hid (I64 (ds.foldl rstp 0)) := rstp_I64 _ 0 (by unfold I64; omega)
      generalize ds.foldl rstp 0 = N at HI HRES ⊢
      by_cases hpe : p = u.size
      · subst hpe
        go_wp2_with fail
        refine (rminus2 N HI.out _).mono ?_
        rintro e' w2 ⟨⟨x2, rfl⟩, rfl⟩
        go_wp2
        go_ret2
        exact ⟨congrArg Ending.returned HRES.out.symm, rfl⟩
      · have hps : p < u.size := by omega
        have hpI : (p : Int) < (u.size : Int) := by omega
        have hnd := HE2.out u[p] (u_get u p hps)
        by_cases hlo : u[p].toNat < 48
        · have hlo2 : ¬ (48 : Int) ≤ (u[p].toNat : Int) := by omega
          go_wp2_with fail
          refine (rminus2 N HI.out _).mono ?_
          rintro e' w2 ⟨⟨x2, rfl⟩, rfl⟩
          go_wp2
          go_ret2
          exact ⟨congrArg Ending.returned HRES.out.symm, rfl⟩
        · have hlo1 : (48 : Int) ≤ (u[p].toNat : Int) := by omega
          have hhi : ¬ (u[p].toNat : Int) ≤ 57 := by
            have : ¬ (48 ≤ u[p].toNat ∧ u[p].toNat ≤ 57) := by simpa [isD] using hnd
            omega
          go_wp2_with fail
          refine (rminus2 N HI.out _).mono ?_
          rintro e' w2 ⟨⟨x2, rfl⟩, rfl⟩
          go_wp2
          go_ret2
          exact ⟨congrArg Ending.returned HRES.out.symm, rfl⟩
set_option maxRecDepth 100000 in
set_option maxHeartbeats 4000000 in
theorem rdig_num (u : ByteArray) (hs : u.size ≤ 4611686018427387904) (i : Nat) (hi : i < u.size) (hc : ¬ u[i].toNat = 45) (hd : ¬ u[i].toNat = 43) (w : World) : Calls Tryz.prog 64 #[.string u, .int .i64 i] w fun e w' => e = .returned (.tuple #[.int .i64 (dgN (u.data.toList.drop i)), .int .i64 ((i + dgL (u.data.toList.drop i) : Nat) : Int)]) ∧ w' = w := by
  have hsg : sgn (u.data.toList.drop i) = (false, 0) := by rw [List.drop_eq_getElem_cons (by rw [Array.length_toList]; exact hi)]; have e : u.data.toList[i]'(by rw [Array.length_toList]; exact hi) = u[i] := (Option.some.inj ((List.getElem?_eq_getElem (by rw [Array.length_toList]; exact hi)).symm.trans (u_get u i hi))); rw [e]; unfold sgn; simp [hc, hd]
  have hiI : (i : Int) < (u.size : Int) := by omega
  have hcI : ((u[i].toNat : Int) == 45) = false := beq_false_of_ne (by omega)
  have hcJ : ((u[i].toNat : Int) == 43) = false := beq_false_of_ne (by omega)
  have hll : u.data.toList.length = u.size := by rw [Array.length_toList]; rfl
  obtain ⟨ds, hds⟩ : ∃ ds, ds = (u.data.toList.drop (i + 0)).takeWhile isD := ⟨_, rfl⟩
  have HRES : Hid (.tuple #[.int .i64 (dgN (u.data.toList.drop i)), .int .i64 ((i + dgL (u.data.toList.drop i) : Nat) : Int)] = Value.tuple #[.int .i64 (cl (-(ds.foldl rstp 0))), .int .i64 ((i + 0 + ds.length : Nat) : Int)]) := by
    unfold Hid dgN dgL dgs
    rw [hsg]
    simp only [List.drop_drop]
    rw [← hds]
    simp
  have hdl : i + 0 + ds.length ≤ u.size := by
    have := tw_len (p := isD) (u.data.toList.drop (i + 0))
    rw [← hds, List.length_drop, hll] at this
    omega
  have HLT : Hid (∀ k, k < ds.length → ∃ c, u.data.toList[i + 0 + k]? = some c ∧ isD c = true ∧ ds[k]? = some c) := fun k hk => by
    obtain ⟨c, h1, h2, h3⟩ := tw_lt (p := isD) (u.data.toList.drop (i + 0)) k (by rw [← hds]; exact hk)
    rw [List.getElem?_drop] at h1
    exact ⟨c, h1, h2, by rw [hds]; exact h3⟩
  have HEN : Hid (∀ c, u.data.toList[i + 0 + ds.length]? = some c → isD c = false) := fun c hc => by
    refine tw_end (p := isD) (u.data.toList.drop (i + 0)) c ?_
    rw [← hds, List.getElem?_drop]
    exact hc
  clear hds hsg
  go_enter Tryz.func64, Tryz.ntmps64
  go_wp2_with fail
  go_loopw [1, 7, 8, 9] (fun p n _ _ W => ∃ k : Nat, k ≤ ds.length ∧ p = .int .i64 ((i + 0 + k : Nat) : Int) ∧ n = .int .i64 ((ds.take k).foldl rstp 0) ∧ W = w) (fun p _ _ _ _ => u.size - (RowKit.intOf p).toNat)
  case atStart => exact ⟨0, by omega, by first | rfl | (simp; done) | go_num, rfl, rfl⟩
  case round =>
    obtain ⟨k, hk, rfl, rfl, rfl⟩ := hrel
    by_cases hlt : k < ds.length
    · obtain ⟨c, h1, h2, h3⟩ := HLT.out k hlt
      obtain ⟨hps, hpc⟩ := u_some h1
      have hcd : 48 ≤ c.toNat ∧ c.toNat ≤ 57 := by simpa [isD] using h2
      obtain ⟨p, hp⟩ : ∃ p, p = i + 0 + k := ⟨_, rfl⟩
      have HP := hide hp
      rw [← hp] at h1 ⊢
      simp only [← hp] at hps hpc
      have hpI : (p : Int) < (u.size : Int) := by omega
      have htk : (ds.take (k + 1)).foldl rstp 0 = rstp ((ds.take k).foldl rstp 0) c := by
        obtain ⟨g1, g2⟩ := List.getElem?_eq_some_iff.1 h3
        rw [List.take_succ_eq_append_getElem g1, g2, List.foldl_append]
        rfl
      have HTK := hide htk
      have HI : Hid (I64 ((ds.take k).foldl rstp 0)) := rstp_I64 _ 0 (by unfold I64; omega)
      generalize (ds.take k).foldl rstp 0 = N at HTK HI htk ⊢
      have hcu : u[p].toNat = c.toNat := by rw [hpc]
      have HZ : Hid ((c.toNat : Int) = (u[p].toNat : Int)) := hide (by rw [hcu])
      have hz1 : 48 ≤ u[p].toNat := by omega
      have hz2 : u[p].toNat ≤ 57 := by omega
      have hz3 : (48 : Int) ≤ (u[p].toNat : Int) := by omega
      have hz4 : (u[p].toNat : Int) ≤ 57 := by omega
      clear htk h1 h2 h3 hcd hp hpc hcu
      go_wp2_with fail
      refine (rprod2 N 10 HI.out (by unfold I64; omega) _).mono ?_
      rintro e' w2 ⟨⟨x2, rfl⟩, rfl⟩
      have HSU := hide (rsum2 (cl (N * 10)) (-((u[p].toNat : Int) - 48)) (cl_I64 _) (by unfold I64; omega) w2)
      go_wp2_with fail
      refine HSU.out.mono ?_
      rintro e' w3 ⟨⟨x3, rfl⟩, rfl⟩
      go_wp2
      go_roundw
      case rel => exact ⟨k + 1, by omega, by rw [show i + 0 + (k + 1) = p + 1 from by rw [HP.out]; omega]; go_num, by rw [HTK.out]; unfold rstp; rw [HZ.out], by first | trivial | rfl⟩
      case measure => simp [RowKit.intOf]; omega
    · obtain rfl : k = ds.length := by omega
      rw [List.take_length]
      obtain ⟨p, hp⟩ : ∃ p, p = i + 0 + ds.length := ⟨_, rfl⟩
      have HP := hide hp
      have HEN' := HEN.out
      rw [← hp] at HRES HEN' hdl ⊢
      have HE2 := hide HEN'
      clear HEN' HEN HLT hp
      have HI : Hid (I64 (ds.foldl rstp 0)) := rstp_I64 _ 0 (by unfold I64; omega)
      generalize ds.foldl rstp 0 = N at HI HRES ⊢
      by_cases hpe : p = u.size
      · subst hpe
        go_wp2_with fail
        refine (rminus2 N HI.out _).mono ?_
        rintro e' w2 ⟨⟨x2, rfl⟩, rfl⟩
        go_wp2
        go_ret2
        exact ⟨congrArg Ending.returned HRES.out.symm, rfl⟩
      · have hps : p < u.size := by omega
        have hpI : (p : Int) < (u.size : Int) := by omega
        have hnd := HE2.out u[p] (u_get u p hps)
        by_cases hlo : u[p].toNat < 48
        · have hlo2 : ¬ (48 : Int) ≤ (u[p].toNat : Int) := by omega
          go_wp2_with fail
          refine (rminus2 N HI.out _).mono ?_
          rintro e' w2 ⟨⟨x2, rfl⟩, rfl⟩
          go_wp2
          go_ret2
          exact ⟨congrArg Ending.returned HRES.out.symm, rfl⟩
        · have hlo1 : (48 : Int) ≤ (u[p].toNat : Int) := by omega
          have hhi : ¬ (u[p].toNat : Int) ≤ 57 := by
            have : ¬ (48 ≤ u[p].toNat ∧ u[p].toNat ≤ 57) := by simpa [isD] using hnd
            omega
          go_wp2_with fail
          refine (rminus2 N HI.out _).mono ?_
          rintro e' w2 ⟨⟨x2, rfl⟩, rfl⟩
          go_wp2
          go_ret2
          exact ⟨congrArg Ending.returned HRES.out.symm, rfl⟩
theorem rdig_any (u : ByteArray) (hs : u.size ≤ 4611686018427387904) (i : Nat) (hi : i ≤ u.size) (w : World) : Calls Tryz.prog 64 #[.string u, .int .i64 i] w fun e w' => e = .returned (.tuple #[.int .i64 (dgN (u.data.toList.drop i)), .int .i64 ((i + dgL (u.data.toList.drop i) : Nat) : Int)]) ∧ w' = w := by
  by_cases h0 : i = u.size
  · exact rdig_none u hs i h0 w
  · have h1 : i < u.size := by omega
    by_cases h2 : u[i].toNat = 45
    · exact rdig_neg u hs i h1 h2 w
    · by_cases h3 : u[i].toNat = 43
      · exact rdig_pos u hs i h1 h3 w
      · exact rdig_num u hs i h1 h2 h3 w
end Go.Proofs.YthgpegldlcfolaaGreatDoor
