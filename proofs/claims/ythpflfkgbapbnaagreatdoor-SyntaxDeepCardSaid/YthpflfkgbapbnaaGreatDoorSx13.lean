/- Tokens: Lex. -/
import Derived.Test.YthpflfkgbapbnaaGreatDoorSx6
import Derived.Test.YthpflfkgbapbnaaGreatDoorSx9
import Derived.Test.YthpflfkgbapbnaaGreatDoorShX2
import Derived.Shelf.Pu.ErrVarParseUint
import Derived.Maps.AppendAt
import Derived.OwnWalk
namespace Go.Proofs.YthpflfkgbapbnaaGreatDoor
section
section
section
section
open Go.RowKit

def vsz : Value → Nat
  | .string s => s.size
  | _ => 0
theorem nz0_z {c : UInt8} (r : List UInt8) (h : c.toNat = 48) : nz0 (c :: r) = nz0 r := by
  unfold nz0; rw [List.dropWhile_cons, if_pos (by simp [h])]
theorem nz0_n {c : UInt8} (r : List UInt8) (h : ¬ c.toNat = 48) : nz0 (c :: r) = c :: r := by
  unfold nz0; rw [List.dropWhile_cons, if_neg (by simp [h])]
theorem u_cons (d : ByteArray) (h : 0 < d.size) : d.data.toList = d[0] :: (d.extract 1 d.size).data.toList := by
  rw [x_tail]
  have := drop_at (x_get d 0 h)
  rwa [List.drop_zero] at this
theorem u_nil (d : ByteArray) (h : d.size = 0) : d.data.toList = [] := List.eq_nil_of_length_eq_zero (by rw [x_len]; exact h)
theorem any_bat {p : UInt8 → Bool} (h0 : p 0 = false) (l : List UInt8) (i : Nat) : (l[i]?).any p = p (bAt l i) := by
  unfold bAt
  cases l[i]? with
  | none => exact h0.symm
  | some c => rfl
theorem im_at (l : List UInt8) (i p : Nat) (hp : p = i + spn xD (l.drop i)) : imB (l.drop i) = (decide ((bAt l p).toNat = 105) && !xW (bAt l (p + 1))) := by
  unfold imB
  rw [List.getElem?_drop, List.getElem?_drop, ← Nat.add_assoc, ← hp, any_bat (by decide), any_bat xW_zero]
theorem decA : decN [57, 50, 50, 51, 51, 55, 50, 48, 51, 54, 56, 53, 52, 55, 55, 53, 56, 48, 56] = 9223372036854775808 := by decide
theorem decB : decN [51, 51, 53, 53, 52, 52, 51, 50] = 33554432 := by decide
theorem tw_mem {p : UInt8 → Bool} : ∀ (l : List UInt8) (c : UInt8), c ∈ l.takeWhile p → p c = true
  | [], c, h => by simp at h
  | d :: l, c, h => by
    rw [List.takeWhile_cons] at h
    cases hp : p d with
    | false => rw [hp] at h; simp at h
    | true =>
      rw [hp] at h
      simp only [if_true, List.mem_cons] at h
      rcases h with rfl | h
      · exact hp
      · exact tw_mem l c h
theorem dsT (l : List UInt8) (i n : Nat) (hn : n = spn xD (l.drop i)) : isDs ((l.drop i).take n) := fun c hc => by
  rw [hn, spn_take] at hc
  exact tw_mem _ c hc
end
open Go.RowKit

theorem spn_c {p : UInt8 → Bool} {c : UInt8} (r : List UInt8) (h : p c = true) : spn p (c :: r) = 1 + spn p r := by
  unfold spn; rw [List.takeWhile_cons, h]; simp; omega
theorem spn_0 {p : UInt8 → Bool} (h0 : p 0 = false) (l : List UInt8) (i : Nat) : (spn p (l.drop i) = 0) ↔ p (bAt l i) = false := by
  cases hd : l[i]? with
  | none =>
    rw [bAt_none (List.getElem?_eq_none_iff.1 hd), List.drop_of_length_le (List.getElem?_eq_none_iff.1 hd)]
    simp [spn, h0]
  | some c =>
    rw [bAt_some hd, drop_at hd]
    unfold spn
    rw [List.takeWhile_cons]
    cases p c <;> simp
def imK (l : List UInt8) (p : Nat) : Bool := decide ((bAt l p).toNat = 105) && !xW (bAt l (p + 1))
set_option maxRecDepth 100000 in
set_option maxHeartbeats 1000000 in
theorem kn_any (u : ByteArray) (hs : u.size ≤ 4611686018427387904) (p : Nat) (hp : p ≤ u.size) (w : World) : Calls Tryz.prog 90 #[.string u, .int .i64 p] w fun e w' => e = .returned (.int .i64 (if imK u.data.toList p then 4 else 3)) ∧ w' = w := by
  have hll := x_len u
  by_cases hlt : p < u.size
  · have hltI : (p : Int) < (u.size : Int) := by omega
    have hgt := x_get u p hlt
    have hb := bAt_some hgt
    by_cases c1 : u[p].toNat = 105
    · have k1 : (u[p].toNat : Int) = 105 := by omega
      have HER := xh (run_W u hs p hp)
      have hW : xW u[p] = true := by simp [xW, xA, c1]
      rw [drop_at hgt, spn_c _ hW] at HER
      have hsp := spn_0 xW_zero u.data.toList (p + 1)
      have hsl := spn_len (p := xW) (u.data.toList.drop (p + 1))
      rw [List.length_drop, hll] at hsl
      have him : imK u.data.toList p = !xW (bAt u.data.toList (p + 1)) := by unfold imK; rw [hb, c1]; simp
      rw [him]
      generalize spn xW (u.data.toList.drop (p + 1)) = m at HER hsp hsl
      cases hx : xW (bAt u.data.toList (p + 1)) with
      | false =>
        have h0 : m = 0 := hsp.2 hx
        subst h0
        clear hsp hb hgt c1 hW him hx hsl
        go_enter Tryz.func90, Tryz.ntmps90
        go_wp2_with (first | (go_at_call 54; refine (HER.out _).mono ?_; rintro e w1 ⟨rfl, rfl⟩) | fail)
        go_ret
        exact ⟨rfl, rfl⟩
      | true =>
        have h0 : ¬ m = 0 := fun h => by rw [hsp.1 h] at hx; cases hx
        have h1 : (((p + (1 + m) : Nat) : Int) == (p : Int) + 1) = false := beq_false_of_ne (by omega)
        obtain ⟨z, hz⟩ : ∃ z : Int, z = ((p + (1 + m) : Nat) : Int) := ⟨_, rfl⟩
        rw [← hz] at HER h1
        clear hsp hb hgt c1 hW him hx hz hsl h0
        go_enter Tryz.func90, Tryz.ntmps90
        go_wp2_with (first | (go_at_call 54; refine (HER.out _).mono ?_; rintro e w1 ⟨rfl, rfl⟩) | fail)
        go_ret
        exact ⟨rfl, rfl⟩
    · have k1 : ((u[p].toNat : Int) == 105) = false := beq_false_of_ne (by omega)
      have him : imK u.data.toList p = false := by unfold imK; rw [hb]; simp [c1]
      rw [him]
      clear hb hgt c1 him
      go_enter Tryz.func90, Tryz.ntmps90
      go_wp2
      go_ret
      exact ⟨rfl, rfl⟩
  · have hltI : ¬ (p : Int) < (u.size : Int) := by omega
    have him : imK u.data.toList p = false := by unfold imK; rw [bAt_none (by omega)]; simp
    rw [him]
    clear him
    go_enter Tryz.func90, Tryz.ntmps90
    go_wp2
    go_ret
    exact ⟨rfl, rfl⟩
/-- The kind of what begins at a place. -/
def kF (c : UInt8) (r : List UInt8) : Int := if xA c then 1 else if xD c then (if imB r then 4 else 3) else if c.toNat = 39 then 5 else kmF r
set_option maxRecDepth 100000 in
set_option maxHeartbeats 1000000 in
theorem ka_any (u : ByteArray) (hs : u.size ≤ 4611686018427387904) (i : Nat) (hi : i < u.size) (w : World) (hE : Lxe w) : Calls Tryz.prog 53 #[.string u, .int .i64 i] w fun e w' => e = .returned (.int .i64 (kF u[i] (u.data.toList.drop i))) ∧ w' = w := by
  have hll := x_len u
  have hiI : ((i : Int) == (u.size : Int)) = false := beq_false_of_ne (by omega)
  have hiJ : (i : Int) < (u.size : Int) := by omega
  have hiK : (i : Int) ≤ (u.size : Int) := by omega
  have hgt := x_get u i hi
  have HL := xh (isL u[i])
  have HD := xh (isDg u[i])
  have HER := xh (run_D u hs i (by omega))
  have hnl := spn_len (p := xD) (u.data.toList.drop i)
  rw [List.length_drop, hll] at hnl
  have HKN := xh (kn_any u hs (i + spn xD (u.data.toList.drop i)) (by omega))
  have him := im_at u.data.toList i (i + spn xD (u.data.toList.drop i)) rfl
  have hk2 : imK u.data.toList (i + spn xD (u.data.toList.drop i)) = imB (u.data.toList.drop i) := him.symm
  rw [hk2] at HKN
  have HKM := xh (km_any (u.extract i u.size) u[i] (u.data.toList.drop (i + 1)) (by rw [x_tail]; exact drop_at hgt) w hE)
  rw [x_tail] at HKM
  generalize i + spn xD (u.data.toList.drop i) = p at HER HKN
  have HKF : Hid (kF u[i] (u.data.toList.drop i) = if xA u[i] then 1 else if xD u[i] then (if imB (u.data.toList.drop i) then 4 else 3) else if u[i].toNat = 39 then 5 else kmF (u.data.toList.drop i)) := rfl
  generalize kF u[i] (u.data.toList.drop i) = K at HKF
  clear him hk2 hnl hgt hE
  generalize imB (u.data.toList.drop i) = bi at HKN HKF
  generalize kmF (u.data.toList.drop i) = kk at HKM HKF
  cases hA : xA u[i] with
  | true =>
    rw [hA] at HL HKF
    go_enter Tryz.func53, Tryz.ntmps53
    go_wp2_with (first
    | (go_at_call 59; refine (HL.out _).mono ?_; rintro e w1 ⟨rfl, rfl⟩)
    | (go_at_call 57; refine (HD.out _).mono ?_; rintro e w1 ⟨rfl, rfl⟩)
    | (go_at_call 54; refine (HER.out _).mono ?_; rintro e w1 ⟨rfl, rfl⟩)
    | (go_at_call 90; refine (HKN.out _).mono ?_; rintro e w1 ⟨rfl, rfl⟩)
    | (go_at_call 91; refine HKM.out.mono ?_; rintro e w1 ⟨rfl, rfl⟩)
    | fail)
    go_ret
    exact ⟨by rw [HKF.out]; rfl, rfl⟩
  | false =>
    rw [hA] at HL HKF
    cases hDD : xD u[i] with
    | true =>
      rw [hDD] at HD HKF
      have HKF2 : Hid (K = if bi = true then 4 else 3) := HKF.out
      clear HKF
      generalize (if bi = true then (4 : Int) else 3) = q at HKN HKF2
      go_enter Tryz.func53, Tryz.ntmps53
      go_wp2_with (first
    | (go_at_call 59; refine (HL.out _).mono ?_; rintro e w1 ⟨rfl, rfl⟩)
    | (go_at_call 57; refine (HD.out _).mono ?_; rintro e w1 ⟨rfl, rfl⟩)
    | (go_at_call 54; refine (HER.out _).mono ?_; rintro e w1 ⟨rfl, rfl⟩)
    | (go_at_call 90; refine (HKN.out _).mono ?_; rintro e w1 ⟨rfl, rfl⟩)
    | (go_at_call 91; refine HKM.out.mono ?_; rintro e w1 ⟨rfl, rfl⟩)
    | fail)
      go_ret
      exact ⟨by rw [HKF2.out]; rfl, rfl⟩
    | false =>
      rw [hDD] at HD HKF
      by_cases c1 : u[i].toNat = 39
      · have k1 : (u[i].toNat : Int) = 39 := by omega
        have HKF2 : Hid (K = 5) := by rw [HKF.out, if_neg (by decide), if_neg (by decide), if_pos c1]; exact rfl
        rw [k1] at HL HD
        clear HKF c1
        go_enter Tryz.func53, Tryz.ntmps53
        go_wp2_with (first
    | (go_at_call 59; refine (HL.out _).mono ?_; rintro e w1 ⟨rfl, rfl⟩)
    | (go_at_call 57; refine (HD.out _).mono ?_; rintro e w1 ⟨rfl, rfl⟩)
    | (go_at_call 54; refine (HER.out _).mono ?_; rintro e w1 ⟨rfl, rfl⟩)
    | (go_at_call 90; refine (HKN.out _).mono ?_; rintro e w1 ⟨rfl, rfl⟩)
    | (go_at_call 91; refine HKM.out.mono ?_; rintro e w1 ⟨rfl, rfl⟩)
    | fail)
        go_ret
        exact ⟨by rw [HKF2.out]; rfl, rfl⟩
      · have k1 : ((u[i].toNat : Int) == 39) = false := beq_false_of_ne (by omega)
        have HKF2 : Hid (K = kk) := by rw [HKF.out, if_neg (by decide), if_neg (by decide), if_neg c1]; exact rfl
        clear HKF c1
        go_enter Tryz.func53, Tryz.ntmps53
        go_wp2_with (first
    | (go_at_call 59; refine (HL.out _).mono ?_; rintro e w1 ⟨rfl, rfl⟩)
    | (go_at_call 57; refine (HD.out _).mono ?_; rintro e w1 ⟨rfl, rfl⟩)
    | (go_at_call 54; refine (HER.out _).mono ?_; rintro e w1 ⟨rfl, rfl⟩)
    | (go_at_call 90; refine (HKN.out _).mono ?_; rintro e w1 ⟨rfl, rfl⟩)
    | (go_at_call 91; refine HKM.out.mono ?_; rintro e w1 ⟨rfl, rfl⟩)
    | fail)
        go_ret
        exact ⟨by rw [HKF2.out]; rfl, rfl⟩
set_option maxRecDepth 100000 in
set_option maxHeartbeats 1000000 in
theorem ka_end (u : ByteArray) (w : World) : Calls Tryz.prog 53 #[.string u, .int .i64 u.size] w fun e w' => e = .returned (.int .i64 7) ∧ w' = w := by
  go_enter Tryz.func53, Tryz.ntmps53
  go_wp2
  go_ret
  exact ⟨rfl, rfl⟩
theorem pu64 (u : ByteArray) (hs : u.size ≤ 140737488351232) (hd : isDs u.data.toList) (h0 : 0 < u.size) (w : World) (hE : Env w) : Calls Tryz.prog 58 #[.string u, .int .i64 10, .int .i64 64] w fun e w' => ((decN u.data.toList ≤ 18446744073709551615 ∧ e = .returned (.tuple #[.int .u64 (decN u.data.toList : Nat), .nilIface])) ∨ (18446744073709551615 < decN u.data.toList ∧ ∃ n t p, e = .returned (.tuple #[.int .u64 n, .iface t p]))) ∧ G w w' := by
  have hne : u.data.toList ≠ [] := fun h => by
    have := congrArg List.length h
    rw [x_len, List.length_nil] at this
    omega
  have hp := pu_dec u.data.toList hd hne
  by_cases hc : decN u.data.toList ≤ 18446744073709551615
  · rw [if_pos hc] at hp
    refine (Any.strconv_ParseUint_10_at64_ok Tryz.laysParseUint u (by omega) _ hp w).mono ?_
    rintro e w' ⟨he, hw⟩
    refine ⟨.inl ⟨hc, he⟩, ?_⟩
    rcases hw with rfl | rfl
    · exact G.refl _
    · exact ⟨rfl, rfl, rfl, by rw [Lib.bytesWorld_size]; omega, fun j hj => Lib.bytesWorld_at_old w 5 _ j hj⟩
  · rw [if_neg hc] at hp
    obtain ⟨tp, p, hv⟩ := hE.r
    refine (Any.strconv_ParseUint_10_at64_range_var Tryz.laysParseUint u (by omega) hp tp p w hv).mono ?_
    rintro e w' ⟨N, he, _, _, hb⟩
    exact ⟨.inr ⟨by omega, _, _, _, he⟩, hb⟩
end
open Go.RowKit

theorem tk_n {Q : List UInt8 → Option ByteArray → Prop} {c : UInt8} (r : List UInt8) (h : ¬ c.toNat = 39) : Tk Q (c :: r) (tkN c (c :: r)) := by
  simp only [Tk]; rw [if_neg h]; trivial
theorem ex_nil (u : ByteArray) (i : Nat) : u.extract i i = ⟨#[]⟩ := by
  apply ByteArray.ext
  rw [ByteArray.data_extract]
  apply Array.ext'
  simp
set_option maxRecDepth 100000 in
set_option maxHeartbeats 1000000 in
theorem ta_nm (u : ByteArray) (hs : u.size ≤ 140737488351232) (i : Nat) (hi : i < u.size) (hA : xA u[i] = true) (w : World) (hE : Lxe w) : Calls Tryz.prog 31 #[.string u, .int .i64 i] w fun e w' => ∃ x, Tk StA (u.data.toList.drop i) x ∧ e = .returned (tokV i x) ∧ G w w' := by
  have hll := x_len u
  have hgt := x_get u i hi
  have hdp := drop_at hgt
  have HRP := xh (Rp.new w)
  have HE1 := xh (hE.G HRP.out.g)
  have HKA := xh (fun W (h : Lxe W) => ka_any u (by omega) i hi W h)
  have hkf : kF u[i] (u.data.toList.drop i) = 1 := by unfold kF; rw [hA, if_pos rfl]
  rw [hkf] at HKA
  have h39 : ¬ u[i].toNat = 39 := fun h => by simp [xA, h] at hA
  have HT0 : Hid (Tk StA (u.data.toList.drop i) (nmT (u.data.toList.drop i))) := by
    have := tk_n (Q := StA) (c := u[i]) (u.data.toList.drop (i + 1)) h39
    rw [← hdp] at this
    unfold tkN at this
    rw [hA, if_pos rfl] at this
    exact this
  have HER := xh (run_W u (by omega) i (by omega))
  obtain ⟨n, hn⟩ : ∃ n, n = spn xW (u.data.toList.drop i) := ⟨_, rfl⟩
  have hnl := spn_len (p := xW) (u.data.toList.drop i)
  rw [List.length_drop, hll] at hnl
  have hn1 := spn_cons (p := xW) (c := u[i]) (u.data.toList.drop (i + 1)) (by simp [xW, hA])
  rw [← hdp] at hn1
  rw [← hn] at HER hnl hn1
  obtain ⟨p, hp⟩ : ∃ p, p = i + n := ⟨_, rfl⟩
  rw [← hp] at HER
  have hip : (i : Int) ≤ (p : Int) := by omega
  have hpu : (p : Int) ≤ (u.size : Int) := by omega
  have HEX := xh (x_ext u i n p hp)
  have HIW := xh (fun W (h : Lxe W) => iw_any (u.extract i p) W h)
  rw [HEX.out, sU_list, ← HEX.out] at HIW
  have HP := xh hp
  have hnm : nmT (u.data.toList.drop i) = if 8 < n then .bad 102 0 else .tok (if wdB ((u.data.toList.drop i).take n) then 2 else 1) (u.extract i p) n := by unfold nmT; rw [← hn, HEX.out]
  rw [hnm] at HT0
  generalize wdB ((u.data.toList.drop i).take n) = b at HIW HT0
  by_cases h8 : 8 < n
  · have h8I : (8 : Int) < (p : Int) - (i : Int) := by omega
    have HT := xh HT0.out
    rw [if_pos h8] at HT
    clear HT0 hnm hn h39 hkf hdp hgt hll h8 hnl hn1 hA hp HEX hE
    go_enter Tryz.func31, Tryz.ntmps31
    go_wp2_with (first | (go_at_call 53; refine Hid.out ?_) | fail)
    unfold Hid
    generalize (w.alloc (.cells #[I 0, .string E0, I 0] 60)).alloc (.cells #[I 0, I 0] 55) = wb at HRP HE1 ⊢
    refine (HKA.out _ HE1.out).mono ?_
    rintro e w1 ⟨rfl, rfl⟩
    have hcr := HRP.out.c
    have hfr := HRP.out.f
    have hdr := HRP.out.d
    have hhr := HRP.out.h
    go_wp2_with (first | (go_at_call 54; refine (HER.out _).mono ?_; rintro e w2 ⟨rfl, rfl⟩) | fail)
    refine bodyPost_ret (v := .tuple #[.agg #[I 0, .string E0, I 0], I 0, .agg #[I 102, I i]]) (by simp [results, Tryz.results31, go_sem, hcr, hdr]) rfl ⟨_, HT.out, ?_, G.five HRP.out.g _ _ _ _ _⟩
    rfl
  · have h8I : ¬ (8 : Int) < (p : Int) - (i : Int) := by omega
    have HT := xh HT0.out
    rw [if_neg h8] at HT
    clear HT0 hnm hn h39 hkf hdp hgt hll h8 hnl hn1 hA hp HEX hE
    cases b with
    | true =>
      go_enter Tryz.func31, Tryz.ntmps31
      go_wp2_with (first | (go_at_call 53; refine Hid.out ?_) | fail)
      unfold Hid
      generalize (w.alloc (.cells #[I 0, .string E0, I 0] 60)).alloc (.cells #[I 0, I 0] 55) = wb at HRP HE1 ⊢
      refine (HKA.out _ HE1.out).mono ?_
      rintro e w1 ⟨rfl, rfl⟩
      have hcr := HRP.out.c
      have hfr := HRP.out.f
      have hdr := HRP.out.d
      have hhr := HRP.out.h
      go_wp2_with (first | (go_at_call 54; refine (HER.out _).mono ?_; rintro e w2 ⟨rfl, rfl⟩) | (go_at_call 56; refine (HIW.out _ HE1.out).mono ?_; rintro e w2 ⟨rfl, rfl⟩) | fail)
      refine bodyPost_ret (v := .tuple #[.agg #[I 2, .string (u.extract i p), I i], I (p : Int), .agg #[I 0, I 0]]) (by simp [results, Tryz.results31, go_sem, hcr, hdr]) rfl ⟨_, HT.out, ?_, G.five HRP.out.g _ _ _ _ _⟩
      simp only [tokV]; rw [HP.out]; rfl
    | false =>
      go_enter Tryz.func31, Tryz.ntmps31
      go_wp2_with (first | (go_at_call 53; refine Hid.out ?_) | fail)
      unfold Hid
      generalize (w.alloc (.cells #[I 0, .string E0, I 0] 60)).alloc (.cells #[I 0, I 0] 55) = wb at HRP HE1 ⊢
      refine (HKA.out _ HE1.out).mono ?_
      rintro e w1 ⟨rfl, rfl⟩
      have hcr := HRP.out.c
      have hfr := HRP.out.f
      have hdr := HRP.out.d
      have hhr := HRP.out.h
      go_wp2_with (first | (go_at_call 54; refine (HER.out _).mono ?_; rintro e w2 ⟨rfl, rfl⟩) | (go_at_call 56; refine (HIW.out _ HE1.out).mono ?_; rintro e w2 ⟨rfl, rfl⟩) | fail)
      refine bodyPost_ret (v := .tuple #[.agg #[I 1, .string (u.extract i p), I i], I (p : Int), .agg #[I 0, I 0]]) (by simp [results, Tryz.results31, go_sem, hcr, hdr]) rfl ⟨_, HT.out, ?_, G.five HRP.out.g _ _ _ _ _⟩
      simp only [tokV]; rw [HP.out]; rfl
set_option maxRecDepth 100000 in
set_option maxHeartbeats 1000000 in
theorem ta_mk (u : ByteArray) (hs : u.size ≤ 140737488351232) (i : Nat) (hi : i < u.size) (hA : xA u[i] = false) (hD : xD u[i] = false) (h39 : ¬ u[i].toNat = 39) (w : World) (hE : Lxe w) : Calls Tryz.prog 31 #[.string u, .int .i64 i] w fun e w' => ∃ x, Tk StA (u.data.toList.drop i) x ∧ e = .returned (tokV i x) ∧ G w w' := by
  have hll := x_len u
  have hgt := x_get u i hi
  have hdp := drop_at hgt
  have HRP := xh (Rp.new w)
  have HE1 := xh (hE.G HRP.out.g)
  have HKA := xh (fun W (h : Lxe W) => ka_any u (by omega) i hi W h)
  have hkf : kF u[i] (u.data.toList.drop i) = kmF (u.data.toList.drop i) := by unfold kF; rw [hA, hD, if_neg (by decide), if_neg (by decide), if_neg h39]
  rw [hkf] at HKA
  have HT0 : Hid (Tk StA (u.data.toList.drop i) (mkT u[i] (u.data.toList.drop i))) := by
    have := tk_n (Q := StA) (c := u[i]) (u.data.toList.drop (i + 1)) h39
    rw [← hdp] at this
    unfold tkN at this
    rw [hA, hD, if_neg (by decide), if_neg (by decide)] at this
    exact this
  have hkm : kmF (u.data.toList.drop i) = if mk2 (u.data.toList.drop i) then 8 else if mk1 u[i] then 6 else 0 := by unfold kmF; rw [hdp]
  cases h2 : mk2 (u.data.toList.drop i) with
  | true =>
    have hl2 := mk2_len h2
    rw [List.length_drop, hll] at hl2
    have h1 : mk1 u[i] = true := by
      have := mk2_at hgt
      rw [h2] at this
      have := of_decide_eq_true this.symm
      rcases this with h | h | h <;> simp [mk1, h.1]
    have HT : Hid (Tk StA (u.data.toList.drop i) (.tok 6 (u.extract i (i + 2)) 2)) := by
      have := HT0.out
      unfold mkT at this
      rw [h1, h2, if_pos rfl, if_pos rfl, ← sU_ext] at this
      exact this
    rw [hkm, h2, if_pos rfl] at HKA
    have hi2 : (i : Int) + 2 ≤ (u.size : Int) := by omega
    have hi3 : (i : Int) ≤ (i : Int) + 2 := by omega
    clear HT0 hkm h39 hkf hdp hgt hll h1 h2 hA hD hl2 hE
    go_enter Tryz.func31, Tryz.ntmps31
    go_wp2_with (first | (go_at_call 53; refine Hid.out ?_) | fail)
    unfold Hid
    generalize (w.alloc (.cells #[I 0, .string E0, I 0] 60)).alloc (.cells #[I 0, I 0] 55) = wb at HRP HE1 ⊢
    refine (HKA.out _ HE1.out).mono ?_
    rintro e w1 ⟨rfl, rfl⟩
    have hcr := HRP.out.c
    have hfr := HRP.out.f
    have hdr := HRP.out.d
    have hhr := HRP.out.h
    go_wp2
    refine bodyPost_ret (v := .tuple #[.agg #[I 6, .string (u.extract i (i + 2)), I i], I ((i : Int) + 1 + 1), .agg #[I 0, I 0]]) (by simp [results, Tryz.results31, go_sem, hcr, hdr]) rfl ⟨_, HT.out, ?_, G.five HRP.out.g _ _ _ _ _⟩
    rw [show (i : Int) + 1 + 1 = ((i + 2 : Nat) : Int) from by omega]; rfl
  | false =>
    cases h1 : mk1 u[i] with
    | true =>
      have HT : Hid (Tk StA (u.data.toList.drop i) (.tok 6 (u.extract i (i + 1)) 1)) := by
        have := HT0.out
        unfold mkT at this
        rw [h1, h2, if_pos rfl, if_neg (by decide), ← sU_ext] at this
        exact this
      rw [hkm, h2, h1, if_neg (by decide), if_pos rfl] at HKA
      have hi2 : (i : Int) + 1 ≤ (u.size : Int) := by omega
      have hi3 : (i : Int) ≤ (i : Int) + 1 := by omega
      clear HT0 hkm h39 hkf hdp hgt hll h1 h2 hA hD hE
      go_enter Tryz.func31, Tryz.ntmps31
      go_wp2_with (first | (go_at_call 53; refine Hid.out ?_) | fail)
      unfold Hid
      generalize (w.alloc (.cells #[I 0, .string E0, I 0] 60)).alloc (.cells #[I 0, I 0] 55) = wb at HRP HE1 ⊢
      refine (HKA.out _ HE1.out).mono ?_
      rintro e w1 ⟨rfl, rfl⟩
      have hcr := HRP.out.c
      have hfr := HRP.out.f
      have hdr := HRP.out.d
      have hhr := HRP.out.h
      go_wp2
      refine bodyPost_ret (v := .tuple #[.agg #[I 6, .string (u.extract i (i + 1)), I i], I ((i : Int) + 1), .agg #[I 0, I 0]]) (by simp [results, Tryz.results31, go_sem, hcr, hdr]) rfl ⟨_, HT.out, ?_, G.five HRP.out.g _ _ _ _ _⟩
      rfl
    | false =>
      have HT : Hid (Tk StA (u.data.toList.drop i) (.bad 100 0)) := by
        have := HT0.out
        unfold mkT at this
        rw [h1, if_neg (by decide)] at this
        exact this
      rw [hkm, h2, h1, if_neg (by decide), if_neg (by decide)] at HKA
      clear HT0 hkm h39 hkf hdp hgt hll h1 h2 hA hD hE
      go_enter Tryz.func31, Tryz.ntmps31
      go_wp2_with (first | (go_at_call 53; refine Hid.out ?_) | fail)
      unfold Hid
      generalize (w.alloc (.cells #[I 0, .string E0, I 0] 60)).alloc (.cells #[I 0, I 0] 55) = wb at HRP HE1 ⊢
      refine (HKA.out _ HE1.out).mono ?_
      rintro e w1 ⟨rfl, rfl⟩
      have hcr := HRP.out.c
      have hfr := HRP.out.f
      have hdr := HRP.out.d
      have hhr := HRP.out.h
      go_wp2
      refine bodyPost_ret (v := .tuple #[.agg #[I 0, .string E0, I 0], I 0, .agg #[I 100, I i]]) (by simp [results, Tryz.results31, go_sem, hcr, hdr]) rfl ⟨_, HT.out, ?_, G.five HRP.out.g _ _ _ _ _⟩
      rfl
set_option maxRecDepth 100000 in
set_option maxHeartbeats 1000000 in
theorem ta_nu (u : ByteArray) (hs : u.size ≤ 140737488351232) (i : Nat) (hi : i < u.size) (hA : xA u[i] = false) (hD : xD u[i] = true) (w : World) (hE : Lxe w) : Calls Tryz.prog 31 #[.string u, .int .i64 i] w fun e w' => ∃ x, Tk StA (u.data.toList.drop i) x ∧ e = .returned (tokV i x) ∧ G w w' := by
  have hll := x_len u
  have hgt := x_get u i hi
  have hdp := drop_at hgt
  have HRP := xh (Rp.new w)
  have HE1 := xh (hE.G HRP.out.g)
  have HKA := xh (fun W (h : Lxe W) => ka_any u (by omega) i hi W h)
  have h39 : ¬ u[i].toNat = 39 := fun h => by simp [xD, h] at hD
  have HT0 : Hid (Tk StA (u.data.toList.drop i) (nuT (u.data.toList.drop i))) := by
    have := tk_n (Q := StA) (c := u[i]) (u.data.toList.drop (i + 1)) h39
    rw [← hdp] at this
    unfold tkN at this
    rw [hA, hD, if_neg (by decide), if_pos rfl] at this
    exact this
  have hkf : kF u[i] (u.data.toList.drop i) = if imB (u.data.toList.drop i) then 4 else 3 := by unfold kF; rw [hA, hD, if_neg (by decide), if_pos rfl]
  rw [hkf] at HKA
  have HER := xh (run_D u (by omega) i (by omega))
  obtain ⟨n, hn⟩ : ∃ n, n = spn xD (u.data.toList.drop i) := ⟨_, rfl⟩
  have hnl := spn_len (p := xD) (u.data.toList.drop i)
  rw [List.length_drop, hll] at hnl
  have hn1 := spn_cons (p := xD) (c := u[i]) (u.data.toList.drop (i + 1)) hD
  rw [← hdp] at hn1
  rw [← hn] at HER hnl hn1
  obtain ⟨p, hp⟩ : ∃ p, p = i + n := ⟨_, rfl⟩
  rw [← hp] at HER
  have hip : (i : Int) ≤ (p : Int) := by omega
  have hpu : (p : Int) ≤ (u.size : Int) := by omega
  have hpn : p ≤ u.size := by omega
  have HEX := xh (x_ext u i n p hp)
  have hexs : (u.extract i p).size = n := by rw [ByteArray.size_extract]; omega
  have HPU := xh (fun W (h : Env W) => pu64 (u.extract i p) (by omega) (by rw [HEX.out, sU_list]; exact dsT _ i n hn) (by omega) W h)
  rw [HEX.out, sU_list, ← HEX.out] at HPU
  have HP := xh hp
  have him := im_at u.data.toList i p (by rw [← hn]; exact hp)
  have hlt : ((u.data.toList.drop i)[n]?).any xA = xA (bAt u.data.toList p) := by
    rw [List.getElem?_drop, ← hp]; exact any_bat xA_zero _ _
  have hnu : nuT (u.data.toList.drop i) = if imB (u.data.toList.drop i) then (if 33554432 < decN ((u.data.toList.drop i).take n) then .bad 102 0 else .tok 4 (u.extract i (p + 1)) (n + 1)) else if 9223372036854775808 < decN ((u.data.toList.drop i).take n) then .bad 102 0 else if xA (bAt u.data.toList p) then .bad 100 n else .tok 3 (u.extract i p) n := by
    unfold nuT
    rw [← hn, hlt, HEX.out, x_ext u i (n + 1) (p + 1) (by omega)]
  rw [hnu] at HT0
  have HBA : Hid (∀ h : p < u.size, xA u[p] = xA (bAt u.data.toList p)) := fun h => by rw [bAt_some (x_get u p h)]
  have HBE : Hid (¬ p < u.size → xA (bAt u.data.toList p) = false) := fun h => by rw [bAt_none (by omega)]; exact xA_zero
  have HIL : Hid (imB (u.data.toList.drop i) = true → p < u.size ∧ xA (bAt u.data.toList (p + 1)) = false) := fun h => by
    rw [him, Bool.and_eq_true, Bool.not_eq_true', xW, Bool.or_eq_false_iff] at h
    refine ⟨?_, h.2.1⟩
    rcases Nat.lt_or_ge p u.size with h1 | h1
    · exact h1
    · have h2 := of_decide_eq_true h.1
      rw [bAt_none (by omega)] at h2
      exact absurd h2 (by decide)
  have HB1 : Hid (∀ h : p + 1 < u.size, xA u[p + 1] = xA (bAt u.data.toList (p + 1))) := fun h => by rw [bAt_some (x_get u (p + 1) h)]
  generalize decN ((u.data.toList.drop i).take n) = N at HPU HT0
  have HN := xh HP.out
  clear him hlt hnu hexs HEX hp hn hn1 hnl h39 hkf hdp hgt hD hA
  cases hb : imB (u.data.toList.drop i) with
  | true =>
    obtain ⟨hpl, hnx⟩ := HIL.out hb
    rw [hb, if_pos rfl] at HKA HT0
    have hplI : (p : Int) + 1 ≤ (u.size : Int) := by omega
    clear hb HIL HBA HBE
    go_enter Tryz.func31, Tryz.ntmps31
    go_wp2_with (first | (go_at_call 53; refine Hid.out ?_) | fail)
    unfold Hid
    generalize (w.alloc (.cells #[I 0, .string E0, I 0] 60)).alloc (.cells #[I 0, I 0] 55) = wb at HRP HE1 ⊢
    refine (HKA.out _ HE1.out).mono ?_
    rintro e w1 ⟨rfl, rfl⟩
    go_wp2_with (first | (go_at_call 54; refine (HER.out _).mono ?_; rintro e w2 ⟨rfl, rfl⟩) | (go_at_call 58; refine Hid.out ?_) | fail)
    unfold Hid
    refine (HPU.out _ (HE1.out.e)).mono ?_
    rintro e w2 ⟨hv, hg⟩
    have HR2 := xh (HRP.out.G hg)
    have hcr := HR2.out.c
    have hfr := HR2.out.f
    have hdr := HR2.out.d
    have hhr := HR2.out.h
    clear hg HKA HER HPU HE1 HRP
    by_cases hN : 33554432 < N
    · have HT := xh HT0.out
      rw [if_pos hN] at HT
      rcases hv with ⟨hle, rfl⟩ | ⟨hgt, m, t, q, rfl⟩
      · have hNI : (33554432 : Int) < (N : Int) := by omega
        clear hN
        go_wp2
        refine bodyPost_ret (v := .tuple #[.agg #[I 0, .string E0, I 0], I 0, .agg #[I 102, I i]]) (by simp [results, Tryz.results31, go_sem, hcr, hdr]) rfl ⟨_, HT.out, ?_, G.five HR2.out.g _ _ _ _ _⟩
        rfl
      · clear hN
        go_wp2
        refine bodyPost_ret (v := .tuple #[.agg #[I 0, .string E0, I 0], I 0, .agg #[I 102, I i]]) (by simp [results, Tryz.results31, go_sem, hcr, hdr]) rfl ⟨_, HT.out, ?_, G.five HR2.out.g _ _ _ _ _⟩
        rfl
    · have HT := xh HT0.out
      rw [if_neg hN] at HT
      rcases hv with ⟨hle, rfl⟩ | ⟨hgt, m, t, q, rfl⟩
      · have hNI : ¬ (33554432 : Int) < (N : Int) := by omega
        have hq1 : (i : Int) + 1 + ((p : Int) - (i : Int)) = (p : Int) + 1 := by omega
        have hq2 : (i : Int) ≤ (p : Int) + 1 := by omega
        clear hN
        by_cases hp1 : p + 1 < u.size
        · have hp1I : (p : Int) + 1 < (u.size : Int) := by omega
          have HLX := xh (isL u[p + 1])
          rw [HB1.out hp1, hnx] at HLX
          go_wp2_with (first | (go_at_call 59; refine (HLX.out _).mono ?_; rintro e w3 ⟨rfl, rfl⟩) | fail)
          refine bodyPost_ret (v := .tuple #[.agg #[I 4, .string (u.extract i (p + 1)), I i], I ((p : Int) + 1), .agg #[I 0, I 0]]) (by simp [results, Tryz.results31, go_sem, hcr, hdr]) rfl ⟨_, HT.out, ?_, G.five HR2.out.g _ _ _ _ _⟩
          rw [HN.out]; rfl
        · have hp1I : ¬ (p : Int) + 1 < (u.size : Int) := by omega
          go_wp2
          refine bodyPost_ret (v := .tuple #[.agg #[I 4, .string (u.extract i (p + 1)), I i], I ((p : Int) + 1), .agg #[I 0, I 0]]) (by simp [results, Tryz.results31, go_sem, hcr, hdr]) rfl ⟨_, HT.out, ?_, G.five HR2.out.g _ _ _ _ _⟩
          rw [HN.out]; rfl
      · omega
  | false =>
    rw [hb, if_neg (by decide)] at HKA HT0
    clear hb HIL HB1
    go_enter Tryz.func31, Tryz.ntmps31
    go_wp2_with (first | (go_at_call 53; refine Hid.out ?_) | fail)
    unfold Hid
    generalize (w.alloc (.cells #[I 0, .string E0, I 0] 60)).alloc (.cells #[I 0, I 0] 55) = wb at HRP HE1 ⊢
    refine (HKA.out _ HE1.out).mono ?_
    rintro e w1 ⟨rfl, rfl⟩
    go_wp2_with (first | (go_at_call 54; refine (HER.out _).mono ?_; rintro e w2 ⟨rfl, rfl⟩) | (go_at_call 58; refine Hid.out ?_) | fail)
    unfold Hid
    refine (HPU.out _ (HE1.out.e)).mono ?_
    rintro e w2 ⟨hv, hg⟩
    have HR2 := xh (HRP.out.G hg)
    have hcr := HR2.out.c
    have hfr := HR2.out.f
    have hdr := HR2.out.d
    have hhr := HR2.out.h
    clear hg HKA HER HPU HE1 HRP
    by_cases hN : 9223372036854775808 < N
    · have HT := xh HT0.out
      rw [if_pos hN] at HT
      rcases hv with ⟨hle, rfl⟩ | ⟨hgt, m, t, q, rfl⟩
      · have hNI : (9223372036854775808 : Int) < (N : Int) := by omega
        clear hN
        go_wp2
        refine bodyPost_ret (v := .tuple #[.agg #[I 0, .string E0, I 0], I 0, .agg #[I 102, I i]]) (by simp [results, Tryz.results31, go_sem, hcr, hdr]) rfl ⟨_, HT.out, ?_, G.five HR2.out.g _ _ _ _ _⟩
        rfl
      · clear hN
        go_wp2
        refine bodyPost_ret (v := .tuple #[.agg #[I 0, .string E0, I 0], I 0, .agg #[I 102, I i]]) (by simp [results, Tryz.results31, go_sem, hcr, hdr]) rfl ⟨_, HT.out, ?_, G.five HR2.out.g _ _ _ _ _⟩
        rfl
    · have HT1 := xh HT0.out
      rw [if_neg hN] at HT1
      rcases hv with ⟨hle, rfl⟩ | ⟨hgt, m, t, q, rfl⟩
      · have hNI : ¬ (9223372036854775808 : Int) < (N : Int) := by omega
        have hq1 : (i : Int) + ((p : Int) - (i : Int)) = (p : Int) := by omega
        clear hN
        by_cases hp1 : p < u.size
        · have hp1I : (p : Int) < (u.size : Int) := by omega
          have HLX := xh (isL u[p])
          rw [HBA.out hp1] at HLX
          cases hx : xA (bAt u.data.toList p) with
          | true =>
            rw [hx] at HLX
            have HT := xh HT1.out
            rw [hx, if_pos rfl] at HT
            clear hx HT1 HT0
            go_wp2_with (first | (go_at_call 59; refine (HLX.out _).mono ?_; rintro e w3 ⟨rfl, rfl⟩) | fail)
            refine bodyPost_ret (v := .tuple #[.agg #[I 0, .string E0, I 0], I 0, .agg #[I 100, I (p : Int)]]) (by simp [results, Tryz.results31, go_sem, hcr, hdr]) rfl ⟨_, HT.out, ?_, G.five HR2.out.g _ _ _ _ _⟩
            rw [HN.out]; rfl
          | false =>
            rw [hx] at HLX
            have HT := xh HT1.out
            rw [hx, if_neg (by decide)] at HT
            clear hx HT1 HT0
            go_wp2_with (first | (go_at_call 59; refine (HLX.out _).mono ?_; rintro e w3 ⟨rfl, rfl⟩) | fail)
            refine bodyPost_ret (v := .tuple #[.agg #[I 3, .string (u.extract i p), I i], I (p : Int), .agg #[I 0, I 0]]) (by simp [results, Tryz.results31, go_sem, hcr, hdr]) rfl ⟨_, HT.out, ?_, G.five HR2.out.g _ _ _ _ _⟩
            simp only [tokV]; rw [HN.out]
        · have hp1I : ¬ (p : Int) < (u.size : Int) := by omega
          have HT := xh HT1.out
          rw [HBE.out hp1, if_neg (by decide)] at HT
          clear HT1 HT0
          go_wp2
          refine bodyPost_ret (v := .tuple #[.agg #[I 3, .string (u.extract i p), I i], I (p : Int), .agg #[I 0, I 0]]) (by simp [results, Tryz.results31, go_sem, hcr, hdr]) rfl ⟨_, HT.out, ?_, G.five HR2.out.g _ _ _ _ _⟩
          simp only [tokV]; rw [HN.out]
      · omega
end
open Go.RowKit

set_option maxRecDepth 100000 in
set_option maxHeartbeats 1000000 in
theorem ta_st (u : ByteArray) (hs : u.size ≤ 140737488351232) (i : Nat) (hi : i < u.size) (hq : u[i].toNat = 39) (w : World) (hE : Lxe w) : Calls Tryz.prog 31 #[.string u, .int .i64 i] w fun e w' => ∃ x, Tk StA (u.data.toList.drop i) x ∧ e = .returned (tokV i x) ∧ G w w' := by
  have HRP := xh (Rp.new w)
  have HE1 := xh (hE.G HRP.out.g)
  have HKA := xh (fun W (h : Lxe W) => ka_any u (by omega) i hi W h)
  have hkf : kF u[i] (u.data.toList.drop i) = 5 := by unfold kF; simp [xA, xD, hq]
  rw [hkf] at HKA
  have HSA := xh (fun W (h : Env W) => sa_any u hs i hi hq W h)
  clear hE hkf
  go_enter Tryz.func31, Tryz.ntmps31
  go_wp2_with (first | (go_at_call 53; refine Hid.out ?_) | fail)
  unfold Hid
  generalize (w.alloc (.cells #[I 0, .string E0, I 0] 60)).alloc (.cells #[I 0, I 0] 55) = wb at HRP HE1 ⊢
  refine (HKA.out _ HE1.out).mono ?_
  rintro e w1 ⟨rfl, rfl⟩
  go_wp2_with (first | (go_at_call 60; refine Hid.out ?_) | fail)
  unfold Hid
  refine (HSA.out _ HE1.out.e).mono ?_
  rintro e w2 ⟨x, hx, rfl, hg⟩
  have HT := xh hx
  have HR2 := xh (HRP.out.G hg)
  have hcr := HR2.out.c
  have hfr := HR2.out.f
  have hdr := HR2.out.d
  have hhr := HR2.out.h
  clear hx hg HKA HSA HE1 HRP
  cases x with
  | bad c o =>
    simp only [tokV]
    generalize hio : ((i + o : Nat) : Int) = io
    have HIO := xh hio
    clear hio
    go_wp2
    refine bodyPost_ret (v := .tuple #[.agg #[I 0, .string E0, I 0], I 0, .agg #[I c, I io]]) (by simp [results, Tryz.results31, go_sem, hcr, hdr]) rfl ⟨_, HT.out, ?_, G.five HR2.out.g _ _ _ _ _⟩
    simp only [tokV]; rw [HIO.out]
  | tok k t m =>
    simp only [tokV]
    generalize hio : ((i + m : Nat) : Int) = io
    have HIO := xh hio
    clear hio
    go_wp2
    refine bodyPost_ret (v := .tuple #[.agg #[I k, .string t, I i], I io, .agg #[I 0, I 0]]) (by simp [results, Tryz.results31, go_sem, hcr, hdr]) rfl ⟨_, HT.out, ?_, G.five HR2.out.g _ _ _ _ _⟩
    simp only [tokV]; rw [HIO.out]
theorem ta_any (u : ByteArray) (hs : u.size ≤ 140737488351232) (i : Nat) (hi : i < u.size) (w : World) (hE : Lxe w) : Calls Tryz.prog 31 #[.string u, .int .i64 i] w fun e w' => ∃ x, Tk StA (u.data.toList.drop i) x ∧ e = .returned (tokV i x) ∧ G w w' := by
  cases hA : xA u[i] with
  | true => exact ta_nm u hs i hi hA w hE
  | false =>
    cases hD : xD u[i] with
    | true => exact ta_nu u hs i hi hA hD w hE
    | false =>
      by_cases hq : u[i].toNat = 39
      · exact ta_st u hs i hi hq w hE
      · exact ta_mk u hs i hi hA hD hq w hE
set_option maxRecDepth 100000 in
set_option maxHeartbeats 1000000 in
theorem ta_end (u : ByteArray) (w : World) (hE : Lxe w) : Calls Tryz.prog 31 #[.string u, .int .i64 u.size] w fun e w' => e = .returned (.tuple #[.agg #[I 7, .string ⟨#[]⟩, I u.size], I u.size, .agg #[I 0, I 0]]) ∧ G w w' := by
  have HRP := xh (Rp.new w)
  have HE1 := xh (hE.G HRP.out.g)
  have HKA := xh (fun W (_ : Lxe W) => ka_end u W)
  have hex := ex_nil u u.size
  clear hE
  go_enter Tryz.func31, Tryz.ntmps31
  go_wp2_with (first | (go_at_call 53; refine Hid.out ?_) | fail)
  unfold Hid
  generalize (w.alloc (.cells #[I 0, .string E0, I 0] 60)).alloc (.cells #[I 0, I 0] 55) = wb at HRP HE1 ⊢
  refine (HKA.out _ HE1.out).mono ?_
  rintro e w1 ⟨rfl, rfl⟩
  have hcr := HRP.out.c
  have hfr := HRP.out.f
  have hdr := HRP.out.d
  have hhr := HRP.out.h
  go_wp2
  refine bodyPost_ret (v := .tuple #[.agg #[I 7, .string ByteArray.empty, I u.size], I u.size, .agg #[I 0, I 0]]) (by simp [results, Tryz.results31, go_sem, hcr, hdr]) rfl ⟨rfl, G.five HRP.out.g _ _ _ _ _⟩
end
open Go.RowKit

theorem wpList_append_run {P : Program} {w : World} {ops : Array Oper} {rest : List Oper} {o : Oper} {a : Act} {Q : Exit → Act → World → Prop} (hgd : o.guard = none) (s x : Operand) (t : TypeId)
    (ho : o.op = .call { callee := .builtin .append, args := #[s, x], argTypes := #[t, t] }) (v z : Value) (hs : a.eval s = v) (hx : a.eval x = z) {v' : Value} {w' : World} (hr : (Builtin.append_ #[t, t] o.type #[v, z]).run P w = .ok v' w')
    (h : wpList P ops Q rest (a.put o.dst v') w') : wpList P ops Q (o :: rest) a w := by
  refine wpList_plain hgd fun K hK => ?_
  unfold Oper.wp execOp
  simp only [ho, resolve, invoke, builtin, Sem.run_bind, Sem.run_pure, Result.andThen_ok, List.map_toArray, List.map_cons, List.map_nil, hs, hx, hr]
  exact hK _ _ h

theorem own_X {w w' : World} {base : Nat} {e : TypeId} {size : Nat} {v : Value} {n : Nat} {xs : List Value} (h : w.ownsRow base e size v n xs) (g : G w w') : w'.ownsRow base e size v n xs :=
  h.kept (⟨g.os, g.tape, g.output, g.size, fun k hk _ => g.block k hk⟩ : w.grownBy w' none) (by cases h2 : v.ownBlock <;> simp)
def tkC (x : Tok) : List Value := [I x.k, .string x.t, I x.p]
def tkCs (l : List Tok) : List Value := l.flatMap tkC
theorem tkCs_app (l : List Tok) (x : Tok) : tkCs (l ++ [x]) = tkCs l ++ tkC x := by simp [tkCs]
theorem own_blk {W : World} {b e k n : Nat} {v : Value} {xs : List Value} (h : W.ownsRow b e k v n xs) : ∀ g, v.ownBlock = some g → b ≤ g ∧ g < W.heap.size := by
  intro g hg
  rcases h.2 with ⟨rfl, -⟩ | ⟨g', cap, cur, rfl, hb, hh, -⟩
  · cases hg
  · simp only [Value.ownBlock, Option.some.injEq] at hg
    subst hg
    refine ⟨hb, ?_⟩
    rcases Nat.lt_or_ge g' W.heap.size with h1 | h1
    · exact h1
    · rw [Array.getElem?_eq_none h1] at hh; cases hh
theorem app_tok {w W W2 : World} {v : Value} {l : List Tok} (x : Tok) (g : G w W) (hown : W.ownsRow w.heap.size 60 3 v l.length (tkCs l)) (g2 : G W W2) (hl : l.length ≤ 5000) :
    ∃ v' W3, (Builtin.append_ #[51, 51] 51 #[v, .slice (some ⟨W2.heap.size, 0, none⟩) 1 1]).run Tryz.prog (W2.alloc (.cells #[I x.k, .string x.t, I x.p] 60)) = .ok v' W3 ∧ W3.ownsRow w.heap.size 60 3 v' (l ++ [x]).length (tkCs (l ++ [x])) ∧ G w W3 ∧ (∀ b, W.heap.size ≤ b → b < W2.heap.size → W3.heap[b]? = W2.heap[b]?) := by
  obtain ⟨i0, hi, hz0, hz1, hz2⟩ := info_parts (show (Tryz.prog.info? 60).map (fun i => (i.zero, i.size, i.bytes)) = some (some (.agg #[.int .i64 0, .string ByteArray.empty, .int .i64 0]), 3, 32) from by kernel_rfl)
  have g3 : G W2 (W2.alloc (.cells #[I x.k, .string x.t, I x.p] 60)) := (G.refl W2).alloc _
  have hmx : (1099511627776 : Nat) ≤ maxLen := of_decide_eq_true (by kernel_rfl)
  have hb := own_blk hown
  obtain ⟨v', W3, q1, q2, q3, -, -⟩ := run_append_own_at (P := Tryz.prog) (w := W2.alloc (.cells #[I x.k, .string x.t, I x.p] 60)) w.heap.size 51 51 60 i0 _ 3 32 Tryz.underlying51 hi hz0 hz1 hz2 rfl (by decide) v l.length (tkCs l) (own_X (own_X hown g2) g3) ⟨W2.heap.size, 0, none⟩ 1 1 (tkC x) rfl (fun j u hj => by
    have h1 : (W2.alloc (.cells #[I x.k, .string x.t, I x.p] 60)).cell? ⟨W2.heap.size, j, none⟩ = (tkC x)[j]? := by simp [tkC]
    rw [hj] at h1
    by_cases hj0 : j = 0
    · subst hj0; simpa [Addr.add] using h1
    · simpa [Addr.add, hj0] using h1) (by simp [tkC, Value.oneCell']) (by omega) (by omega) (Nat.le_trans g.size (Nat.le_trans g2.size g3.size))
  refine ⟨v', W3, q1, by rw [tkCs_app, List.length_append]; exact q2, ⟨q3.os.trans (g3.os.trans (g2.os.trans g.os)), q3.tape.trans (g3.tape.trans (g2.tape.trans g.tape)), q3.output.trans (g3.output.trans (g2.output.trans g.output)), Nat.le_trans g.size (Nat.le_trans g2.size (Nat.le_trans g3.size q3.size)), fun k hk => ?_⟩, fun b hb1 hb2 => ?_⟩
  · have a1 := Nat.lt_of_lt_of_le hk g.size
    have a2 := Nat.lt_of_lt_of_le a1 g2.size
    have a3 := Nat.lt_of_lt_of_le a2 g3.size
    rw [q3.block k a3 (fun e => by have := (hb k e.symm).1; omega), g3.block k a2, g2.block k a1, g.block k hk]
  · have a3 := Nat.lt_of_lt_of_le hb2 g3.size
    rw [q3.block b a3 (fun e => by have := (hb b e.symm).2; omega), g3.block b hb2]
/-- What Lex answers, in memory. -/
def OutV (w W : World) : Out → Value → Prop
  | .bad c p, x => x = .tuple #[.slice none 0 0, I c, I p]
  | .ok l, x => ∃ v, x = .tuple #[v, I 0, I 0] ∧ W.ownsRow w.heap.size 60 3 v l.length (tkCs l)
def LxT (Q : List UInt8 → Option ByteArray → Prop) (l : List UInt8) (o : Out) : Prop := if 4096 < l.length then o = .bad 102 0 else Lx Q l (skp l 0) o
/-- Between two tokens. -/
structure LS (Q : List UInt8 → Option ByteArray → Prop) (l : List UInt8) (w W : World) (v : Value) (j : Nat) (done : List Tok) : Prop where
  g : G w W
  own : W.ownsRow w.heap.size 60 3 v done.length (tkCs done)
  jl : j ≤ l.length
  dl : done.length ≤ j
  go : ∀ o, Lx Q l j o → Lx Q l (skp l 0) (o.app done)
theorem LS.new (Q : List UInt8 → Option ByteArray → Prop) (l : List UInt8) (w : World) : LS Q l w w (.slice none 0 0) (skp l 0) [] :=
  ⟨G.refl w, World.ownsRow_nil _ _ _ _, (skp_le l 0 (Nat.zero_le _)).2, Nat.zero_le _, fun o h => by rw [Out.app_nil]; exact h⟩
theorem LS.next {Q : List UInt8 → Option ByteArray → Prop} {l : List UInt8} {w W W3 : World} {v v' : Value} {j m : Nat} {k : Int} {t : ByteArray} {done : List Tok} (h : LS Q l w W v j done) (hl : j < l.length) (hk : Tk Q (l.drop j) (.tok k t m)) (g : G w W3) (hown : W3.ownsRow w.heap.size 60 3 v' (done ++ [(⟨k, t, j⟩ : Tok)]).length (tkCs (done ++ [⟨k, t, j⟩]))) : LS Q l w W3 v' (skp l (j + m)) (done ++ [⟨k, t, j⟩]) := by
  have h1 := tk_len hk
  rw [List.length_drop] at h1
  have h2 := skp_le l (j + m) (by omega)
  have h3 := h.dl
  refine ⟨g, hown, h2.2, by rw [List.length_append]; simp; omega, fun o ho => ?_⟩
  have h4 := h.go _ (Lx.step hk ho)
  rwa [Out.app_app] at h4
theorem tk_bad {Q : List UInt8 → Option ByteArray → Prop} {r : List UInt8} {c : Int} {o : Nat} (h : Tk Q r (.bad c o)) : c = 100 ∨ c = 102 := by
  cases r with
  | nil => exact h.elim
  | cons d r =>
    simp only [Tk] at h
    split at h
    · cases hq : qE r with
      | none => rw [hq] at h; cases h; exact .inl rfl
      | some n =>
        rw [hq] at h
        obtain ⟨x, -, h⟩ := h
        cases x with
        | none => cases h; exact .inl rfl
        | some s => cases h
    · unfold tkN nmT nuT mkT at h
      repeat' split at h
      all_goals first | (cases h; done) | (cases h; exact .inl rfl) | (cases h; exact .inr rfl)
set_option maxRecDepth 100000 in
set_option maxHeartbeats 1000000 in
theorem lex_any (u : ByteArray) (w : World) (hE : Lxe w) : Calls Tryz.prog 13 #[.string u] w fun e w' => ∃ o x, e = .returned x ∧ OutV w w' o x ∧ LxT StA u.data.toList o ∧ G w w' := by
  have hll := x_len u
  by_cases hbig : 4096 < u.size
  · have hbI : (4096 : Int) < (u.size : Int) := by omega
    have HT : Hid (LxT StA u.data.toList (.bad 102 0)) := by unfold Hid LxT; rw [hll, if_pos hbig]
    clear hbig
    go_enter Tryz.func13, Tryz.ntmps13
    go_wp2
    go_ret3
    exact ⟨.bad 102 0, _, rfl, rfl, HT.out, G.refl w⟩
  · have hbI : ¬ (4096 : Int) < (u.size : Int) := by omega
    have hsz : u.size ≤ 4096 := by omega
    have HTT : Hid (∀ o, Lx StA u.data.toList (skp u.data.toList 0) o → LxT StA u.data.toList o) := fun o h => by unfold LxT; rw [hll, if_neg hbig]; exact h
    have HE := xh hE
    have HAB0 := xh (ab_any u (by omega) 0 (by omega))
    have HL0 := xh (LS.new StA u.data.toList w)
    clear hbig hE
    go_enter Tryz.func13, Tryz.ntmps13
    go_wp2_with (first | (go_at_call 30; refine (HAB0.out _).mono ?_; rintro e w1 ⟨rfl, rfl⟩) | fail)
    go_loopw [5, 6] (fun v p W => ∃ (j : Nat) (done : List Tok), p = .int .i64 (j : Int) ∧ LS StA u.data.toList w1 W v j done) (fun _ p _ => u.size + 1 - (RowKit.intOf p).toNat)
    case atStart => exact ⟨_, [], rfl, HL0.out⟩
    case round =>
      obtain ⟨j, done, rfl, hls⟩ := hrel
      have HLS := xh hls
      have hjl := hls.jl
      rw [hll] at hjl
      have hdl := hls.dl
      clear hls HL0 HAB0
      by_cases hje : j < u.size
      · have HTA := xh (ta_any u (by omega) j hje wr (HE.out.G HLS.out.g))
        go_wp2_with (first | (go_at_call 31; refine Hid.out ?_) | fail)
        unfold Hid
        refine HTA.out.mono ?_
        rintro e w2 ⟨x, hx, rfl, hg⟩
        have HX := xh hx
        have HG2 := xh (HLS.out.g.trans hg)
        have HGA := xh hg
        clear hx hg HTA
        cases x with
        | bad c o =>
          have HF : Hid (LxT StA u.data.toList (.bad c (j + o))) := HTT.out _ (HLS.out.go _ (Lx.bad HX.out))
          have hcc := tk_bad HX.out
          simp only [tokV]
          generalize hio : ((j + o : Nat) : Int) = jo
          have HIO := xh hio
          clear hio HX HLS HTT HGA
          rcases hcc with rfl | rfl
          · go_wp2
            go_quiet (fail)
            go_wp2
            go_ret3
            exact ⟨.bad 100 (j + o), _, rfl, by show _ = Value.tuple #[.slice none 0 0, I 100, I ((j + o : Nat) : Int)]; rw [HIO.out]; rfl, HF.out, G.drewM ((HG2.out.alloc _).alloc _) _⟩
          · go_wp2
            go_quiet (fail)
            go_wp2
            go_ret3
            exact ⟨.bad 102 (j + o), _, rfl, by show _ = Value.tuple #[.slice none 0 0, I 102, I ((j + o : Nat) : Int)]; rw [HIO.out]; rfl, HF.out, G.drewM ((HG2.out.alloc _).alloc _) _⟩
        | tok k t m =>
          have htl := tk_len HX.out
          rw [List.length_drop, hll] at htl
          obtain ⟨v', W3, r1, r2, r3, r4⟩ := app_tok ⟨k, t, j⟩ HLS.out.g HLS.out.own ((HGA.out.alloc (.cells #[I k, .string t, I j] 60)).alloc (.cells #[I 0, I 0] 55)) (by omega)
          have hct : W3.cell? ⟨w2.heap.size, 0, none⟩ = some (I k) := by
            rw [World.cell?_of_block (r4 w2.heap.size HGA.out.size (by simp; omega))]
            have h1 : G (w2.alloc (.cells #[I k, .string t, I j] 60)) ((w2.alloc (.cells #[I k, .string t, I j] 60)).alloc (.cells #[I 0, I 0] 55)) := (G.refl _).alloc _
            have h2 := G.cells (b := w2.heap.size) (f := fun o => [I k, .string t, I j][o]?) h1 (fun o => by simp) (by simp) 0
            exact h2
          have HNX := xh (LS.next HLS.out (by omega) HX.out r3 r2)
          have hk7 : (k == 7) = false := beq_false_of_ne htl.2.2
          have hml : j + m ≤ u.size := by omega
          have HSK := xh (skp_le u.data.toList (j + m) (by omega))
          have HAB := xh (ab_any u (by omega) (j + m) (by omega))
          have HM1 := xh htl.1
          simp only [World.size_alloc] at r1
          have HR1 := xh r1
          simp only [tokV]
          clear r1 r2 r3 r4 htl HX HLS HTT HGA HG2
          go_wp2_with (first | (at_builtin; refine wpList_append_run rfl _ _ 51 rfl _ _ rfl rfl HR1.out ?_) | (go_at_call 30; refine (HAB.out _).mono ?_; rintro e w5 ⟨rfl, rfl⟩) | fail)
          go_roundw
          case rel => exact ⟨skp u.data.toList (j + m), done ++ [⟨k, t, j⟩], rfl, HNX.out⟩
          case measure =>
            have h1 := HSK.out
            have h2 := HM1.out
            rw [hll] at h1
            simp [RowKit.intOf]; omega
      · obtain rfl : j = u.size := by omega
        have HTA := xh (ta_end u wr (HE.out.G HLS.out.g))
        have HF : Hid (LxT StA u.data.toList (.ok (done ++ [⟨7, ⟨#[]⟩, u.size⟩]))) := HTT.out _ (HLS.out.go _ (Lx.fin (by omega)))
        go_wp2_with (first | (go_at_call 31; refine Hid.out ?_) | fail)
        unfold Hid
        refine HTA.out.mono ?_
        rintro e w2 ⟨rfl, hg⟩
        have HGA := xh hg
        clear hg HTA HTT
        obtain ⟨v', W3, r1, r2, r3, r4⟩ := app_tok ⟨7, ⟨#[]⟩, u.size⟩ HLS.out.g HLS.out.own ((HGA.out.alloc (.cells #[I 7, .string ⟨#[]⟩, I u.size] 60)).alloc (.cells #[I 0, I 0] 55)) (by omega)
        have hct : W3.cell? ⟨w2.heap.size, 0, none⟩ = some (I 7) := by
          rw [World.cell?_of_block (r4 w2.heap.size HGA.out.size (by simp; omega))]
          have h1 : G (w2.alloc (.cells #[I 7, .string ⟨#[]⟩, I u.size] 60)) ((w2.alloc (.cells #[I 7, .string ⟨#[]⟩, I u.size] 60)).alloc (.cells #[I 0, I 0] 55)) := (G.refl _).alloc _
          have h2 := G.cells (b := w2.heap.size) (f := fun o => [I 7, .string ⟨#[]⟩, I u.size][o]?) h1 (fun o => by simp) (by simp) 0
          exact h2
        simp only [World.size_alloc] at r1
        have HR1 := xh r1
        have HR2 := xh r2
        have HR3 := xh r3
        clear r1 r2 r3 r4 HLS HGA
        go_wp2_with (first | (at_builtin; refine wpList_append_run rfl _ _ 51 rfl _ _ rfl rfl HR1.out ?_) | fail)
        go_ret3
        exact ⟨.ok (done ++ [⟨7, ⟨#[]⟩, u.size⟩]), _, rfl, ⟨v', rfl, HR2.out⟩, HF.out, HR3.out⟩
end Go.Proofs.YthpflfkgbapbnaaGreatDoor
