/- Tokens: the program's tokenAt. -/
import Derived.Test.YthgpegldlcfolaaGreatDoorSx7
import Derived.Test.YthgpegldlcfolaaGreatDoorSx9
import Derived.Test.YthgpegldlcfolaaGreatDoorShX2
import Derived.Shelf.Pu.ErrVarParseUint
namespace Go.Proofs.YthgpegldlcfolaaGreatDoor
section
open Go.RowKit

theorem spn_c {p : UInt8 → Bool} {c : UInt8} (r : List UInt8) (h : p c = true) : spn p (c :: r) = 1 + spn p r := by
  unfold spn; rw [List.takeWhile_cons, h]; simp; omega
theorem spn_0 {p : UInt8 → Bool} (h0 : p 0 = false) (l : List UInt8) (i : Nat) : (spn p (l.drop i) = 0) ↔ p (bAt l i) = false := by
  cases hd : l[i]? with
  | none =>
    rw [bAt_none (List.getElem?_eq_none_iff.1 hd), List.drop_of_length_le (List.getElem?_eq_none_iff.1 hd)]
    simp [spn, h0]
  | some c =>
    rw [bAt_some hd, drop_at hd]
    unfold spn
    rw [List.takeWhile_cons]
    cases p c <;> simp
def imK (l : List UInt8) (p : Nat) : Bool := decide ((bAt l p).toNat = 105) && !xW (bAt l (p + 1))
set_option maxRecDepth 100000 in
set_option maxHeartbeats 1000000 in
theorem kn_any (u : ByteArray) (hs : u.size ≤ 4611686018427387904) (p : Nat) (hp : p ≤ u.size) (w : World) : Calls Tryz.prog 31 #[.string u, .int .i64 p] w fun e w' => e = .returned (.int .i64 (if imK u.data.toList p then 4 else 3)) ∧ w' = w := by
  have hll := x_len u
  by_cases hlt : p < u.size
  · have hltI : (p : Int) < (u.size : Int) := by omega
    have hgt := x_get u p hlt
    have hb := bAt_some hgt
    by_cases c1 : u[p].toNat = 105
    · have k1 : (u[p].toNat : Int) = 105 := by omega
      have HER := xh (run_W u hs p hp)
      have hW : xW u[p] = true := by simp [xW, xA, c1]
      rw [drop_at hgt, spn_c _ hW] at HER
      have hsp := spn_0 xW_zero u.data.toList (p + 1)
      have hsl := spn_len (p := xW) (u.data.toList.drop (p + 1))
      rw [List.length_drop, hll] at hsl
      have him : imK u.data.toList p = !xW (bAt u.data.toList (p + 1)) := by unfold imK; rw [hb, c1]; simp
      rw [him]
      generalize spn xW (u.data.toList.drop (p + 1)) = m at HER hsp hsl
      cases hx : xW (bAt u.data.toList (p + 1)) with
      | false =>
        have h0 : m = 0 := hsp.2 hx
        subst h0
        clear hsp hb hgt c1 hW him hx hsl
        go_enter Tryz.func31, Tryz.ntmps31
        go_wp2_with (first | (go_at_call 15; refine (HER.out _).mono ?_; rintro e w1 ⟨rfl, rfl⟩) | fail)
        go_ret
        exact ⟨rfl, rfl⟩
      | true =>
        have h0 : ¬ m = 0 := fun h => by rw [hsp.1 h] at hx; cases hx
        have h1 : (((p + (1 + m) : Nat) : Int) == (p : Int) + 1) = false := beq_false_of_ne (by omega)
        obtain ⟨z, hz⟩ : ∃ z : Int, z = ((p + (1 + m) : Nat) : Int) := ⟨_, rfl⟩
        rw [← hz] at HER h1
        clear hsp hb hgt c1 hW him hx hz hsl h0
        go_enter Tryz.func31, Tryz.ntmps31
        go_wp2_with (first | (go_at_call 15; refine (HER.out _).mono ?_; rintro e w1 ⟨rfl, rfl⟩) | fail)
        go_ret
        exact ⟨rfl, rfl⟩
    · have k1 : ((u[p].toNat : Int) == 105) = false := beq_false_of_ne (by omega)
      have him : imK u.data.toList p = false := by unfold imK; rw [hb]; simp [c1]
      rw [him]
      clear hb hgt c1 him
      go_enter Tryz.func31, Tryz.ntmps31
      go_wp2
      go_ret
      exact ⟨rfl, rfl⟩
  · have hltI : ¬ (p : Int) < (u.size : Int) := by omega
    have him : imK u.data.toList p = false := by unfold imK; rw [bAt_none (by omega)]; simp
    rw [him]
    clear him
    go_enter Tryz.func31, Tryz.ntmps31
    go_wp2
    go_ret
    exact ⟨rfl, rfl⟩
/-- The kind of what begins at a place. -/
def kF (c : UInt8) (r : List UInt8) : Int := if xA c then 1 else if xD c then (if imB r then 4 else 3) else if c.toNat = 39 then 5 else kmF r
set_option maxRecDepth 100000 in
set_option maxHeartbeats 1000000 in
theorem ka_any (u : ByteArray) (hs : u.size ≤ 4611686018427387904) (i : Nat) (hi : i < u.size) (w : World) (hE : Lxe w) : Calls Tryz.prog 14 #[.string u, .int .i64 i] w fun e w' => e = .returned (.int .i64 (kF u[i] (u.data.toList.drop i))) ∧ w' = w := by
  have hll := x_len u
  have hiI : ((i : Int) == (u.size : Int)) = false := beq_false_of_ne (by omega)
  have hiJ : (i : Int) < (u.size : Int) := by omega
  have hiK : (i : Int) ≤ (u.size : Int) := by omega
  have hgt := x_get u i hi
  have HL := xh (isL u[i])
  have HD := xh (isDg u[i])
  have HER := xh (run_D u hs i (by omega))
  have hnl := spn_len (p := xD) (u.data.toList.drop i)
  rw [List.length_drop, hll] at hnl
  have HKN := xh (kn_any u hs (i + spn xD (u.data.toList.drop i)) (by omega))
  have him := im_at u.data.toList i (i + spn xD (u.data.toList.drop i)) rfl
  have hk2 : imK u.data.toList (i + spn xD (u.data.toList.drop i)) = imB (u.data.toList.drop i) := him.symm
  rw [hk2] at HKN
  have HKM := xh (km_any (u.extract i u.size) u[i] (u.data.toList.drop (i + 1)) (by rw [x_tail]; exact drop_at hgt) w hE)
  rw [x_tail] at HKM
  generalize i + spn xD (u.data.toList.drop i) = p at HER HKN
  have HKF : Hid (kF u[i] (u.data.toList.drop i) = if xA u[i] then 1 else if xD u[i] then (if imB (u.data.toList.drop i) then 4 else 3) else if u[i].toNat = 39 then 5 else kmF (u.data.toList.drop i)) := rfl
  generalize kF u[i] (u.data.toList.drop i) = K at HKF
  clear him hk2 hnl hgt hE
  generalize imB (u.data.toList.drop i) = bi at HKN HKF
  generalize kmF (u.data.toList.drop i) = kk at HKM HKF
  cases hA : xA u[i] with
  | true =>
    rw [hA] at HL HKF
    go_enter Tryz.func14, Tryz.ntmps14
    go_wp2_with (first
    | (go_at_call 20; refine (HL.out _).mono ?_; rintro e w1 ⟨rfl, rfl⟩)
    | (go_at_call 18; refine (HD.out _).mono ?_; rintro e w1 ⟨rfl, rfl⟩)
    | (go_at_call 15; refine (HER.out _).mono ?_; rintro e w1 ⟨rfl, rfl⟩)
    | (go_at_call 31; refine (HKN.out _).mono ?_; rintro e w1 ⟨rfl, rfl⟩)
    | (go_at_call 32; refine HKM.out.mono ?_; rintro e w1 ⟨rfl, rfl⟩)
    | fail)
    go_ret
    exact ⟨by rw [HKF.out]; rfl, rfl⟩
  | false =>
    rw [hA] at HL HKF
    cases hDD : xD u[i] with
    | true =>
      rw [hDD] at HD HKF
      have HKF2 : Hid (K = if bi = true then 4 else 3) := HKF.out
      clear HKF
      generalize (if bi = true then (4 : Int) else 3) = q at HKN HKF2
      go_enter Tryz.func14, Tryz.ntmps14
      go_wp2_with (first
    | (go_at_call 20; refine (HL.out _).mono ?_; rintro e w1 ⟨rfl, rfl⟩)
    | (go_at_call 18; refine (HD.out _).mono ?_; rintro e w1 ⟨rfl, rfl⟩)
    | (go_at_call 15; refine (HER.out _).mono ?_; rintro e w1 ⟨rfl, rfl⟩)
    | (go_at_call 31; refine (HKN.out _).mono ?_; rintro e w1 ⟨rfl, rfl⟩)
    | (go_at_call 32; refine HKM.out.mono ?_; rintro e w1 ⟨rfl, rfl⟩)
    | fail)
      go_ret
      exact ⟨by rw [HKF2.out]; rfl, rfl⟩
    | false =>
      rw [hDD] at HD HKF
      by_cases c1 : u[i].toNat = 39
      · have k1 : (u[i].toNat : Int) = 39 := by omega
        have HKF2 : Hid (K = 5) := by rw [HKF.out, if_neg (by decide), if_neg (by decide), if_pos c1]; exact rfl
        rw [k1] at HL HD
        clear HKF c1
        go_enter Tryz.func14, Tryz.ntmps14
        go_wp2_with (first
    | (go_at_call 20; refine (HL.out _).mono ?_; rintro e w1 ⟨rfl, rfl⟩)
    | (go_at_call 18; refine (HD.out _).mono ?_; rintro e w1 ⟨rfl, rfl⟩)
    | (go_at_call 15; refine (HER.out _).mono ?_; rintro e w1 ⟨rfl, rfl⟩)
    | (go_at_call 31; refine (HKN.out _).mono ?_; rintro e w1 ⟨rfl, rfl⟩)
    | (go_at_call 32; refine HKM.out.mono ?_; rintro e w1 ⟨rfl, rfl⟩)
    | fail)
        go_ret
        exact ⟨by rw [HKF2.out]; rfl, rfl⟩
      · have k1 : ((u[i].toNat : Int) == 39) = false := beq_false_of_ne (by omega)
        have HKF2 : Hid (K = kk) := by rw [HKF.out, if_neg (by decide), if_neg (by decide), if_neg c1]; exact rfl
        clear HKF c1
        go_enter Tryz.func14, Tryz.ntmps14
        go_wp2_with (first
    | (go_at_call 20; refine (HL.out _).mono ?_; rintro e w1 ⟨rfl, rfl⟩)
    | (go_at_call 18; refine (HD.out _).mono ?_; rintro e w1 ⟨rfl, rfl⟩)
    | (go_at_call 15; refine (HER.out _).mono ?_; rintro e w1 ⟨rfl, rfl⟩)
    | (go_at_call 31; refine (HKN.out _).mono ?_; rintro e w1 ⟨rfl, rfl⟩)
    | (go_at_call 32; refine HKM.out.mono ?_; rintro e w1 ⟨rfl, rfl⟩)
    | fail)
        go_ret
        exact ⟨by rw [HKF2.out]; rfl, rfl⟩
set_option maxRecDepth 100000 in
set_option maxHeartbeats 1000000 in
theorem ka_end (u : ByteArray) (w : World) : Calls Tryz.prog 14 #[.string u, .int .i64 u.size] w fun e w' => e = .returned (.int .i64 7) ∧ w' = w := by
  go_enter Tryz.func14, Tryz.ntmps14
  go_wp2
  go_ret
  exact ⟨rfl, rfl⟩
theorem pu64 (u : ByteArray) (hs : u.size ≤ 140737488351232) (hd : isDs u.data.toList) (h0 : 0 < u.size) (w : World) (hE : Env w) : Calls Tryz.prog 19 #[.string u, .int .i64 10, .int .i64 64] w fun e w' => ((decN u.data.toList ≤ 18446744073709551615 ∧ e = .returned (.tuple #[.int .u64 (decN u.data.toList : Nat), .nilIface])) ∨ (18446744073709551615 < decN u.data.toList ∧ ∃ n t p, e = .returned (.tuple #[.int .u64 n, .iface t p]))) ∧ G w w' := by
  have hne : u.data.toList ≠ [] := fun h => by
    have := congrArg List.length h
    rw [x_len, List.length_nil] at this
    omega
  have hp := pu_dec u.data.toList hd hne
  by_cases hc : decN u.data.toList ≤ 18446744073709551615
  · rw [if_pos hc] at hp
    refine (Any.strconv_ParseUint_10_at64_ok Tryz.laysParseUint u (by omega) _ hp w).mono ?_
    rintro e w' ⟨he, hw⟩
    refine ⟨.inl ⟨hc, he⟩, ?_⟩
    rcases hw with rfl | rfl
    · exact G.refl _
    · exact ⟨rfl, rfl, rfl, by rw [Lib.bytesWorld_size]; omega, fun j hj => Lib.bytesWorld_at_old w 5 _ j hj⟩
  · rw [if_neg hc] at hp
    obtain ⟨tp, p, hv⟩ := hE.r
    refine (Any.strconv_ParseUint_10_at64_range_var Tryz.laysParseUint u (by omega) hp tp p w hv).mono ?_
    rintro e w' ⟨N, he, _, _, hb⟩
    exact ⟨.inr ⟨by omega, _, _, _, he⟩, hb⟩
end
open Go.RowKit

theorem tk_n {Q : List UInt8 → Option ByteArray → Prop} {c : UInt8} (r : List UInt8) (h : ¬ c.toNat = 39) : Tk Q (c :: r) (tkN c (c :: r)) := by
  simp only [Tk]; rw [if_neg h]; trivial
theorem ex_nil (u : ByteArray) (i : Nat) : u.extract i i = ⟨#[]⟩ := by
  apply ByteArray.ext
  rw [ByteArray.data_extract]
  apply Array.ext'
  simp
set_option maxRecDepth 100000 in
set_option maxHeartbeats 1000000 in
theorem ta_nm (u : ByteArray) (hs : u.size ≤ 140737488351232) (i : Nat) (hi : i < u.size) (hA : xA u[i] = true) (w : World) (hE : Lxe w) : Calls Tryz.prog 8 #[.string u, .int .i64 i] w fun e w' => ∃ x, Tk StA (u.data.toList.drop i) x ∧ e = .returned (tokV i x) ∧ G w w' := by
  have hll := x_len u
  have hgt := x_get u i hi
  have hdp := drop_at hgt
  have HRP := xh (Rp.new w)
  have HE1 := xh (hE.G HRP.out.g)
  have HKA := xh (fun W (h : Lxe W) => ka_any u (by omega) i hi W h)
  have hkf : kF u[i] (u.data.toList.drop i) = 1 := by unfold kF; rw [hA, if_pos rfl]
  rw [hkf] at HKA
  have h39 : ¬ u[i].toNat = 39 := fun h => by simp [xA, h] at hA
  have HT0 : Hid (Tk StA (u.data.toList.drop i) (nmT (u.data.toList.drop i))) := by
    have := tk_n (Q := StA) (c := u[i]) (u.data.toList.drop (i + 1)) h39
    rw [← hdp] at this
    unfold tkN at this
    rw [hA, if_pos rfl] at this
    exact this
  have HER := xh (run_W u (by omega) i (by omega))
  obtain ⟨n, hn⟩ : ∃ n, n = spn xW (u.data.toList.drop i) := ⟨_, rfl⟩
  have hnl := spn_len (p := xW) (u.data.toList.drop i)
  rw [List.length_drop, hll] at hnl
  have hn1 := spn_cons (p := xW) (c := u[i]) (u.data.toList.drop (i + 1)) (by simp [xW, hA])
  rw [← hdp] at hn1
  rw [← hn] at HER hnl hn1
  obtain ⟨p, hp⟩ : ∃ p, p = i + n := ⟨_, rfl⟩
  rw [← hp] at HER
  have hip : (i : Int) ≤ (p : Int) := by omega
  have hpu : (p : Int) ≤ (u.size : Int) := by omega
  have HEX := xh (x_ext u i n p hp)
  have HIW := xh (fun W (h : Lxe W) => iw_any (u.extract i p) W h)
  rw [HEX.out, sU_list, ← HEX.out] at HIW
  have HP := xh hp
  have hnm : nmT (u.data.toList.drop i) = if 8 < n then .bad 102 0 else .tok (if wdB ((u.data.toList.drop i).take n) then 2 else 1) (u.extract i p) n := by unfold nmT; rw [← hn, HEX.out]
  rw [hnm] at HT0
  generalize wdB ((u.data.toList.drop i).take n) = b at HIW HT0
  by_cases h8 : 8 < n
  · have h8I : (8 : Int) < (p : Int) - (i : Int) := by omega
    have HT := xh HT0.out
    rw [if_pos h8] at HT
    clear HT0 hnm hn h39 hkf hdp hgt hll h8 hnl hn1 hA hp HEX hE
    go_enter Tryz.func8, Tryz.ntmps8
    go_wp2_with (first | (go_at_call 14; refine Hid.out ?_) | fail)
    unfold Hid
    generalize (w.alloc (.cells #[I 0, .string E0, I 0] 30)).alloc (.cells #[I 0, I 0] 32) = wb at HRP HE1 ⊢
    refine (HKA.out _ HE1.out).mono ?_
    rintro e w1 ⟨rfl, rfl⟩
    have hcr := HRP.out.c
    have hfr := HRP.out.f
    have hdr := HRP.out.d
    have hhr := HRP.out.h
    go_wp2_with (first | (go_at_call 15; refine (HER.out _).mono ?_; rintro e w2 ⟨rfl, rfl⟩) | fail)
    refine bodyPost_ret (v := .tuple #[.agg #[I 0, .string E0, I 0], I 0, .agg #[I 102, I i]]) (by simp [results, Tryz.results8, go_sem, hcr, hdr]) rfl ⟨_, HT.out, ?_, G.five HRP.out.g _ _ _ _ _⟩
    rfl
  · have h8I : ¬ (8 : Int) < (p : Int) - (i : Int) := by omega
    have HT := xh HT0.out
    rw [if_neg h8] at HT
    clear HT0 hnm hn h39 hkf hdp hgt hll h8 hnl hn1 hA hp HEX hE
    cases b with
    | true =>
      go_enter Tryz.func8, Tryz.ntmps8
      go_wp2_with (first | (go_at_call 14; refine Hid.out ?_) | fail)
      unfold Hid
      generalize (w.alloc (.cells #[I 0, .string E0, I 0] 30)).alloc (.cells #[I 0, I 0] 32) = wb at HRP HE1 ⊢
      refine (HKA.out _ HE1.out).mono ?_
      rintro e w1 ⟨rfl, rfl⟩
      have hcr := HRP.out.c
      have hfr := HRP.out.f
      have hdr := HRP.out.d
      have hhr := HRP.out.h
      go_wp2_with (first | (go_at_call 15; refine (HER.out _).mono ?_; rintro e w2 ⟨rfl, rfl⟩) | (go_at_call 17; refine (HIW.out _ HE1.out).mono ?_; rintro e w2 ⟨rfl, rfl⟩) | fail)
      refine bodyPost_ret (v := .tuple #[.agg #[I 2, .string (u.extract i p), I i], I (p : Int), .agg #[I 0, I 0]]) (by simp [results, Tryz.results8, go_sem, hcr, hdr]) rfl ⟨_, HT.out, ?_, G.five HRP.out.g _ _ _ _ _⟩
      simp only [tokV]; rw [HP.out]; rfl
    | false =>
      go_enter Tryz.func8, Tryz.ntmps8
      go_wp2_with (first | (go_at_call 14; refine Hid.out ?_) | fail)
      unfold Hid
      generalize (w.alloc (.cells #[I 0, .string E0, I 0] 30)).alloc (.cells #[I 0, I 0] 32) = wb at HRP HE1 ⊢
      refine (HKA.out _ HE1.out).mono ?_
      rintro e w1 ⟨rfl, rfl⟩
      have hcr := HRP.out.c
      have hfr := HRP.out.f
      have hdr := HRP.out.d
      have hhr := HRP.out.h
      go_wp2_with (first | (go_at_call 15; refine (HER.out _).mono ?_; rintro e w2 ⟨rfl, rfl⟩) | (go_at_call 17; refine (HIW.out _ HE1.out).mono ?_; rintro e w2 ⟨rfl, rfl⟩) | fail)
      refine bodyPost_ret (v := .tuple #[.agg #[I 1, .string (u.extract i p), I i], I (p : Int), .agg #[I 0, I 0]]) (by simp [results, Tryz.results8, go_sem, hcr, hdr]) rfl ⟨_, HT.out, ?_, G.five HRP.out.g _ _ _ _ _⟩
      simp only [tokV]; rw [HP.out]; rfl
set_option maxRecDepth 100000 in
set_option maxHeartbeats 1000000 in
theorem ta_mk (u : ByteArray) (hs : u.size ≤ 140737488351232) (i : Nat) (hi : i < u.size) (hA : xA u[i] = false) (hD : xD u[i] = false) (h39 : ¬ u[i].toNat = 39) (w : World) (hE : Lxe w) : Calls Tryz.prog 8 #[.string u, .int .i64 i] w fun e w' => ∃ x, Tk StA (u.data.toList.drop i) x ∧ e = .returned (tokV i x) ∧ G w w' := by
  have hll := x_len u
  have hgt := x_get u i hi
  have hdp := drop_at hgt
  have HRP := xh (Rp.new w)
  have HE1 := xh (hE.G HRP.out.g)
  have HKA := xh (fun W (h : Lxe W) => ka_any u (by omega) i hi W h)
  have hkf : kF u[i] (u.data.toList.drop i) = kmF (u.data.toList.drop i) := by unfold kF; rw [hA, hD, if_neg (by decide), if_neg (by decide), if_neg h39]
  rw [hkf] at HKA
  have HT0 : Hid (Tk StA (u.data.toList.drop i) (mkT u[i] (u.data.toList.drop i))) := by
    have := tk_n (Q := StA) (c := u[i]) (u.data.toList.drop (i + 1)) h39
    rw [← hdp] at this
    unfold tkN at this
    rw [hA, hD, if_neg (by decide), if_neg (by decide)] at this
    exact this
  have hkm : kmF (u.data.toList.drop i) = if mk2 (u.data.toList.drop i) then 8 else if mk1 u[i] then 6 else 0 := by unfold kmF; rw [hdp]
  cases h2 : mk2 (u.data.toList.drop i) with
  | true =>
    have hl2 := mk2_len h2
    rw [List.length_drop, hll] at hl2
    have h1 : mk1 u[i] = true := by
      have := mk2_at hgt
      rw [h2] at this
      have := of_decide_eq_true this.symm
      rcases this with h | h | h <;> simp [mk1, h.1]
    have HT : Hid (Tk StA (u.data.toList.drop i) (.tok 6 (u.extract i (i + 2)) 2)) := by
      have := HT0.out
      unfold mkT at this
      rw [h1, h2, if_pos rfl, if_pos rfl, ← sU_ext] at this
      exact this
    rw [hkm, h2, if_pos rfl] at HKA
    have hi2 : (i : Int) + 2 ≤ (u.size : Int) := by omega
    have hi3 : (i : Int) ≤ (i : Int) + 2 := by omega
    clear HT0 hkm h39 hkf hdp hgt hll h1 h2 hA hD hl2 hE
    go_enter Tryz.func8, Tryz.ntmps8
    go_wp2_with (first | (go_at_call 14; refine Hid.out ?_) | fail)
    unfold Hid
    generalize (w.alloc (.cells #[I 0, .string E0, I 0] 30)).alloc (.cells #[I 0, I 0] 32) = wb at HRP HE1 ⊢
    refine (HKA.out _ HE1.out).mono ?_
    rintro e w1 ⟨rfl, rfl⟩
    have hcr := HRP.out.c
    have hfr := HRP.out.f
    have hdr := HRP.out.d
    have hhr := HRP.out.h
    go_wp2
    refine bodyPost_ret (v := .tuple #[.agg #[I 6, .string (u.extract i (i + 2)), I i], I ((i : Int) + 1 + 1), .agg #[I 0, I 0]]) (by simp [results, Tryz.results8, go_sem, hcr, hdr]) rfl ⟨_, HT.out, ?_, G.five HRP.out.g _ _ _ _ _⟩
    rw [show (i : Int) + 1 + 1 = ((i + 2 : Nat) : Int) from by omega]; rfl
  | false =>
    cases h1 : mk1 u[i] with
    | true =>
      have HT : Hid (Tk StA (u.data.toList.drop i) (.tok 6 (u.extract i (i + 1)) 1)) := by
        have := HT0.out
        unfold mkT at this
        rw [h1, h2, if_pos rfl, if_neg (by decide), ← sU_ext] at this
        exact this
      rw [hkm, h2, h1, if_neg (by decide), if_pos rfl] at HKA
      have hi2 : (i : Int) + 1 ≤ (u.size : Int) := by omega
      have hi3 : (i : Int) ≤ (i : Int) + 1 := by omega
      clear HT0 hkm h39 hkf hdp hgt hll h1 h2 hA hD hE
      go_enter Tryz.func8, Tryz.ntmps8
      go_wp2_with (first | (go_at_call 14; refine Hid.out ?_) | fail)
      unfold Hid
      generalize (w.alloc (.cells #[I 0, .string E0, I 0] 30)).alloc (.cells #[I 0, I 0] 32) = wb at HRP HE1 ⊢
      refine (HKA.out _ HE1.out).mono ?_
      rintro e w1 ⟨rfl, rfl⟩
      have hcr := HRP.out.c
      have hfr := HRP.out.f
      have hdr := HRP.out.d
      have hhr := HRP.out.h
      go_wp2
      refine bodyPost_ret (v := .tuple #[.agg #[I 6, .string (u.extract i (i + 1)), I i], I ((i : Int) + 1), .agg #[I 0, I 0]]) (by simp [results, Tryz.results8, go_sem, hcr, hdr]) rfl ⟨_, HT.out, ?_, G.five HRP.out.g _ _ _ _ _⟩
      rfl
    | false =>
      have HT : Hid (Tk StA (u.data.toList.drop i) (.bad 100 0)) := by
        have := HT0.out
        unfold mkT at this
        rw [h1, if_neg (by decide)] at this
        exact this
      rw [hkm, h2, h1, if_neg (by decide), if_neg (by decide)] at HKA
      clear HT0 hkm h39 hkf hdp hgt hll h1 h2 hA hD hE
      go_enter Tryz.func8, Tryz.ntmps8
      go_wp2_with (first | (go_at_call 14; refine Hid.out ?_) | fail)
      unfold Hid
      generalize (w.alloc (.cells #[I 0, .string E0, I 0] 30)).alloc (.cells #[I 0, I 0] 32) = wb at HRP HE1 ⊢
      refine (HKA.out _ HE1.out).mono ?_
      rintro e w1 ⟨rfl, rfl⟩
      have hcr := HRP.out.c
      have hfr := HRP.out.f
      have hdr := HRP.out.d
      have hhr := HRP.out.h
      go_wp2
      refine bodyPost_ret (v := .tuple #[.agg #[I 0, .string E0, I 0], I 0, .agg #[I 100, I i]]) (by simp [results, Tryz.results8, go_sem, hcr, hdr]) rfl ⟨_, HT.out, ?_, G.five HRP.out.g _ _ _ _ _⟩
      rfl
set_option maxRecDepth 100000 in
set_option maxHeartbeats 1000000 in
theorem ta_nu (u : ByteArray) (hs : u.size ≤ 140737488351232) (i : Nat) (hi : i < u.size) (hA : xA u[i] = false) (hD : xD u[i] = true) (w : World) (hE : Lxe w) : Calls Tryz.prog 8 #[.string u, .int .i64 i] w fun e w' => ∃ x, Tk StA (u.data.toList.drop i) x ∧ e = .returned (tokV i x) ∧ G w w' := by
  have hll := x_len u
  have hgt := x_get u i hi
  have hdp := drop_at hgt
  have HRP := xh (Rp.new w)
  have HE1 := xh (hE.G HRP.out.g)
  have HKA := xh (fun W (h : Lxe W) => ka_any u (by omega) i hi W h)
  have h39 : ¬ u[i].toNat = 39 := fun h => by simp [xD, h] at hD
  have HT0 : Hid (Tk StA (u.data.toList.drop i) (nuT (u.data.toList.drop i))) := by
    have := tk_n (Q := StA) (c := u[i]) (u.data.toList.drop (i + 1)) h39
    rw [← hdp] at this
    unfold tkN at this
    rw [hA, hD, if_neg (by decide), if_pos rfl] at this
    exact this
  have hkf : kF u[i] (u.data.toList.drop i) = if imB (u.data.toList.drop i) then 4 else 3 := by unfold kF; rw [hA, hD, if_neg (by decide), if_pos rfl]
  rw [hkf] at HKA
  have HER := xh (run_D u (by omega) i (by omega))
  obtain ⟨n, hn⟩ : ∃ n, n = spn xD (u.data.toList.drop i) := ⟨_, rfl⟩
  have hnl := spn_len (p := xD) (u.data.toList.drop i)
  rw [List.length_drop, hll] at hnl
  have hn1 := spn_cons (p := xD) (c := u[i]) (u.data.toList.drop (i + 1)) hD
  rw [← hdp] at hn1
  rw [← hn] at HER hnl hn1
  obtain ⟨p, hp⟩ : ∃ p, p = i + n := ⟨_, rfl⟩
  rw [← hp] at HER
  have hip : (i : Int) ≤ (p : Int) := by omega
  have hpu : (p : Int) ≤ (u.size : Int) := by omega
  have hpn : p ≤ u.size := by omega
  have HEX := xh (x_ext u i n p hp)
  have hexs : (u.extract i p).size = n := by rw [ByteArray.size_extract]; omega
  have HPU := xh (fun W (h : Env W) => pu64 (u.extract i p) (by omega) (by rw [HEX.out, sU_list]; exact dsT _ i n hn) (by omega) W h)
  rw [HEX.out, sU_list, ← HEX.out] at HPU
  have HP := xh hp
  have him := im_at u.data.toList i p (by rw [← hn]; exact hp)
  have hlt : ((u.data.toList.drop i)[n]?).any xA = xA (bAt u.data.toList p) := by
    rw [List.getElem?_drop, ← hp]; exact any_bat xA_zero _ _
  have hnu : nuT (u.data.toList.drop i) = if imB (u.data.toList.drop i) then (if 33554432 < decN ((u.data.toList.drop i).take n) then .bad 102 0 else .tok 4 (u.extract i (p + 1)) (n + 1)) else if 9223372036854775808 < decN ((u.data.toList.drop i).take n) then .bad 102 0 else if xA (bAt u.data.toList p) then .bad 100 n else .tok 3 (u.extract i p) n := by
    unfold nuT
    rw [← hn, hlt, HEX.out, x_ext u i (n + 1) (p + 1) (by omega)]
  rw [hnu] at HT0
  have HBA : Hid (∀ h : p < u.size, xA u[p] = xA (bAt u.data.toList p)) := fun h => by rw [bAt_some (x_get u p h)]
  have HBE : Hid (¬ p < u.size → xA (bAt u.data.toList p) = false) := fun h => by rw [bAt_none (by omega)]; exact xA_zero
  have HIL : Hid (imB (u.data.toList.drop i) = true → p < u.size ∧ xA (bAt u.data.toList (p + 1)) = false) := fun h => by
    rw [him, Bool.and_eq_true, Bool.not_eq_true', xW, Bool.or_eq_false_iff] at h
    refine ⟨?_, h.2.1⟩
    rcases Nat.lt_or_ge p u.size with h1 | h1
    · exact h1
    · have h2 := of_decide_eq_true h.1
      rw [bAt_none (by omega)] at h2
      exact absurd h2 (by decide)
  have HB1 : Hid (∀ h : p + 1 < u.size, xA u[p + 1] = xA (bAt u.data.toList (p + 1))) := fun h => by rw [bAt_some (x_get u (p + 1) h)]
  generalize decN ((u.data.toList.drop i).take n) = N at HPU HT0
  have HN := xh HP.out
  clear him hlt hnu hexs HEX hp hn hn1 hnl h39 hkf hdp hgt hD hA
  cases hb : imB (u.data.toList.drop i) with
  | true =>
    obtain ⟨hpl, hnx⟩ := HIL.out hb
    rw [hb, if_pos rfl] at HKA HT0
    have hplI : (p : Int) + 1 ≤ (u.size : Int) := by omega
    clear hb HIL HBA HBE
    go_enter Tryz.func8, Tryz.ntmps8
    go_wp2_with (first | (go_at_call 14; refine Hid.out ?_) | fail)
    unfold Hid
    generalize (w.alloc (.cells #[I 0, .string E0, I 0] 30)).alloc (.cells #[I 0, I 0] 32) = wb at HRP HE1 ⊢
    refine (HKA.out _ HE1.out).mono ?_
    rintro e w1 ⟨rfl, rfl⟩
    go_wp2_with (first | (go_at_call 15; refine (HER.out _).mono ?_; rintro e w2 ⟨rfl, rfl⟩) | (go_at_call 19; refine Hid.out ?_) | fail)
    unfold Hid
    refine (HPU.out _ (HE1.out.e)).mono ?_
    rintro e w2 ⟨hv, hg⟩
    have HR2 := xh (HRP.out.G hg)
    have hcr := HR2.out.c
    have hfr := HR2.out.f
    have hdr := HR2.out.d
    have hhr := HR2.out.h
    clear hg HKA HER HPU HE1 HRP
    by_cases hN : 33554432 < N
    · have HT := xh HT0.out
      rw [if_pos hN] at HT
      rcases hv with ⟨hle, rfl⟩ | ⟨hgt, m, t, q, rfl⟩
      · have hNI : (33554432 : Int) < (N : Int) := by omega
        clear hN
        go_wp2
        refine bodyPost_ret (v := .tuple #[.agg #[I 0, .string E0, I 0], I 0, .agg #[I 102, I i]]) (by simp [results, Tryz.results8, go_sem, hcr, hdr]) rfl ⟨_, HT.out, ?_, G.five HR2.out.g _ _ _ _ _⟩
        rfl
      · clear hN
        go_wp2
        refine bodyPost_ret (v := .tuple #[.agg #[I 0, .string E0, I 0], I 0, .agg #[I 102, I i]]) (by simp [results, Tryz.results8, go_sem, hcr, hdr]) rfl ⟨_, HT.out, ?_, G.five HR2.out.g _ _ _ _ _⟩
        rfl
    · have HT := xh HT0.out
      rw [if_neg hN] at HT
      rcases hv with ⟨hle, rfl⟩ | ⟨hgt, m, t, q, rfl⟩
      · have hNI : ¬ (33554432 : Int) < (N : Int) := by omega
        have hq1 : (i : Int) + 1 + ((p : Int) - (i : Int)) = (p : Int) + 1 := by omega
        have hq2 : (i : Int) ≤ (p : Int) + 1 := by omega
        clear hN
        by_cases hp1 : p + 1 < u.size
        · have hp1I : (p : Int) + 1 < (u.size : Int) := by omega
          have HLX := xh (isL u[p + 1])
          rw [HB1.out hp1, hnx] at HLX
          go_wp2_with (first | (go_at_call 20; refine (HLX.out _).mono ?_; rintro e w3 ⟨rfl, rfl⟩) | fail)
          refine bodyPost_ret (v := .tuple #[.agg #[I 4, .string (u.extract i (p + 1)), I i], I ((p : Int) + 1), .agg #[I 0, I 0]]) (by simp [results, Tryz.results8, go_sem, hcr, hdr]) rfl ⟨_, HT.out, ?_, G.five HR2.out.g _ _ _ _ _⟩
          rw [HN.out]; rfl
        · have hp1I : ¬ (p : Int) + 1 < (u.size : Int) := by omega
          go_wp2
          refine bodyPost_ret (v := .tuple #[.agg #[I 4, .string (u.extract i (p + 1)), I i], I ((p : Int) + 1), .agg #[I 0, I 0]]) (by simp [results, Tryz.results8, go_sem, hcr, hdr]) rfl ⟨_, HT.out, ?_, G.five HR2.out.g _ _ _ _ _⟩
          rw [HN.out]; rfl
      · omega
  | false =>
    rw [hb, if_neg (by decide)] at HKA HT0
    clear hb HIL HB1
    go_enter Tryz.func8, Tryz.ntmps8
    go_wp2_with (first | (go_at_call 14; refine Hid.out ?_) | fail)
    unfold Hid
    generalize (w.alloc (.cells #[I 0, .string E0, I 0] 30)).alloc (.cells #[I 0, I 0] 32) = wb at HRP HE1 ⊢
    refine (HKA.out _ HE1.out).mono ?_
    rintro e w1 ⟨rfl, rfl⟩
    go_wp2_with (first | (go_at_call 15; refine (HER.out _).mono ?_; rintro e w2 ⟨rfl, rfl⟩) | (go_at_call 19; refine Hid.out ?_) | fail)
    unfold Hid
    refine (HPU.out _ (HE1.out.e)).mono ?_
    rintro e w2 ⟨hv, hg⟩
    have HR2 := xh (HRP.out.G hg)
    have hcr := HR2.out.c
    have hfr := HR2.out.f
    have hdr := HR2.out.d
    have hhr := HR2.out.h
    clear hg HKA HER HPU HE1 HRP
    by_cases hN : 9223372036854775808 < N
    · have HT := xh HT0.out
      rw [if_pos hN] at HT
      rcases hv with ⟨hle, rfl⟩ | ⟨hgt, m, t, q, rfl⟩
      · have hNI : (9223372036854775808 : Int) < (N : Int) := by omega
        clear hN
        go_wp2
        refine bodyPost_ret (v := .tuple #[.agg #[I 0, .string E0, I 0], I 0, .agg #[I 102, I i]]) (by simp [results, Tryz.results8, go_sem, hcr, hdr]) rfl ⟨_, HT.out, ?_, G.five HR2.out.g _ _ _ _ _⟩
        rfl
      · clear hN
        go_wp2
        refine bodyPost_ret (v := .tuple #[.agg #[I 0, .string E0, I 0], I 0, .agg #[I 102, I i]]) (by simp [results, Tryz.results8, go_sem, hcr, hdr]) rfl ⟨_, HT.out, ?_, G.five HR2.out.g _ _ _ _ _⟩
        rfl
    · have HT1 := xh HT0.out
      rw [if_neg hN] at HT1
      rcases hv with ⟨hle, rfl⟩ | ⟨hgt, m, t, q, rfl⟩
      · have hNI : ¬ (9223372036854775808 : Int) < (N : Int) := by omega
        have hq1 : (i : Int) + ((p : Int) - (i : Int)) = (p : Int) := by omega
        clear hN
        by_cases hp1 : p < u.size
        · have hp1I : (p : Int) < (u.size : Int) := by omega
          have HLX := xh (isL u[p])
          rw [HBA.out hp1] at HLX
          cases hx : xA (bAt u.data.toList p) with
          | true =>
            rw [hx] at HLX
            have HT := xh HT1.out
            rw [hx, if_pos rfl] at HT
            clear hx HT1 HT0
            go_wp2_with (first | (go_at_call 20; refine (HLX.out _).mono ?_; rintro e w3 ⟨rfl, rfl⟩) | fail)
            refine bodyPost_ret (v := .tuple #[.agg #[I 0, .string E0, I 0], I 0, .agg #[I 100, I (p : Int)]]) (by simp [results, Tryz.results8, go_sem, hcr, hdr]) rfl ⟨_, HT.out, ?_, G.five HR2.out.g _ _ _ _ _⟩
            rw [HN.out]; rfl
          | false =>
            rw [hx] at HLX
            have HT := xh HT1.out
            rw [hx, if_neg (by decide)] at HT
            clear hx HT1 HT0
            go_wp2_with (first | (go_at_call 20; refine (HLX.out _).mono ?_; rintro e w3 ⟨rfl, rfl⟩) | fail)
            refine bodyPost_ret (v := .tuple #[.agg #[I 3, .string (u.extract i p), I i], I (p : Int), .agg #[I 0, I 0]]) (by simp [results, Tryz.results8, go_sem, hcr, hdr]) rfl ⟨_, HT.out, ?_, G.five HR2.out.g _ _ _ _ _⟩
            simp only [tokV]; rw [HN.out]
        · have hp1I : ¬ (p : Int) < (u.size : Int) := by omega
          have HT := xh HT1.out
          rw [HBE.out hp1, if_neg (by decide)] at HT
          clear HT1 HT0
          go_wp2
          refine bodyPost_ret (v := .tuple #[.agg #[I 3, .string (u.extract i p), I i], I (p : Int), .agg #[I 0, I 0]]) (by simp [results, Tryz.results8, go_sem, hcr, hdr]) rfl ⟨_, HT.out, ?_, G.five HR2.out.g _ _ _ _ _⟩
          simp only [tokV]; rw [HN.out]
      · omega
end Go.Proofs.YthgpegldlcfolaaGreatDoor
