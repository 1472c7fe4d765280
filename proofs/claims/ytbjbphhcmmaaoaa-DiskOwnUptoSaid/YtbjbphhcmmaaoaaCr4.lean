/- round, holds. -/
import Derived.Test.YtbjbphhcmmaaoaaCr3
namespace Go.Proofs.Ytbjbphhcmmaaoaa
open Go.RowKit

theorem Om.cells {w1 w2 : World} {q : Addr} {F : Nat → Prop} {m' : DM} {B b : Nat} {t : TypeId} {L : List Value} (h : Om w1 q F m' B w2) (hb : Blk w1 b t L) (hF : ¬ F b) : Blk w2 b t L := by
  obtain ⟨_, _, _, h3, _⟩ := h
  exact hb.chg h3 hF
theorem Om.back {w w1 w' : World} {q : Addr} {F : Nat → Prop} {m' : DM} {B : Nat} (h : Om w1 q F m' B w') (g : G w w1) : Om w q F m' B w' := by
  obtain ⟨F', h1, h2, h3, h4⟩ := h
  exact ⟨F', h1, h2, g.chg.trans h3, fun k hk => (h4 k hk).imp id (fun x => ⟨Nat.le_trans g.size x.1, x.2⟩)⟩
theorem few_any {m : DM} {B C : Nat} (h : m.few B) (hc : B ≤ C) : m.few C := ⟨Nat.le_trans h.w hc, Nat.le_trans h.f hc, Nat.le_trans h.p hc⟩
set_option maxRecDepth 100000 in
set_option maxHeartbeats 4000000 in
theorem round_any (q : Addr) (F : Nat → Prop) (m : DM) (B n : Nat) (hn : m.n = n) (hon : m.on) (hpe : m.pend = []) (hB : m.few B) (v1 v2 kv : Value) (dk : Bool) (L1 L2 : Nat) (hL1 : L1 ≤ 1048576) (hL2 : L2 ≤ 1048576) (hBB : B + L1 + L2 + 3 ≤ 549755813888) (E1 E2 : Nat → Pu) (ks : List Bool) (hkl : ks.length ≤ 1073741824) (w : World)
    (hv1 : PuS w v1 L1 E1) (hv2 : PuS w v2 L2 E2) (hk : Keeps w kv ks) (hks : kv = .slice none 0 0 ∨ ∃ ad n c, kv = .slice (some ad) n c) (h1F : ∀ j, Value.blk v1 j → ¬ F j) (h2F : ∀ j, Value.blk v2 j → ¬ F j) (hkF : ∀ j, Value.blk kv j → ¬ F j) (h2l : ∀ j, Value.blk v2 j → j < w.heap.size) (hkb : ∀ j, Value.blk kv j → j < w.heap.size) (h : SlP w F (.pointer (some q)) (some m)) (hFl : ∀ k, F k → k < w.heap.size) :
    Calls Try.prog 7 #[.pointer (some q), .int .i64 n, .agg #[v1, v2, kv, .bool dk]] w fun e w' => e = .returned (.bool true) ∧ Om w q F (rndM m (vals n E1 L1) (vals n E2 L2) ks) (B + L1 + L2 + 1) w' := by
  have HO1 := hide (Blk.new w [v1, v2, kv, .bool dk] 31)
  have HG1 := hide ((G.refl w).alloc (.cells #[v1, v2, kv, .bool dk] 31))
  have HKL := hide hkl
  have HKS := hide hks
  have HFL := hide hFl
  have HP1 := hide (vals_len n E1 L1)
  have HP2 := hide (vals_len n E2 L2)
  have HFE : Hid ((rndM m (vals n E1 L1) (vals n E2 L2) ks).few (B + L1 + L2 + 1)) := by
    have a1 := HP1.out
    have a2 := HP2.out
    have b1 := hB.w
    have b2 := hB.f
    exact ⟨by show m.writes + (vals n E1 L1).length + (vals n E2 L2).length ≤ _; omega, by show m.flushes + 1 ≤ _; omega, Nat.zero_le _⟩
  have HV1 := hide hv1
  have HV2 := hide hv2
  have HKV := hide hk
  have H2F := hide h2F
  have H1F := hide h1F
  have HKF := hide hkF
  have H2L := hide h2l
  have HKB := hide hkb
  have HSL := hide h
  have HB := hide hB
  have HON := hide hon
  have HN := hide hn
  have HPE := hide hpe
  clear hkl hks hFl hv1 hv2 hk h2F h1F hkF h2l hkb h hB hon hn hpe
  go_enter Try.func7, Try.ntmps7
  go_wp2_with fail
  generalize w.alloc (.cells #[v1, v2, kv, .bool dk] 31) = w1 at HO1 HG1 ⊢
  refine (puts_any q F m B n HN.out HON.out HB.out v1 L1 hL1 (by omega) E1 _ (HV1.out.G HG1.out) H1F.out (HSL.out.G HG1.out) (fun k hk => Nat.lt_of_lt_of_le (HFL.out k hk) HG1.out.size)).mono ?_
  rintro e' w2 ⟨rfl, hom⟩
  have HNO : Hid (¬ F w.heap.size) := fun e => Nat.lt_irrefl _ (HFL.out _ e)
  have HO2 := hide (hom.cells HO1.out HNO.out)
  generalize hP1 : vals n E1 L1 = P1 at hom HP1 HFE ⊢
  have HE1 := hide hP1
  clear hP1
  generalize hP2 : vals n E2 L2 = P2 at HP2 HFE ⊢
  have HE2 := hide hP2
  clear hP2
  obtain ⟨F2, hs2, hf2, hc2, hu2⟩ := hom
  have HS2 := hide hs2
  have HF2 := hide hf2
  have HC2 := hide hc2
  have HU2 := hide hu2
  have HL2' : Hid (∀ k, F2 k → k < w2.heap.size) := fun k hk => (HU2.out k hk).elim (fun x => Nat.lt_of_lt_of_le (HFL.out k x) (Nat.le_trans HG1.out.size HC2.out.size)) (fun x => x.2)
  have HW2 : Hid (∀ k, F2 k → F k ∨ w.heap.size < k) := fun k hk => (HU2.out k hk).imp id (fun x => by have := HO1.out.lt; omega)
  clear hs2 hf2 hc2 hu2
  go_wp2_with fail
  refine (o_flush q F2 (putM m P1) (B + L1) (by omega) HF2.out _ HS2.out).mono ?_
  rw [flush_on (putM_on HON.out P1)]
  rintro e' w3 ⟨rfl, hone⟩
  have hlx : (putM m P1).pend = P1 := by show m.pend ++ P1 = P1; rw [HPE.out]; rfl
  rw [hlx] at hone
  clear hlx
  have hone2 := hone.om (B' := B + L1 + 1) ⟨by have := HF2.out.w; show (putM m P1).writes ≤ _; omega, by have := HF2.out.f; show (putM m P1).flushes + 1 ≤ _; omega, Nat.zero_le _⟩
  have HO3 := hide (hone2.cells HO2.out (fun e => by rcases HW2.out _ e with x | x; exact HNO.out x; omega))
  have hom3 := Om.then HC2.out HU2.out (G.refl _) hone2
  clear hone hone2
  generalize hm3 : ({ putM m P1 with flushes := (putM m P1).flushes + 1, laid := P1.foldl lay (putM m P1).laid, pend := [] } : DM) = m3 at hom3
  have HM3 := hide hm3
  clear hm3
  obtain ⟨F3, hs3, hf3, hc3, hu3⟩ := hom3
  have HS3 := hide hs3
  have HF3 := hide hf3
  have HC3 := hide hc3
  have HU3 := hide hu3
  have HL3 : Hid (∀ k, F3 k → k < w3.heap.size) := fun k hk => (HU3.out k hk).elim (fun x => Nat.lt_of_lt_of_le (HFL.out k x) (Nat.le_trans HG1.out.size HC3.out.size)) (fun x => x.2)
  have HW3 : Hid (∀ k, F3 k → F k ∨ w.heap.size < k) := fun k hk => (HU3.out k hk).imp id (fun x => by have := HO1.out.lt; omega)
  have hco := HO3.out.cell
  clear hs3 hf3 hc3 hu3
  go_wp2_with fail
  refine (puts_any q F3 m3 (B + L1 + 1) n (by rw [← HM3.out]; exact HN.out) (by rw [← HM3.out]; exact HON.out) HF3.out v2 L2 hL2 (by omega) E2 _ ((HV2.out.G HG1.out).chg HC3.out H2F.out) (fun j hj e => by rcases HW3.out j e with x | x; exact H2F.out j hj x; have := H2L.out j hj; omega) HS3.out HL3.out).mono ?_
  rw [HE2.out]
  rintro e' w4 ⟨rfl, hom⟩
  clear hco
  have HO4 := hide (hom.cells HO3.out (fun e => by rcases HW3.out _ e with x | x; exact HNO.out x; omega))
  have hom4 := Om.then HC3.out HU3.out (G.refl _) hom
  clear hom
  obtain ⟨F4, hs4, hf4, hc4, hu4⟩ := hom4
  have HS4 := hide hs4
  have HF4 := hide hf4
  have HC4 := hide hc4
  have HO1L := hide HO1.out.lt
  have HU4 := hide hu4
  have HL4 : Hid (∀ k, F4 k → k < w4.heap.size) := fun k hk => (HU4.out k hk).elim (fun x => Nat.lt_of_lt_of_le (HFL.out k x) (Nat.le_trans HG1.out.size HC4.out.size)) (fun x => x.2)
  have HW4 : Hid (∀ k, F4 k → F k ∨ w.heap.size < k) := fun k hk => (hu4 k hk).imp id (fun x => by have := HO1.out.lt; omega)
  have HKC := hide ((HKV.out.G HG1.out).chg HC4.out HKF.out)
  have hco := HO4.out.cell
  have HON4 : Hid (putM m3 P2).on := by rw [← HM3.out]; exact HON.out
  have HCR : Hid (((putM m3 P2).crash ks).1 = rndM m P1 P2 ks) := by
    rw [← HM3.out]
    unfold Hid DM.crash rndM putM
    simp
  clear hs4 hf4 hc4 hu4 HS2 HS3 HF2 HF3 HU2 HU3 HC2 HC3 HO1 HO2 HO3 HL2' HW2 HL3 HW3 HV1 HV2
  cases dk with
  | false =>
    have HSX := HS4
    have HFX : Hid ((putM m3 P2).few 549755813887) := hide (few_any HF4.out (by omega))
    have HLX := HL4
    have HCX := HC4
    have HUX := HU4
    obtain ⟨v5, w5, hrun, hg5, hk5, hb5⟩ := app_keep 23 HKL.out (HKC.out) HKS.out
    have HRUN := hide hrun
    have HA5 := hide hg5
    have HK5 := hide hk5
    have HB5 := hide hb5
    clear hrun hg5 hk5 hb5
    go_wp2_with (first | (at_builtin; refine wpList_append_run rfl _ _ 23 rfl (.slice none 0 0) kv rfl rfl HRUN.out ?_) | fail)
    clear HRUN
    refine (o_crash q F4 (putM m3 P2) 549755813887 (by omega) HFX.out v5 ks (by have := HKL.out; omega) _ (HSX.out.G HA5.out) HK5.out (fun j hj e => by have h1 := HB5.out j hj; have h2 := HLX.out j e; omega)).mono ?_
    rintro e' w6 ⟨rfl, hone⟩
    have HEND : Hid (Om w q F (rndM m P1 P2 ks) (B + L1 + L2 + 1) w6) := by
      have h9 := Om.then HCX.out HUX.out HA5.out (hone.om (B' := B + L1 + L2 + 1) (by rw [HCR.out]; exact HFE.out))
      rw [HCR.out] at h9
      exact h9.back HG1.out
    clear hone
    go_wp2
    go_ret
    exact ⟨rfl, by rw [HE1.out, HE2.out]; exact HEND.out⟩
  | true =>
    go_wp2_with fail
    refine (o_cut q F4 (putM m3 P2) (B + L1 + 1 + L2) HF4.out 0 (by decide) _ HS4.out).mono ?_
    rw [cut_on HON4.out]
    rintro e' w4b ⟨rfl, hone⟩
    have hone2 := hone.om (B' := B + L1 + 1 + L2) ⟨HF4.out.w, HF4.out.f, HF4.out.p⟩
    have HO5 := hide (hone2.cells HO4.out (fun e => by rcases HW4.out _ e with x | x; exact HNO.out x; omega))
    have hom5 := Om.then HC4.out HU4.out (G.refl _) hone2
    clear hone hone2 hco
    obtain ⟨F5, hs5, hf5, hc5, hu5⟩ := hom5
    have HS5 := hide hs5
    have HF5 := hide hf5
    have HC5 := hide hc5
    have HU5 := hide hu5
    have HL5 : Hid (∀ k, F5 k → k < w4b.heap.size) := fun k hk => (HU5.out k hk).elim (fun x => Nat.lt_of_lt_of_le (HFL.out k x) (Nat.le_trans HG1.out.size HC5.out.size)) (fun x => x.2)
    have HW5 : Hid (∀ k, F5 k → F k ∨ w.heap.size < k) := fun k hk => (HU5.out k hk).imp id (fun x => by have := HO1L.out; omega)
    clear hs5 hf5 hc5 hu5
    go_wp2_with fail
    refine (o_flush q F5 _ (B + L1 + 1 + L2) (by omega) HF5.out _ HS5.out).mono ?_
    rw [flush_dark HON4.out.1]
    rintro e' w4c ⟨rfl, hone⟩
    have hone2 := hone.om (B' := B + L1 + 1 + L2) ⟨HF4.out.w, HF4.out.f, HF4.out.p⟩
    have HO6 := hide (hone2.cells HO5.out (fun e => by rcases HW5.out _ e with x | x; exact HNO.out x; omega))
    have hom6 := Om.then HC5.out HU5.out (G.refl _) hone2
    clear hone hone2
    obtain ⟨F6, hs6, hf6, hc6, hu6⟩ := hom6
    have HSX := hide hs6
    have HFX := hide (few_any (C := 549755813887) hf6 (by omega))
    have HCX := hide hc6
    have HUX := hide hu6
    have HLX : Hid (∀ k, F6 k → k < w4c.heap.size) := fun k hk => (HUX.out k hk).elim (fun x => Nat.lt_of_lt_of_le (HFL.out k x) (Nat.le_trans HG1.out.size HCX.out.size)) (fun x => x.2)
    have HKC := hide ((HKV.out.G HG1.out).chg HCX.out HKF.out)
    have hco := HO6.out.cell
    have HCR : Hid ((({ putM m3 P2 with off := true, fuse := none } : DM).crash ks).1 = rndM m P1 P2 ks) := HCR.out
    clear hs6 hf6 hc6 hu6 HS4 HF4 HU4 HC4 HS5 HF5 HU5 HC5
    obtain ⟨v5, w5, hrun, hg5, hk5, hb5⟩ := app_keep 23 HKL.out (HKC.out) HKS.out
    have HRUN := hide hrun
    have HA5 := hide hg5
    have HK5 := hide hk5
    have HB5 := hide hb5
    clear hrun hg5 hk5 hb5
    go_wp2_with (first | (at_builtin; refine wpList_append_run rfl _ _ 23 rfl (.slice none 0 0) kv rfl rfl HRUN.out ?_) | fail)
    clear HRUN
    refine (o_crash q F6 ({ putM m3 P2 with off := true, fuse := none } : DM) 549755813887 (by omega) HFX.out v5 ks (by have := HKL.out; omega) _ (HSX.out.G HA5.out) HK5.out (fun j hj e => by have h1 := HB5.out j hj; have h2 := HLX.out j e; omega)).mono ?_
    rintro e' w6 ⟨rfl, hone⟩
    have HEND : Hid (Om w q F (rndM m P1 P2 ks) (B + L1 + L2 + 1) w6) := by
      have h9 := Om.then HCX.out HUX.out HA5.out (hone.om (B' := B + L1 + L2 + 1) (by rw [HCR.out]; exact HFE.out))
      rw [HCR.out] at h9
      exact h9.back HG1.out
    clear hone
    go_wp2
    go_ret
    exact ⟨rfl, by rw [HE1.out, HE2.out]; exact HEND.out⟩
/-- The row of what each sector should hold: block g, so many cells at least. -/
def Rw (w : World) (g n : Nat) (l : List Nat) (X : Nat → Value) : Prop := ∀ k, k < n → w.cell? ⟨g, k, none⟩ = some (X k) ∧ Bytes w (X k) (sector l k)
theorem Rw.G {w w' : World} {g n : Nat} {l : List Nat} {X : Nat → Value} (h : Rw w g n l X) (k : Go.Proofs.Ytbjbphhcmmaaoaa.G w w') : Rw w' g n l X := fun i hi => ⟨cell_chg (h i hi).1 k.chg (F := fun _ => False) (fun h => h), (h i hi).2.G k⟩
theorem Rw.chg {F : Nat → Prop} {w w' : World} {g n : Nat} {l : List Nat} {X : Nat → Value} (h : Rw w g n l X) (k : Chg F w w') (hg : ¬ F g) (hX : ∀ i, i < n → ∀ j, Value.blk (X i) j → ¬ F j) : Rw w' g n l X := fun i hi => ⟨cell_chg (h i hi).1 k hg, (h i hi).2.chg k (hX i hi)⟩
theorem read_still {W : World} {q : Addr} {F : Nat → Prop} {m : DM} {B n : Nat} (hB : B ≤ 549755813888) (h : SlP W F (.pointer (some q)) (some m)) (hf : m.few B) (hn : m.n = n) (hon : m.on) (hp : m.pend = []) (k : Nat) (hk : k < n) : Calls Try.prog 15 #[.pointer (some q), .int .i64 k] W fun e w' => ∃ x, e = .returned (.tuple #[x, .int .i64 0]) ∧ G W w' ∧ Bytes w' x (sector m.laid k) := by
  refine (uP_read F (some m) _ k W (few_to hf hB) h).mono ?_
  rintro e w' ⟨x, rfl, hg, hb⟩
  have hin : (0 : Int) ≤ (k : Int) ∧ (k : Int) < (m.n : Int) := by omega
  simp only [rdC, rdB, if_pos hin, hon.1, DM.newest, hp] at hb ⊢
  exact ⟨x, rfl, hg, by simpa using hb⟩
set_option maxRecDepth 100000 in
set_option maxHeartbeats 4000000 in
theorem holds_any (q : Addr) (F : Nat → Prop) (m : DM) (B n : Nat) (hn : m.n = n) (hon : m.on) (hpe : m.pend = []) (hB : m.few B) (hBB : B ≤ 549755813888) (g cap : Nat) (X : Nat → Value) (av : Value) (ks : List Bool) (hkl : ks.length ≤ 1073741824) (w : World) (hw : Rw w g n m.laid X) (hk : Keeps w av ks) (hks : av = .slice none 0 0 ∨ ∃ ad n c, av = .slice (some ad) n c) (h : SlP w F (.pointer (some q)) (some m)) (hFl : ∀ k, F k → k < w.heap.size) :
    Calls Try.prog 9 #[.pointer (some q), .slice (some ⟨g, 0, none⟩) n cap, av] w fun e w' => e = .returned (.bool true) ∧ Om w q F m B w' := by
  have HW := hide hw
  have HKV := hide hk
  have HKS := hide hks
  have HKL := hide hkl
  have HSL := hide h
  have HB := hide hB
  have HON := hide hon
  have HN := hide hn
  have HPE := hide hpe
  have HFL := hide hFl
  have HLN : Hid (∀ k, k < n → (sector m.laid k).length ≤ 4611686018427387904) := fun k hk => by
    obtain ⟨p, _, hd⟩ := HSL.out
    rw [sector_len hd.ok.ll (by rw [HN.out]; exact hk)]
    decide
  have hn2 : n ≤ 4096 := by obtain ⟨p, _, hd⟩ := HSL.out; have := hd.ok.n2; have := HN.out; omega
  clear hw hk hks hkl h hB hon hn hpe hFl
  go_enter Try.func9, Try.ntmps9
  go_wp2_with fail
  go_loopw [7, 8, 9, 10] (fun i _ _ _ W => ∃ k : Nat, k ≤ n ∧ i = .int .i64 k ∧ G w W) (fun i _ _ _ _ => n - (RowKit.intOf i).toNat)
  case atStart => exact ⟨0, by omega, rfl, G.refl _⟩
  case round =>
    obtain ⟨k, hk, rfl, hg⟩ := hrel
    have HG := hide hg
    clear hg
    by_cases hlt : k < n
    · have hkI : (k : Int) < (n : Int) := by omega
      go_wp2_with fail
      refine (read_still hBB (HSL.out.G HG.out) HB.out HN.out HON.out HPE.out k hlt).mono ?_
      rintro e' w2 ⟨x2, rfl, hg2, hb2⟩
      have hcx := ((HW.out.G (HG.out.trans hg2)) k hlt).1
      have HSM := hide (same_true x2 (X k) (sector m.laid k) (HLN.out k hlt) w2 hb2 ((HW.out.G (HG.out.trans hg2)) k hlt).2)
      have HG2 := hide (HG.out.trans hg2)
      clear hg2 hb2
      go_wp2_with fail
      refine HSM.out.mono ?_
      rintro e' w3 ⟨rfl, hg3⟩
      have HG3 := hide (HG2.out.trans hg3)
      clear hg3 hcx HSM
      go_wp2
      go_roundw
      case rel => exact ⟨k + 1, by omega, by go_num, HG3.out⟩
      case measure => simp [RowKit.intOf]; omega
    · have hkI : ¬ (k : Int) < (n : Int) := by omega
      obtain ⟨v5, w5, hrun, hg5, hk5, hb5⟩ := app_keep 23 HKL.out (HKV.out.G HG.out) HKS.out
      have HRUN := hide hrun
      have HA5 := hide hg5
      have HK5 := hide hk5
      have HB5 := hide hb5
      clear hrun hg5 hk5 hb5
      go_wp2_with (first | (at_builtin; refine wpList_append_run rfl _ _ 23 rfl (.slice none 0 0) av rfl rfl HRUN.out ?_) | fail)
      clear HRUN
      refine (o_crash q F m B hBB HB.out v5 ks (by have := HKL.out; omega) _ ((HSL.out.G HG.out).G HA5.out) HK5.out (fun j hj e => by have h1 := HB5.out j hj; have h2 := HFL.out j e; have := HG.out.size; omega)).mono ?_
      rw [crash_still HON.out HPE.out]
      rintro e' w6 ⟨rfl, hone⟩
      have HEND : Hid (Om w q F m B w6) := (hone.om HB.out).back (HG.out.trans HA5.out)
      clear hone
      go_wp2
      go_ret
      exact ⟨rfl, HEND.out⟩
end Go.Proofs.Ytbjbphhcmmaaoaa
