/- DiskImage. -/
import Derived.Test.YtbjbphhcmmaaoaaIm3
import Derived.Test.YtbjbphhcmmaaoaaLwG
namespace Go.Proofs.Ytbjbphhcmmaaoaa
open Go.RowKit

/-- A script that came in. -/
def Sc (w : World) (v : Value) (L : Nat) (E : Nat → Op) : Prop := ∃ a cap, v = .slice a L cap ∧ (L = 0 ∨ ∃ b off, a = some ⟨b, off, none⟩ ∧ Ops w b off L E) ∧ ∀ i, i < L → OpOk w (E i)
/-- The disk of one's own, with so many operations done. -/
def D1 (w W : World) (p n B : Nat) : Prop := G w W ∧ ∃ m F, SlP W F (.pointer (some ⟨p, 0, none⟩)) (some m) ∧ m.n = n ∧ m.few B ∧ ∀ k, F k → w.heap.size ≤ k ∧ k < W.heap.size
theorem D1.on {w W W1 W2 : World} {p n B : Nat} {m : DM} {F : Nat → Prop} (g : G w W) (hF : ∀ k, F k → w.heap.size ≤ k ∧ k < W.heap.size) (g1 : G W W1) (h : One W1 ⟨p, 0, none⟩ F m B W2) (hn : m.n = n) : D1 w W2 p n (B + 1) := by
  obtain ⟨F', h1, h2, h3, h4⟩ := h
  have z1 := g.size
  have z2 := g1.size
  have z3 := h3.size
  exact ⟨(g.trans g1).trans2' h3 (fun k hk => (hF k hk).1), m, F', h1, hn, h2, fun k hk => by
    rcases h4 k hk with e | e
    · exact ⟨(hF k e).1, by have := (hF k e).2; omega⟩
    · omega⟩
theorem crashK_none (p : List (Nat × List Nat)) (l : List Nat) : ∀ k, crashK [] p l k = (l, 0)
  | 0 => rfl
  | k + 1 => by
    rw [crashK, crashK_none p l k]
    cases p[k]? with
    | none => rfl
    | some e => simp
/-- Both disks, the image between them. -/
def D2 (w W : World) (p t g n B : Nat) (l : List Nat) : Prop := G w W ∧ Blk W g 5 (l.map bv) ∧ l.length = n * 128 ∧ ∃ m1 m2 F1 F2, Pr W ⟨p, 0, none⟩ ⟨t, 0, none⟩ F1 F2 m1 m2 B ∧ (∀ k, F1 k ∨ F2 k → w.heap.size ≤ k) ∧ m1.laid = l ∧ m1.pend = [] ∧ m1.n = n ∧ m1.off = false
theorem D2.G {w W W' : World} {p t g n B : Nat} {l : List Nat} (h : D2 w W p t g n B l) (k : Go.Proofs.Ytbjbphhcmmaaoaa.G W W') : D2 w W' p t g n B l := by
  obtain ⟨h1, h2, h3, m1, m2, F1, F2, h4, h5, h6⟩ := h
  exact ⟨h1.trans k, h2.G k, h3, m1, m2, F1, F2, h4.G k, h5, h6⟩
theorem D2.read {w W : World} {p t g n B : Nat} {l : List Nat} (hB : B ≤ 549755813888) (h : D2 w W p t g n B l) (k : Nat) (hk : k < n) : Calls Try.prog 15 #[.pointer (some ⟨p, 0, none⟩), .int .i64 k] W fun e w' => ∃ x, e = .returned (.tuple #[x, .int .i64 0]) ∧ Go.Proofs.Ytbjbphhcmmaaoaa.G W w' ∧ Bytes w' x (sector l k) := by
  obtain ⟨h1, h2, h3, m1, m2, F1, F2, h4, h5, h6, h7, h8, h9⟩ := h
  refine (uP_read F1 (some m1) _ k W (few_to h4.x hB) h4.a).mono ?_
  rintro e w' ⟨x, rfl, hg, hb⟩
  have hin : (0 : Int) ≤ (k : Int) ∧ (k : Int) < (m1.n : Int) := by omega
  simp only [rdC, rdB, if_pos hin, h9, DM.newest, h7, h6] at hb ⊢
  exact ⟨x, rfl, hg, by simpa using hb⟩
theorem D2.part {w W : World} {p t g n B : Nat} {l : List Nat} (h : D2 w W p t g n B l) (k : Nat) (hk : k < n) : Bytes W (.slice (some ⟨g, k * 128, none⟩) 128 (n * 128 - k * 128)) (sector l k) := by
  obtain ⟨h1, h2, h3, _⟩ := h
  have hl := sector_len h3 hk
  refine ⟨some ⟨g, k * 128, none⟩, n * 128 - k * 128, by rw [hl], by rw [hl]; omega, .inr ⟨_, _, rfl, fun j x hx => ?_⟩⟩
  rw [Addr.add_mid]
  exact sector_range h2 h3 hk j (bv x) (by rw [List.getElem?_map, hx]; rfl)
/-- Both disks, from then on. -/
def D3 (w W : World) (p t B : Nat) : Prop := G w W ∧ ∃ m1 m2 F1 F2, Pr W ⟨p, 0, none⟩ ⟨t, 0, none⟩ F1 F2 m1 m2 B ∧ ∀ k, F1 k ∨ F2 k → w.heap.size ≤ k
theorem D3.on {w W W1 W2 : World} {p t B : Nat} {F1 F2 : Nat → Prop} (g : G w W) (hF : ∀ k, F1 k ∨ F2 k → w.heap.size ≤ k) (g1 : G W W1) (h : PrA W1 ⟨p, 0, none⟩ ⟨t, 0, none⟩ F1 F2 B W2) : D3 w W2 p t (B + 1) := by
  obtain ⟨F1', F2', m1', m2', h1, h2, h3⟩ := h
  have z1 := g.size
  have z2 := g1.size
  exact ⟨(g.trans g1).trans2' h2 hF, m1', m2', F1', F2', h1, fun k hk => by
    rcases h3 k hk with e | e | e
    · exact hF k (.inl e)
    · exact hF k (.inr e)
    · omega⟩
set_option maxRecDepth 100000 in
set_option maxHeartbeats 8000000 in
theorem image_no (n : Int) (v1 v2 : Value) (hn : n < 1 ∨ 4096 < n) (w : World) : Calls Try.prog 4 #[.int .i64 n, v1, v2] w fun e w' => e = .returned (.bool true) ∧ G w w' := by
  have HS := hide (sizes_no n hn w)
  go_enter Try.func4, Try.ntmps4
  go_wp2_with fail
  refine HS.out.mono ?_
  rintro e' w1 ⟨rfl, hg⟩
  go_wp2
  go_ret
  exact ⟨rfl, hg⟩
set_option maxRecDepth 100000 in
set_option maxHeartbeats 8000000 in
theorem image_some (n : Nat) (h1 : 1 ≤ n) (h2 : n ≤ 4096) (v1 v2 : Value) (L1 L2 : Nat) (hL1 : L1 ≤ 1048576) (hL2 : L2 ≤ 1048576) (E1 E2 : Nat → Op) (w : World) (hv1 : Sc w v1 L1 E1) (hv2 : Sc w v2 L2 E2) : Calls Try.prog 4 #[.int .i64 n, v1, v2] w fun e w' => e = .returned (.bool true) ∧ G w w' := by
  have HS := hide (sizes_yes n h1 h2 w)
  obtain ⟨a1, c1, rfl, hv1, hk1⟩ := hv1
  obtain ⟨a2, c2, rfl, hv2, hk2⟩ := hv2
  have HV1 := hide hv1
  have HK1 := hide hk1
  have HV2 := hide hv2
  have HK2 := hide hk2
  clear hv1 hk1 hv2 hk2
  go_enter Try.func4, Try.ntmps4
  go_wp2_with fail
  refine HS.out.mono ?_
  rintro e' w1 ⟨q, rfl, hg, hp⟩
  obtain ⟨p, hq, _⟩ := id hp
  cases hq
  have HD0 : Hid (D1 w w1 p n 0) := ⟨hg, _, _, hp, rfl, ⟨Nat.le_refl _, Nat.le_refl _, Nat.le_refl _⟩, fun k hk => hk⟩
  clear hg hp HS
  go_wp2_with fail
  go_loopw [10] (fun i W => ∃ m : Nat, m ≤ L1 ∧ i = .int .i64 m ∧ D1 w W p n m) (fun i _ => L1 - (RowKit.intOf i).toNat)
  case atStart => exact ⟨0, by omega, rfl, HD0.out⟩
  case round =>
    obtain ⟨m, hm, rfl, hD⟩ := hrel
    have HG := hide hD.1
    have HD := hide hD.2
    clear hD HD0
    by_cases hlt : m < L1
    · obtain ⟨b, off, rfl, hops⟩ : ∃ b off, a1 = some ⟨b, off, none⟩ ∧ Ops w b off L1 E1 := by
        rcases HV1.out with h | h
        · omega
        · exact h
      have HE1 := hide hops
      clear hops HV1 HV2 HK2
      have HX := hide (rangeAt_G (HE1.out m hlt) HG.out)
      have HO := hide ((HK1.out m hlt).G HG.out)
      have HO0 := hide (HK1.out m hlt)
      generalize E1 m = e at HX HO HO0
      obtain ⟨kind, who, nn, dv, kv⟩ := e
      obtain ⟨da, dl, dc, rfl⟩ : ∃ a l c, dv = .slice a l c := by obtain ⟨_, _, _, _, c, h, _⟩ := HO.out.d; exact ⟨_, _, _, h⟩
      obtain ⟨ka, kl, kc, rfl⟩ : ∃ a l c, kv = .slice a l c := by obtain ⟨_, _, _, c, h, _⟩ := HO.out.k; exact ⟨_, _, _, h⟩
      obtain ⟨md, F, hs, hn, hf, hF⟩ := HD.out
      have HC := hide (does_any ⟨kind, who, nn, .slice da dl dc, .slice ka kl kc⟩ ⟨p, 0, none⟩ F md m (by omega) hf _ HO.out hs (fun k hk => (hF k hk).2))
      have HF := hide hF
      have HN := hide hn
      clear hs hn hf hF HD
      go_wp2_with (first | (refine wpList_load_mid rfl 39 _ rfl b (off + m * 5) rfl [I kind, I who, I nn, .slice da dl dc, .slice ka kl kc] _ HX.out Try.underlying39 rfl (by kernel_rfl) ?_) | fail)
      refine HC.out.mono ?_
      rintro e' w2 ⟨rfl, m', hm', hone⟩
      have HD2 : Hid (D1 w w2 p n (m + 1)) := D1.on HG.out HF.out (G.refl _) hone (hm'.trans HN.out)
      clear hone hm' HC
      go_wp2
      go_roundw
      case rel => exact ⟨m + 1, by omega, by go_num, HD2.out⟩
      case measure => simp [RowKit.intOf]; omega
    · obtain rfl : m = L1 := by omega
      clear HV1 HK1
      obtain ⟨md, F, hs, hn, hf, hF⟩ := HD.out
      obtain ⟨p', hp', hpd⟩ := id hs
      cases hp'
      obtain ⟨N, hN⟩ : ∃ N : Nat, N = n * 128 := ⟨_, rfl⟩
      have HI := hide (image_any F md p wr hpd)
      rw [hn, ← hN] at HI
      have hmul : IntKind.i64.wrap (128 * (n : Int)) = (N : Int) := by rw [IntKind.wrap_i64]; omega
      have HOK := hide hpd.ok
      have HF := hide hF
      have HN := hide hn
      have HSL := hide hs
      have HFW := hide hf
      have HNN := hide hN
      clear hs hn hf hF hpd HD hN
      go_wp2_with fail
      refine HI.out.mono ?_
      rintro e' w2 ⟨rfl, hg2, hb2⟩
      have HG2 := hide hg2
      have HB2 := hide hb2
      clear hg2 hb2 HI
      go_wp2_with fail
      have hlen : md.laid.length = N := by rw [HOK.out.ll, HN.out, HNN.out]
      have HLO := hide (uP_load (.slice (some ⟨wr.heap.size, 0, none⟩) N N) md.laid (by rw [hlen, HNN.out]; omega) HOK.out.lb w2 ⟨some ⟨wr.heap.size, 0, none⟩, N, by rw [hlen], by rw [hlen]; exact Nat.le_refl _, .inr ⟨_, _, rfl, HB2.out.lies⟩⟩)
      have hlb : loadsB md.laid = true := by
        unfold loadsB
        rw [hlen, HNN.out]
        simp
        omega
      have hlm : ldM md.laid = some (DM.load md.laid) := by unfold ldM; rw [hlb]; rfl
      have hlc : ldC md.laid = 0 := by unfold ldC; rw [hlb]; rfl
      rw [hlm, hlc] at HLO
      clear hlb hlm hlc
      refine HLO.out.mono ?_
      rintro e' w3 ⟨qt, rfl, hg3, hp3, _⟩
      obtain ⟨t, hqt, _⟩ := id hp3
      cases hqt
      have HG3 := hide hg3
      have HP3 := hide hp3
      clear hg3 hp3 HLO
      go_wp2_with fail
      refine (o_crash ⟨p, 0, none⟩ F md m (by omega) HFW.out (.slice none 0 0) [] (by decide) _ ((HSL.out.G HG2.out).G HG3.out) ⟨none, 0, rfl, Nat.le_refl _, .inl rfl⟩ (fun j hj => by obtain ⟨_, _, _, e, _⟩ := hj; cases e)).mono ?_
      rintro e' w4 ⟨rfl, hone⟩
      have HL0 := hide hlen
      have HD2 : Hid (D2 w w4 p t wr.heap.size n (m + 1) md.laid ∧ (DM.load md.laid).n = n ∧ SlP w4 (fun k => w2.heap.size ≤ k ∧ k < w3.heap.size) (.pointer (some ⟨t, 0, none⟩)) (some (DM.load md.laid))) := by
        obtain ⟨F', o1, o2, o3, o4⟩ := hone
        have z1 := HG.out.size
        have z2 := HG2.out.size
        have z3 := HG3.out.size
        have z4 := o3.size
        have zb := HB2.out.lt
        have hln : (DM.load md.laid).n = n := by show md.laid.length / 128 = n; rw [HL0.out, HNN.out]; omega
        have hsb : SlP w4 (fun k => w2.heap.size ≤ k ∧ k < w3.heap.size) (.pointer (some ⟨t, 0, none⟩)) (some (DM.load md.laid)) := HP3.out.chg o3 (fun k hk e => by have := (HF.out k e).2; omega)
        have hla : (md.crash []).1.laid = md.laid := by show (crashK [] md.pend md.laid md.pend.length).1 = md.laid; rw [crashK_none]
        refine ⟨⟨((HG.out.trans HG2.out).trans HG3.out).trans2' o3 (fun k hk => (HF.out k hk).1), (HB2.out.G HG3.out).chg o3 (fun e => by have := (HF.out _ e).2; omega), by rw [HL0.out, HNN.out], _, _, F', _, ⟨o1, hsb, ⟨HN.out.trans hln.symm, hla, rfl, rfl, rfl⟩, o2, ⟨Nat.zero_le _, Nat.zero_le _, Nat.zero_le _⟩, fun k h1 h2 => ?_, fun k hk => ?_⟩, fun k hk => ?_, hla, rfl, HN.out, rfl⟩, hln, hsb⟩
        · rcases o4 k h1 with e | e
          · have := (HF.out k e).2; omega
          · omega
        · rcases hk with hk | hk
          · rcases o4 k hk with e | e
            · have := (HF.out k e).2; omega
            · omega
          · omega
        · rcases hk with hk | hk
          · rcases o4 k hk with e | e
            · exact (HF.out k e).1
            · omega
          · omega
      have HSE := hide (uP_sectors _ _ _ _ HD2.out.2.2)
      have hsn : scN (some (DM.load md.laid)) = (n : Int) := by show (((DM.load md.laid).n : Nat) : Int) = n; rw [HD2.out.2.1]
      rw [hsn] at HSE
      have HDA := hide HD2.out.1
      generalize md.laid = la at HDA
      clear hone hsn HD2 HFW HSL HN HF HOK hlen HB2 HP3 HL0 hmul
      go_wp2_with fail
      refine HSE.out.mono ?_
      rintro e' w5 ⟨rfl, rfl⟩
      clear HSE
      go_wp2_with fail
      go_loopw [8, 16, 17, 18] (fun _ i _ _ W => ∃ k : Nat, k ≤ n ∧ i = .int .i64 k ∧ D2 w W p t wr.heap.size n (m + 1) la) (fun _ i _ _ _ => n - (RowKit.intOf i).toNat)
      case atStart => exact ⟨0, by omega, rfl, HDA.out⟩
      case round =>
        obtain ⟨k, hk, rfl, hD2⟩ := hrel
        have HD2 := hide hD2
        clear hD2 HDA
        by_cases hkl : k < n
        · have hkI : (k : Int) < (n : Int) := by omega
          have hm1 : IntKind.i64.wrap (128 * (k : Int)) = ((k * 128 : Nat) : Int) := by rw [IntKind.wrap_i64]; omega
          have hm2 : IntKind.i64.wrap (((k * 128 : Nat) : Int) + 128) = ((k * 128 + 128 : Nat) : Int) := by rw [IntKind.wrap_i64]; omega
          go_wp2_with fail
          refine (HD2.out.read (by omega) k hkl).mono ?_
          rintro e' w6 ⟨x6, rfl, hg6, hb6⟩
          have HG6 := hide hg6
          have HB6 := hide hb6
          clear hg6 hb6
          have hb1 : (k : Int) * 128 + 128 ≤ (N : Int) := by have := HNN.out; omega
          have hb2 : (0 : Int) ≤ (k : Int) * 128 := by omega
          have hb3 : (k : Int) * 128 ≤ (k : Int) * 128 + 128 := by omega
          have hb4 : k * 128 + 128 - k * 128 = 128 := by omega
          have hb5 : ¬ (N - k * 128 = 0) := by have := HNN.out; omega
          have HPT := hide (HD2.out.part k hkl)
          rw [← HNN.out] at HPT
          have HSL := hide (sector_len HD2.out.2.2.1 hkl)
          have HSM := hide (same_true x6 _ (sector la k) (by rw [HSL.out]; decide) w6 HB6.out (HPT.out.G HG6.out))
          go_wp2_with fail
          refine HSM.out.mono ?_
          rintro e' w7 ⟨rfl, hg7⟩
          have HD7 := hide ((HD2.out.G HG6.out).G hg7)
          clear hg7 HSM HPT HSL HB6
          go_wp2
          go_roundw
          case rel => exact ⟨k + 1, by omega, by go_num, HD7.out⟩
          case measure => simp [RowKit.intOf]; omega
        · obtain rfl : k = n := by omega
          have HD3 : Hid (D3 w wr p t (m + 1)) := by
            obtain ⟨q1, _, _, m1, m2, F1, F2, q4, q5, _⟩ := HD2.out
            exact ⟨q1, m1, m2, F1, F2, q4, q5⟩
          clear HD2
          go_wp2_with fail
          go_loopw [8, 19] (fun _ i W => ∃ j : Nat, j ≤ L2 ∧ i = .int .i64 j ∧ D3 w W p t (m + 1 + j)) (fun _ i _ => L2 - (RowKit.intOf i).toNat)
          case atStart => exact ⟨0, by omega, rfl, HD3.out⟩
          case round =>
            obtain ⟨j, hj, rfl, hD⟩ := hrel
            have HGJ := hide hD.1
            have HDJ := hide hD.2
            clear hD HD3
            by_cases hjl : j < L2
            · obtain ⟨b, off, rfl, hops⟩ : ∃ b off, a2 = some ⟨b, off, none⟩ ∧ Ops w b off L2 E2 := by
                rcases HV2.out with h | h
                · omega
                · exact h
              have HE2 := hide hops
              clear hops HV2
              have HX := hide (rangeAt_G (HE2.out j hjl) HGJ.out)
              have HO := hide ((HK2.out j hjl).G HGJ.out)
              have HO0 := hide (HK2.out j hjl)
              generalize E2 j = e at HX HO HO0
              obtain ⟨kind, who, nn, dv, kv⟩ := e
              obtain ⟨da, dl, dc, rfl⟩ : ∃ a l c, dv = .slice a l c := by obtain ⟨_, _, _, _, c, h, _⟩ := HO.out.d; exact ⟨_, _, _, h⟩
              obtain ⟨ka, kl, kc, rfl⟩ : ∃ a l c, kv = .slice a l c := by obtain ⟨_, _, _, c, h, _⟩ := HO.out.k; exact ⟨_, _, _, h⟩
              obtain ⟨m1, m2, F1, F2, hpr, hF⟩ := HDJ.out
              have HC := hide (twin_any ⟨kind, who, nn, .slice da dl dc, .slice ka kl kc⟩ ⟨p, 0, none⟩ ⟨t, 0, none⟩ F1 F2 m1 m2 (m + 1 + j) (by omega) _ HO.out (fun x hx => by
                have hxl : x < w.heap.size := hx.elim (HO0.out.db x) (HO0.out.kb x)
                exact ⟨fun e => by have := hF x (.inl e); omega, fun e => by have := hF x (.inr e); omega⟩) hpr)
              have HF := hide hF
              clear hpr hF HDJ
              go_wp2_with (first | (refine wpList_load_mid rfl 39 _ rfl b (off + j * 5) rfl [I kind, I who, I nn, .slice da dl dc, .slice ka kl kc] _ HX.out Try.underlying39 rfl (by kernel_rfl) ?_) | fail)
              refine HC.out.mono ?_
              rintro e' w2 ⟨rfl, hone⟩
              have HDN : Hid (D3 w w2 p t (m + 1 + j + 1)) := D3.on HGJ.out HF.out (G.refl _) hone
              clear hone HC
              go_wp2
              go_roundw
              case rel => exact ⟨j + 1, by omega, by go_num, HDN.out⟩
              case measure => simp [RowKit.intOf]; omega
            · go_wp2
              go_ret
              exact ⟨rfl, HGJ.out⟩
end Go.Proofs.Ytbjbphhcmmaaoaa
