/- ValueOrder: the loops. -/
import Derived.Test.YtdiikofgilplkaaDoorOrdE
import Derived.Test.YtdiikofgilplkaaDoorCmpOk
namespace Go.Proofs.YtdiikofgilplkaaDoor
open Go.RowKit Go.Lib Go.Shelf

/-- All that the loops stand on: the values, their bytes, how they compare. -/
structure OW (w2 : World) (b off gy : Nat) (D : List Qd) : Prop where
  c : ∀ (i : Nat) (q : Qd), D[i]? = some q → ∀ W, G w2 W → W.cell? ⟨b, off + i * 4, none⟩ = some (I q.1) ∧ W.cell? ⟨b, off + i * 4 + 1, none⟩ = some (I q.2.1) ∧ W.cell? ⟨b, off + i * 4 + 2, none⟩ = some (I q.2.2.1) ∧ W.cell? ⟨b, off + i * 4 + 3, none⟩ = some (.string q.2.2.2)
  y : ∀ (i : Nat) (q : Qd), D[i]? = some q → ∃ u, ∀ W, G w2 W → W.cell? ⟨gy, i, none⟩ = some u ∧ RowB W u q.enc
  q : ∀ q ∈ D, QOk q ∧ q.ok = true
  t : Tabs w2
  r : Rks w2
theorem OW.cmp {w2 : World} {b off gy : Nat} {D : List Qd} (h : OW w2 b off gy D) {q q' : Qd} (hq : q ∈ D) (hq' : q' ∈ D) : (∀ W, G w2 W → Calls Tryd.prog 7 #[q.W, q'.W] W fun e w' => e = .returned (.int .i64 (lx q.enc q'.enc)) ∧ G W w') ∧
    ((lx q.enc q'.enc = -1 ∧ ¬ q.enc <+: q'.enc ∧ ((q.1 == q'.1) && (q.2.1 == q'.2.1) && (q.2.2.1 == q'.2.2.1) && (q.2.2.2.toList == q'.2.2.2.toList)) = false) ∨ (lx q.enc q'.enc = 1 ∧ ¬ q.enc <+: q'.enc ∧ ((q.1 == q'.1) && (q.2.1 == q'.2.1) && (q.2.2.1 == q'.2.2.1) && (q.2.2.2.toList == q'.2.2.2.toList)) = false) ∨ (lx q.enc q'.enc = 0 ∧ ((q.1 == q'.1) && (q.2.1 == q'.2.1) && (q.2.2.1 == q'.2.2.1) && (q.2.2.2.toList == q'.2.2.2.toList)) = true)) := by
  obtain ⟨⟨_, h1, h2, _⟩, h3⟩ := h.q q hq
  obtain ⟨⟨_, g1, g2, _⟩, g3⟩ := h.q q' hq'
  obtain ⟨c1, c2⟩ := cmp_lx q.1 q.2.1 q.2.2.1 q'.1 q'.2.1 q'.2.2.1 q.2.2.2 q'.2.2.2 h3 g3 h1 h2 g1 g2
  exact ⟨fun W g => c1 W (h.t.G g) (h.r.G g), c2⟩
theorem OW.lt {w2 : World} {b off gy : Nat} {D : List Qd} (h : OW w2 b off gy D) {q : Qd} (hq : q ∈ D) : (∀ d ∈ q.enc, d < 256) ∧ q.enc.length ≤ 4096 ∧ 0 < q.enc.length := by
  obtain ⟨⟨_, h1, h2, _⟩, h3⟩ := h.q q hq
  exact ⟨enc_lt _ _ _ _ h3 h1 h2, enc_len _ _ _ _ h3 h1 h2, encV_pos _ _ _ _⟩
/-- Two of the values: all that a round of the second loop asks. -/
structure OP (w2 : World) (b off gy m1 m2 : Nat) (k1 a1 b1 k2 a2 b2 : Int) (s1 s2 : ByteArray) (u1 u2 : Value) (z : Int) : Prop where
  s : ∀ W, G w2 W → (fun W => (W.cell? ⟨b, off + m1 * 4, none⟩ = some (I k1) ∧ W.cell? ⟨b, off + m1 * 4 + 1, none⟩ = some (I a1) ∧ W.cell? ⟨b, off + m1 * 4 + 2, none⟩ = some (I b1) ∧ W.cell? ⟨b, off + m1 * 4 + 3, none⟩ = some (.string s1)) ∧ (W.cell? ⟨b, off + m2 * 4, none⟩ = some (I k2) ∧ W.cell? ⟨b, off + m2 * 4 + 1, none⟩ = some (I a2) ∧ W.cell? ⟨b, off + m2 * 4 + 2, none⟩ = some (I b2) ∧ W.cell? ⟨b, off + m2 * 4 + 3, none⟩ = some (.string s2)) ∧ W.cell? ⟨gy, m1, none⟩ = some u1 ∧ W.cell? ⟨gy, m2, none⟩ = some u2) W
  c12 : ∀ W, G w2 W → Calls Tryd.prog 7 #[V k1 a1 b1 s1, V k2 a2 b2 s2] W fun e w' => e = .returned (.int .i64 z) ∧ G W w'
  c21 : ∀ W, G w2 W → Calls Tryd.prog 7 #[V k2 a2 b2 s2, V k1 a1 b1 s1] W fun e w' => e = .returned (.int .i64 (-z)) ∧ G W w'
  l : ∀ W, G w2 W → Calls Tryd.prog 8 #[u1, u2] W fun e w' => e = .returned (.int .i64 z) ∧ G W w'
  bg : z ≠ 0 → ∀ W, G w2 W → Calls Tryd.prog 9 #[u1, u2] W fun e w' => e = .returned (.bool false) ∧ G W w'
  q : ((k1 == k2) && (a1 == a2) && (b1 == b2) && (s1.toList == s2.toList)) = (z == 0)
  z : z = -1 ∨ z = 1 ∨ z = 0
theorem OW.pair {w2 : World} {b off gy : Nat} {D : List Qd} (h : OW w2 b off gy D) {m1 m2 : Nat} {q q' : Qd} (h1 : D[m1]? = some q) (h2 : D[m2]? = some q') : ∃ u1 u2, OP w2 b off gy m1 m2 q.1 q.2.1 q.2.2.1 q'.1 q'.2.1 q'.2.2.1 q.2.2.2 q'.2.2.2 u1 u2 (lx q.enc q'.enc) := by
  obtain ⟨u1, hu1⟩ := h.y m1 q h1
  obtain ⟨u2, hu2⟩ := h.y m2 q' h2
  have i1 := List.mem_of_getElem? h1
  have i2 := List.mem_of_getElem? h2
  obtain ⟨c1, c2⟩ := h.cmp i1 i2
  obtain ⟨c3, _⟩ := h.cmp i2 i1
  obtain ⟨x1, x2, x3⟩ := h.lt i1
  obtain ⟨y1, y2, y3⟩ := h.lt i2
  refine ⟨u1, u2, fun W g => ⟨h.c m1 q h1 W g, h.c m2 q' h2 W g, (hu1 W g).1, (hu2 W g).1⟩, c1, ?_, fun W g => lex_any _ _ _ _ W (hu1 W g).2 (hu2 W g).2 (by omega) (by omega) x1 y1, ?_, ?_, ?_⟩
  · rw [lx_flip] at c3; exact c3
  · intro hz W g
    refine begins_no _ _ _ _ W (hu1 W g).2 (hu2 W g).2 (by omega) (by omega) x1 y1 ?_ x3 y3
    rcases c2 with ⟨_, h, _⟩ | ⟨_, h, _⟩ | ⟨h, _⟩
    · exact h
    · exact h
    · exact absurd h hz
  · rcases c2 with ⟨h, _, h'⟩ | ⟨h, _, h'⟩ | ⟨h, h'⟩ <;> rw [h, h'] <;> rfl
  · rcases c2 with ⟨h, _⟩ | ⟨h, _⟩ | ⟨h, _⟩
    · exact .inl h
    · exact .inr (.inl h)
    · exact .inr (.inr h)
theorem ow_of {w1 w2 : World} {b off cap gy capy : Nat} {D : List Qd} {X : List Value} (hV : VRow w1 (.slice (some ⟨b, off, none⟩) D.length cap) D) (hg : G w1 w2) (hy : w2.ownsRow w1.heap.size 23 1 (.slice (some ⟨gy, 0, none⟩) X.length capy) X.length X) (hl : X.length = D.length)
    (hX : ∀ (j : Nat) (q : Qd) (u : Value), D[j]? = some q → X[j]? = some u → w2.ownsRow w1.heap.size 5 1 u q.enc.length (q.enc.map bv)) (hq : ∀ q ∈ D, QOk q ∧ q.ok = true) (hT : Tabs w2) (hR : Rks w2) : OW w2 b off gy D := by
  refine ⟨fun i q hi W g => vrow_at (VRow.G (VRow.G hV hg) g) hi, fun i q hi => ?_, hq, hT, hR⟩
  obtain ⟨hlt, _⟩ := List.getElem?_eq_some_iff.1 hi
  obtain ⟨u, hu⟩ : ∃ u, X[i]? = some u := ⟨_, List.getElem?_eq_getElem (by omega)⟩
  refine ⟨u, fun W g => ⟨?_, RowB.G (own_row (hX i q u hi hu)) g⟩⟩
  have hc := hy.cells (g := gy) rfl i u hu
  rw [show (⟨gy, 0, none⟩ : Addr).add i = ⟨gy, i, none⟩ by unfold Addr.add; split <;> simp_all] at hc
  exact (g.cell (cellLt hc)).trans hc
set_option maxRecDepth 100000 in
set_option maxHeartbeats 16000000 in
theorem order_any (v0 v1 : Value) (w : World) (hv : VsOk w v0) (hbs : BsOk w v1) (hT : Tabs w) (hR : Rks w) : Calls Tryd.prog 3 #[v0, v1] w fun e w' => e = .returned (.bool true) ∧ G w w' := by
  obtain ⟨tp, tc, ts, rfl, _, htb, htl, _, htc⟩ := bs_list hbs
  have HVA : Hid (Calls Tryd.prog 5 #[v0] w (VdA w)) := valid_any v0 w hv
  have HTB : Hid _ := htb
  have HTC : Hid _ := htc
  have HT : Hid _ := hT
  have HR : Hid _ := hR
  clear hv hbs htb htc hT hR
  go_enter Tryd.func3, Tryd.ntmps3
  go_wp2_with fail
  refine HVA.out.mono ?_
  rintro e w1 ⟨x, D, rfl, hown, hG1, h12, hqD⟩
  have HQD : Hid _ := hqD
  have HGA : Hid (G w w1) := hG1
  clear hqD hG1 HVA
  have hvr := own_vrow hown
  clear hown
  rcases hvr with ⟨rfl, rfl⟩ | ⟨b, off, cap, rfl, hcap, hcells⟩
  · go_wp2_with fail
    refine (encoded_nil _ w1).mono ?_
    rintro e w2 ⟨y, X, rfl, hg2, _, _, _⟩
    have HG : Hid (G w w2) := HGA.out.trans hg2
    clear hg2
    go_wp2
    go_loopw [8] (fun i W => i = .int .i64 0 ∧ W = w2) (fun _ _ => 0)
    case atStart => exact ⟨rfl, rfl⟩
    case round =>
      obtain ⟨rfl, rfl⟩ := hrel
      go_wp2
      go_ret
      exact ⟨rfl, HG.out⟩
  have HEN : Hid (Calls Tryd.prog 6 #[.slice (some ⟨b, off, none⟩) D.length cap, .slice tp ts.length tc] w1 (EnA D w1)) := encoded_some b off cap D (.slice tp ts.length tc) ts tp tc w1 (Tabs.G HT.out HGA.out) (.inr ⟨b, off, cap, rfl, hcap, hcells⟩) HQD.out h12 rfl HTB.out htl (by
    rcases HTC.out with h | ⟨ad, h, hc⟩
    · exact .inl h
    · refine .inr ⟨ad, h, fun W g j u hj => ?_⟩
      have h0 := hc j u hj
      have hsp := World.cell?_spot h0
      have hlt := World.block_lt_of_cell? _ _ h0
      have gg := HGA.out.trans g
      rw [Below.cell gg hlt]; exact h0)
  go_wp2_with fail
  refine HEN.out.mono ?_
  rintro e w2 ⟨y, X, rfl, hg2, hy, hl, hX⟩
  clear HEN
  have HG : Hid (G w w2) := HGA.out.trans hg2
  by_cases hD : D.length = 0
  · clear hy hl hX hg2 hcells
    go_wp2
    go_loopw [8] (fun i W => i = .int .i64 0 ∧ W = w2) (fun _ _ => 0)
    case atStart => exact ⟨rfl, rfl⟩
    case round =>
      obtain ⟨rfl, rfl⟩ := hrel
      go_wp2
      go_ret
      exact ⟨rfl, HG.out⟩
  have hyy := hy.2
  rcases hyy with ⟨rfl, h0⟩ | ⟨gy, capy, cur, rfl, _, _, hcapy, _⟩
  · omega
  have HW : Hid (OW w2 b off gy D) := ow_of (.inr ⟨b, off, cap, rfl, hcap, hcells⟩) hg2 hy hl hX HQD.out (Tabs.G HT.out HG.out) (Rks.G HR.out HG.out)
  clear hy hX hg2 hcells HQD HTC HTB HGA HT HR htl
  rw [hl] at hcapy
  rw [hl]
  clear hl
  go_wp2
  go_loopw [8] (fun i W => ∃ m1 : Nat, m1 ≤ D.length ∧ i = .int .i64 m1 ∧ G w2 W) (fun i _ => D.length - (RowKit.intOf i).toNat)
  case atStart => exact ⟨0, by omega, rfl, G.refl _⟩
  case round =>
    obtain ⟨m1, hm1, rfl, hg⟩ := hrel
    by_cases hl1 : m1 < D.length
    · obtain ⟨q1, hq1⟩ : ∃ q, D[m1]? = some q := ⟨D[m1], List.getElem?_eq_getElem hl1⟩
      have HQ1 : Hid _ := hq1
      have hI1 : (m1 : Int) < (D.length : Int) := by omega
      have HG1 : Hid _ := hg
      clear hq1 hg
      go_wp2
      go_loopw [9] (fun i W => ∃ m2 : Nat, m2 ≤ D.length ∧ i = .int .i64 m2 ∧ G w2 W) (fun i _ => D.length - (RowKit.intOf i).toNat)
      case atStart => exact ⟨0, by omega, rfl, HG1.out⟩
      case round =>
        obtain ⟨m2, hm2, rfl, hg⟩ := hrel
        by_cases hl2 : m2 < D.length
        · obtain ⟨q2, hq2⟩ : ∃ q, D[m2]? = some q := ⟨D[m2], List.getElem?_eq_getElem hl2⟩
          have HQ2 : Hid _ := hq2
          have hI2 : (m2 : Int) < (D.length : Int) := by omega
          obtain ⟨u1, u2, hp⟩ := HW.out.pair HQ1.out hq2
          clear hq2
          generalize hz : lx q1.enc q2.enc = z at hp
          have HZ : Hid _ := hz
          clear hz
          obtain ⟨k1, a1, b1, s1⟩ := q1
          obtain ⟨k2, a2, b2, s2⟩ := q2
          simp only at hp
          have HS : Hid _ := hp.s
          have H12 : Hid (∀ W, G w2 W → Calls Tryd.prog 7 #[V k1 a1 b1 s1, V k2 a2 b2 s2] W fun e w' => e = .returned (.int .i64 z) ∧ G W w') := hp.c12
          have H21 : Hid (∀ W, G w2 W → Calls Tryd.prog 7 #[V k2 a2 b2 s2, V k1 a1 b1 s1] W fun e w' => e = .returned (.int .i64 (-z)) ∧ G W w') := hp.c21
          have HL : Hid (∀ W, G w2 W → Calls Tryd.prog 8 #[u1, u2] W fun e w' => e = .returned (.int .i64 z) ∧ G W w') := hp.l
          have HB : Hid (z ≠ 0 → ∀ W, G w2 W → Calls Tryd.prog 9 #[u1, u2] W fun e w' => e = .returned (.bool false) ∧ G W w') := hp.bg
          have hq := hp.q
          have hzz := hp.z
          clear hp
          have heq : ∀ w, (binOp .eql 30 (V k1 a1 b1 s1) (V k2 a2 b2 s2)).run Tryd.prog w = .ok (.bool (z == 0)) w := fun w => by rw [eqV, hq]
          have hwz : IntKind.i64.wrap (-z) = -z := by rcases hzz with rfl | rfl | rfl <;> rfl
          have hzl : -1 ≤ z := by omega
          have hzu : z ≤ 1 := by omega
          have HZZ : Hid _ := hzz
          clear hzz
          go_wp2_with fail
          go_region_held3 (fun W => (W.cell? ⟨b, off + m1 * 4, none⟩ = some (I k1) ∧ W.cell? ⟨b, off + m1 * 4 + 1, none⟩ = some (I a1) ∧ W.cell? ⟨b, off + m1 * 4 + 2, none⟩ = some (I b1) ∧ W.cell? ⟨b, off + m1 * 4 + 3, none⟩ = some (.string s1)) ∧ (W.cell? ⟨b, off + m2 * 4, none⟩ = some (I k2) ∧ W.cell? ⟨b, off + m2 * 4 + 1, none⟩ = some (I a2) ∧ W.cell? ⟨b, off + m2 * 4 + 2, none⟩ = some (I b2) ∧ W.cell? ⟨b, off + m2 * 4 + 3, none⟩ = some (.string s2)) ∧ W.cell? ⟨gy, m1, none⟩ = some u1 ∧ W.cell? ⟨gy, m2, none⟩ = some u2) ((first | exact HS.out _ hgc | exact HS.out _ hgb | exact HS.out _ (G.drew hg))) (first | (go_at_call 7; with_reducible refine (H12.out _ ?_).mono ?_; (exact G.drew hg); rintro e w10 ⟨rfl, hb⟩; have hgb := G.trans (G.drew hg) hb; clear hb) | fail)
          clear hg
          have hg := hgb
          clear hgb H12
          go_wp2_with fail
          go_cut [81] from 28 to 126 (fun v W => v = .bool false ∧ G w2 W)
          case first =>
            clear HB HQ1 HQ2 HZ HZZ HW
            go_region_held3 (fun W => (W.cell? ⟨b, off + m1 * 4, none⟩ = some (I k1) ∧ W.cell? ⟨b, off + m1 * 4 + 1, none⟩ = some (I a1) ∧ W.cell? ⟨b, off + m1 * 4 + 2, none⟩ = some (I b1) ∧ W.cell? ⟨b, off + m1 * 4 + 3, none⟩ = some (.string s1)) ∧ (W.cell? ⟨b, off + m2 * 4, none⟩ = some (I k2) ∧ W.cell? ⟨b, off + m2 * 4 + 1, none⟩ = some (I a2) ∧ W.cell? ⟨b, off + m2 * 4 + 2, none⟩ = some (I b2) ∧ W.cell? ⟨b, off + m2 * 4 + 3, none⟩ = some (.string s2)) ∧ W.cell? ⟨gy, m1, none⟩ = some u1 ∧ W.cell? ⟨gy, m2, none⟩ = some u2) ((first | exact HS.out _ hgc | exact HS.out _ hgb | exact HS.out _ (G.drew hg))) (first | (go_at_call 8; with_reducible refine (HL.out _ ?_).mono ?_; (exact G.drew hg); rintro e w11 ⟨rfl, hb⟩; have hgb := G.trans (G.drew hg) hb; clear hb) | (go_at_call 7; with_reducible refine (H21.out _ ?_).mono ?_; (exact hgb); rintro e w12 ⟨rfl, hb⟩; have hgc := G.trans (hgb) hb; clear hb) | fail)
            go_wp2_with fail
            go_meet
            case rel => exact ⟨rfl, hgc⟩
          case rest =>
            obtain ⟨rfl, hg'⟩ := hcut
            clear hg
            have hg := hg'
            clear hg' H21 HL
            go_wp2_with fail
            go_cut [94] from 28 to 126 (fun v W => v = .bool false ∧ G w2 W)
            case first =>
              clear HQ1 HQ2 HW
              rcases HZZ.out with rfl | rfl | rfl
              · have HBG := HB.out (by decide)
                have HB1 : Hid _ := HBG
                clear HBG HB HZ HZZ
                go_region_held3 (fun W => (W.cell? ⟨b, off + m1 * 4, none⟩ = some (I k1) ∧ W.cell? ⟨b, off + m1 * 4 + 1, none⟩ = some (I a1) ∧ W.cell? ⟨b, off + m1 * 4 + 2, none⟩ = some (I b1) ∧ W.cell? ⟨b, off + m1 * 4 + 3, none⟩ = some (.string s1)) ∧ (W.cell? ⟨b, off + m2 * 4, none⟩ = some (I k2) ∧ W.cell? ⟨b, off + m2 * 4 + 1, none⟩ = some (I a2) ∧ W.cell? ⟨b, off + m2 * 4 + 2, none⟩ = some (I b2) ∧ W.cell? ⟨b, off + m2 * 4 + 3, none⟩ = some (.string s2)) ∧ W.cell? ⟨gy, m1, none⟩ = some u1 ∧ W.cell? ⟨gy, m2, none⟩ = some u2) ((first | exact HS.out _ hgc | exact HS.out _ hgb | exact HS.out _ (G.drew hg))) (first | (go_at_call 9; with_reducible refine (HB1.out _ ?_).mono ?_; (exact G.drew hg); rintro e w13 ⟨rfl, hb⟩; have hgb := G.trans (G.drew hg) hb; clear hb) | fail)
                go_wp2_with fail
                go_meet
                case rel => exact ⟨rfl, hgb⟩
              · have HBG := HB.out (by decide)
                have HB1 : Hid _ := HBG
                clear HBG HB HZ HZZ
                go_region_held3 (fun W => (W.cell? ⟨b, off + m1 * 4, none⟩ = some (I k1) ∧ W.cell? ⟨b, off + m1 * 4 + 1, none⟩ = some (I a1) ∧ W.cell? ⟨b, off + m1 * 4 + 2, none⟩ = some (I b1) ∧ W.cell? ⟨b, off + m1 * 4 + 3, none⟩ = some (.string s1)) ∧ (W.cell? ⟨b, off + m2 * 4, none⟩ = some (I k2) ∧ W.cell? ⟨b, off + m2 * 4 + 1, none⟩ = some (I a2) ∧ W.cell? ⟨b, off + m2 * 4 + 2, none⟩ = some (I b2) ∧ W.cell? ⟨b, off + m2 * 4 + 3, none⟩ = some (.string s2)) ∧ W.cell? ⟨gy, m1, none⟩ = some u1 ∧ W.cell? ⟨gy, m2, none⟩ = some u2) ((first | exact HS.out _ hgc | exact HS.out _ hgb | exact HS.out _ (G.drew hg))) (first | (go_at_call 9; with_reducible refine (HB1.out _ ?_).mono ?_; (exact G.drew hg); rintro e w13 ⟨rfl, hb⟩; have hgb := G.trans (G.drew hg) hb; clear hb) | fail)
                go_wp2_with fail
                go_meet
                case rel => exact ⟨rfl, hgb⟩
              · clear HB HZ HZZ
                go_quiet (fail)
                go_wp2_with fail
                go_meet
                case rel => exact ⟨rfl, by repeat (first | exact hg | refine G.drewNE ?_ _ | refine G.drew ?_)⟩
            case rest =>
              obtain ⟨rfl, hg'⟩ := hcut
              clear hg
              have HG2 : Hid _ := hg'
              clear hg' HB HS hq hwz heq
              go_wp2
              go_loopw [11] (fun i W => ∃ m3 : Nat, m3 ≤ D.length ∧ i = .int .i64 m3 ∧ G w2 W) (fun i _ => D.length - (RowKit.intOf i).toNat)
              case atStart => exact ⟨0, by omega, rfl, HG2.out⟩
              case round =>
                obtain ⟨m3, hm3, rfl, hg⟩ := hrel
                by_cases hl3 : m3 < D.length
                · obtain ⟨q3, hq3⟩ : ∃ q, D[m3]? = some q := ⟨D[m3], List.getElem?_eq_getElem hl3⟩
                  have hI3 : (m3 : Int) < (D.length : Int) := by omega
                  obtain ⟨u3, u4, hp23⟩ := HW.out.pair HQ2.out hq3
                  obtain ⟨u5, u6, hp13⟩ := HW.out.pair HQ1.out hq3
                  have htr := lx_trans (Qd.enc (k1, a1, b1, s1)) (Qd.enc (k2, a2, b2, s2)) q3.enc
                  rw [HZ.out] at htr
                  generalize lx (Qd.enc (k2, a2, b2, s2)) q3.enc = z2 at hp23 htr
                  generalize lx (Qd.enc (k1, a1, b1, s1)) q3.enc = z3 at hp13 htr
                  obtain ⟨k3, a3, b3, s3⟩ := q3
                  simp only at hp23 hp13
                  have HS3 : Hid (∀ W, G w2 W → (fun W => (W.cell? ⟨b, off + m1 * 4, none⟩ = some (I k1) ∧ W.cell? ⟨b, off + m1 * 4 + 1, none⟩ = some (I a1) ∧ W.cell? ⟨b, off + m1 * 4 + 2, none⟩ = some (I b1) ∧ W.cell? ⟨b, off + m1 * 4 + 3, none⟩ = some (.string s1)) ∧ (W.cell? ⟨b, off + m2 * 4, none⟩ = some (I k2) ∧ W.cell? ⟨b, off + m2 * 4 + 1, none⟩ = some (I a2) ∧ W.cell? ⟨b, off + m2 * 4 + 2, none⟩ = some (I b2) ∧ W.cell? ⟨b, off + m2 * 4 + 3, none⟩ = some (.string s2)) ∧ (W.cell? ⟨b, off + m3 * 4, none⟩ = some (I k3) ∧ W.cell? ⟨b, off + m3 * 4 + 1, none⟩ = some (I a3) ∧ W.cell? ⟨b, off + m3 * 4 + 2, none⟩ = some (I b3) ∧ W.cell? ⟨b, off + m3 * 4 + 3, none⟩ = some (.string s3))) W) := fun W g => ⟨(hp13.s W g).1, (hp23.s W g).1, (hp23.s W g).2.1⟩
                  have H23 : Hid (∀ W, G w2 W → Calls Tryd.prog 7 #[V k2 a2 b2 s2, V k3 a3 b3 s3] W fun e w' => e = .returned (.int .i64 z2) ∧ G W w') := hp23.c12
                  have H13 : Hid (∀ W, G w2 W → Calls Tryd.prog 7 #[V k1 a1 b1 s1, V k3 a3 b3 s3] W fun e w' => e = .returned (.int .i64 z3) ∧ G W w') := hp13.c12
                  have hz2 := hp23.z
                  clear hp23 hp13 hq3
                  go_wp2_with fail
                  go_cut [126] from 95 to 126 (fun v W => v = .bool false ∧ G w2 W)
                  case first =>
                    clear HQ1 HQ2 HW HZ HZZ
                    by_cases c1 : z ≤ 0
                    · by_cases c2 : z2 ≤ 0
                      · have c3 := htr c1 c2
                        have c4 : ¬ 0 < z3 := by omega
                        have c5 : decide (0 < z3) = false := by simpa using c4
                        have HC5 : Hid (Value.bool (decide (0 < z3)) = .bool false) := by unfold Hid; rw [c5]
                        clear htr hz2
                        go_region_held3 (fun W => (W.cell? ⟨b, off + m1 * 4, none⟩ = some (I k1) ∧ W.cell? ⟨b, off + m1 * 4 + 1, none⟩ = some (I a1) ∧ W.cell? ⟨b, off + m1 * 4 + 2, none⟩ = some (I b1) ∧ W.cell? ⟨b, off + m1 * 4 + 3, none⟩ = some (.string s1)) ∧ (W.cell? ⟨b, off + m2 * 4, none⟩ = some (I k2) ∧ W.cell? ⟨b, off + m2 * 4 + 1, none⟩ = some (I a2) ∧ W.cell? ⟨b, off + m2 * 4 + 2, none⟩ = some (I b2) ∧ W.cell? ⟨b, off + m2 * 4 + 3, none⟩ = some (.string s2)) ∧ (W.cell? ⟨b, off + m3 * 4, none⟩ = some (I k3) ∧ W.cell? ⟨b, off + m3 * 4 + 1, none⟩ = some (I a3) ∧ W.cell? ⟨b, off + m3 * 4 + 2, none⟩ = some (I b3) ∧ W.cell? ⟨b, off + m3 * 4 + 3, none⟩ = some (.string s3))) ((first | exact HS3.out _ hgc | exact HS3.out _ hgb | exact HS3.out _ (G.drew hg))) (first | (go_at_call 7; with_reducible refine (H23.out _ ?_).mono ?_; (exact G.drew hg); rintro e w14 ⟨rfl, hb⟩; have hgb := G.trans (G.drew hg) hb; clear hb) | (go_at_call 7; with_reducible refine (H13.out _ ?_).mono ?_; (exact hgb); rintro e w15 ⟨rfl, hb⟩; have hgc := G.trans (hgb) hb; clear hb) | fail)
                        go_wp2_with fail
                        go_meet
                        case rel => exact ⟨by first | rfl | exact HC5.out, hgc⟩
                      · clear htr
                        obtain rfl : z2 = 1 := by omega
                        refine wp_region_noPanic ?_
                        refine wp_region_held_drew (S := (fun W => (W.cell? ⟨b, off + m1 * 4, none⟩ = some (I k1) ∧ W.cell? ⟨b, off + m1 * 4 + 1, none⟩ = some (I a1) ∧ W.cell? ⟨b, off + m1 * 4 + 2, none⟩ = some (I b1) ∧ W.cell? ⟨b, off + m1 * 4 + 3, none⟩ = some (.string s1)) ∧ (W.cell? ⟨b, off + m2 * 4, none⟩ = some (I k2) ∧ W.cell? ⟨b, off + m2 * 4 + 1, none⟩ = some (I a2) ∧ W.cell? ⟨b, off + m2 * 4 + 2, none⟩ = some (I b2) ∧ W.cell? ⟨b, off + m2 * 4 + 3, none⟩ = some (.string s2)) ∧ (W.cell? ⟨b, off + m3 * 4, none⟩ = some (I k3) ∧ W.cell? ⟨b, off + m3 * 4 + 1, none⟩ = some (I a3) ∧ W.cell? ⟨b, off + m3 * 4 + 2, none⟩ = some (I b3) ∧ W.cell? ⟨b, off + m3 * 4 + 3, none⟩ = some (.string s3)))) (by kernel_rfl) (HS3.out _ (G.drew hg)) (fun hHeld => ?_)
                        refine wpAnyH_take (i := 0) (v := ?_) rfl (by kernel_rfl) (by kernel_rfl) (by kernel_rfl) (fun _ _ _ h => h) (Or.inl ⟨by rfl, ?_⟩) hHeld ?_
                        rotate_left 1
                        · (intro w hSw; (try dsimp only at hSw); go_simp; try with_reducible rfl)
                        try simp only [Act.put, List.getElem_toArray, List.getElem_cons_zero, List.setIfInBounds_toArray, List.set_cons_zero, List.set_cons_succ]
                        refine wpAnyH_take (i := 1) (v := ?_) rfl (by kernel_rfl) (by kernel_rfl) (by kernel_rfl) (fun _ _ _ h => h) (Or.inl ⟨by rfl, ?_⟩) hHeld ?_
                        rotate_left 1
                        · (intro w hSw; (try dsimp only at hSw); go_simp; try with_reducible rfl)
                        try simp only [Act.put, List.getElem_toArray, List.getElem_cons_zero, List.getElem_cons_succ, List.setIfInBounds_toArray, List.set_cons_zero, List.set_cons_succ]
                        refine wpAnyH_take (i := 2) (v := ?_) rfl (by kernel_rfl) (by kernel_rfl) (by kernel_rfl) (fun _ _ _ h => h) (Or.inl ⟨by rfl, ?_⟩) hHeld ?_
                        rotate_left 1
                        · (intro w hSw; (try dsimp only at hSw); go_simp; try with_reducible rfl)
                        try simp only [Act.put, List.getElem_toArray, List.getElem_cons_zero, List.getElem_cons_succ, List.setIfInBounds_toArray, List.set_cons_zero, List.set_cons_succ]
                        refine wpAnyH_take (i := 3) (v := ?_) rfl (by kernel_rfl) (by kernel_rfl) (by kernel_rfl) (fun _ _ _ h => h) (Or.inl ⟨by rfl, ?_⟩) hHeld ?_
                        rotate_left 1
                        · (intro w hSw; (try dsimp only at hSw); go_simp; try with_reducible rfl)
                        try simp only [Act.put, List.getElem_toArray, List.getElem_cons_zero, List.getElem_cons_succ, List.setIfInBounds_toArray, List.set_cons_zero, List.set_cons_succ]
                        refine wpAnyH_take (i := 4) (v := ?_) rfl (by kernel_rfl) (by kernel_rfl) (by kernel_rfl) (fun _ _ _ h => h) (Or.inl ⟨by rfl, ?_⟩) hHeld ?_
                        rotate_left 1
                        · (intro w hSw; (try dsimp only at hSw); go_simp; try with_reducible rfl)
                        try simp only [Act.put, List.getElem_toArray, List.getElem_cons_zero, List.getElem_cons_succ, List.setIfInBounds_toArray, List.set_cons_zero, List.set_cons_succ]
                        refine wpAnyH_take (i := 5) (v := ?_) rfl (by kernel_rfl) (by kernel_rfl) (by kernel_rfl) (fun _ _ _ h => h) (Or.inl ⟨by rfl, ?_⟩) hHeld ?_
                        rotate_left 1
                        · (intro w hSw; (try dsimp only at hSw); go_simp; try with_reducible rfl)
                        try simp only [Act.put, List.getElem_toArray, List.getElem_cons_zero, List.getElem_cons_succ, List.setIfInBounds_toArray, List.set_cons_zero, List.set_cons_succ]
                        refine wpAnyH_take (i := 6) (v := ?_) rfl (by kernel_rfl) (by kernel_rfl) (by kernel_rfl) (fun _ _ _ h => h) (Or.inl ⟨by rfl, ?_⟩) hHeld ?_
                        rotate_left 1
                        · (intro w hSw; (try dsimp only at hSw); go_simp; try with_reducible rfl)
                        try simp only [Act.put, List.getElem_toArray, List.getElem_cons_zero, List.getElem_cons_succ, List.setIfInBounds_toArray, List.set_cons_zero, List.set_cons_succ]
                        refine wpAnyH_take (i := 7) (v := ?_) rfl (by kernel_rfl) (by kernel_rfl) (by kernel_rfl) (fun _ _ _ h => h) (Or.inl ⟨by rfl, ?_⟩) hHeld ?_
                        rotate_left 1
                        · (intro w hSw; (try dsimp only at hSw); go_simp; try with_reducible rfl)
                        try simp only [Act.put, List.getElem_toArray, List.getElem_cons_zero, List.getElem_cons_succ, List.setIfInBounds_toArray, List.set_cons_zero, List.set_cons_succ]
                        refine wpAnyH_take (i := 8) (v := ?_) rfl (by kernel_rfl) (by kernel_rfl) (by kernel_rfl) (fun _ _ _ h => h) (Or.inl ⟨by rfl, ?_⟩) hHeld ?_
                        rotate_left 1
                        · (intro w hSw; (try dsimp only at hSw); go_simp; try with_reducible rfl)
                        try simp only [Act.put, List.getElem_toArray, List.getElem_cons_zero, List.getElem_cons_succ, List.setIfInBounds_toArray, List.set_cons_zero, List.set_cons_succ]
                        refine wpAnyH_take (i := 9) (v := ?_) rfl (by kernel_rfl) (by kernel_rfl) (by kernel_rfl) (fun _ _ _ h => h) (Or.inl ⟨by rfl, ?_⟩) hHeld ?_
                        rotate_left 1
                        · (intro w hSw; (try dsimp only at hSw); go_simp; try with_reducible rfl)
                        try simp only [Act.put, List.getElem_toArray, List.getElem_cons_zero, List.getElem_cons_succ, List.setIfInBounds_toArray, List.set_cons_zero, List.set_cons_succ]
                        refine wpAnyH_take (i := 10) (v := ?_) rfl (by kernel_rfl) (by kernel_rfl) (by kernel_rfl) (fun _ _ _ h => h) (Or.inl ⟨by rfl, ?_⟩) hHeld ?_
                        rotate_left 1
                        · (intro w hSw; (try dsimp only at hSw); go_simp; try with_reducible rfl)
                        try simp only [Act.put, List.getElem_toArray, List.getElem_cons_zero, List.getElem_cons_succ, List.setIfInBounds_toArray, List.set_cons_zero, List.set_cons_succ]
                        refine wpAnyH_ready (rs := [11]) (by kernel_rfl) (by simp) (AllReadyH.cons rfl (fun K hK => ?_) AllReadyH.nil)
                        clear hHeld
                        go_simp
                        with_reducible refine (H23.out _ ?_).mono ?_; (exact G.drew hg); rintro e w10 ⟨rfl, hb⟩; have hgb := G.trans (G.drew hg) hb; clear hb
                        go_wp2_with fail
                        refine hK.out _ _ (HS3.out _ hgb) (fun hHeld => ?_)
                        clear hK K
                        try simp only [Act.put, List.getElem_toArray, List.getElem_cons_zero, List.getElem_cons_succ, List.setIfInBounds_toArray, List.set_cons_zero, List.set_cons_succ]
                        refine wpAnyH_take (i := 12) (v := ?_) rfl (by kernel_rfl) (by kernel_rfl) (by kernel_rfl) (fun _ _ _ h => h) (Or.inl ⟨by rfl, ?_⟩) hHeld ?_
                        rotate_left 1
                        · (intro w hSw; (try dsimp only at hSw); go_simp; try with_reducible rfl)
                        try simp only [Act.put, List.getElem_toArray, List.getElem_cons_zero, List.getElem_cons_succ, List.setIfInBounds_toArray, List.set_cons_zero, List.set_cons_succ]
                        refine wpAnyH_take (i := 13) (v := ?_) rfl (by kernel_rfl) (by kernel_rfl) (by kernel_rfl) (fun _ _ _ h => h) (Or.inl ⟨by rfl, ?_⟩) hHeld ?_
                        rotate_left 1
                        · (intro w hSw; (try dsimp only at hSw); go_simp; try with_reducible rfl)
                        try simp only [Act.put, List.getElem_toArray, List.getElem_cons_zero, List.getElem_cons_succ, List.setIfInBounds_toArray, List.set_cons_zero, List.set_cons_succ]
                        refine wpAnyH_take (i := 14) (v := ?_) rfl (by kernel_rfl) (by kernel_rfl) (by kernel_rfl) (fun _ _ _ h => h) (Or.inl ⟨by rfl, ?_⟩) hHeld ?_
                        rotate_left 1
                        · (intro w hSw; (try dsimp only at hSw); go_simp; try with_reducible rfl)
                        try simp only [Act.put, List.getElem_toArray, List.getElem_cons_zero, List.getElem_cons_succ, List.setIfInBounds_toArray, List.set_cons_zero, List.set_cons_succ]
                        refine wpAnyH_take (i := 15) (v := undef) rfl (by kernel_rfl) (by kernel_rfl) (by kernel_rfl) (fun _ _ _ h => h) (Or.inr ⟨by rfl, rfl⟩) hHeld ?_
                        try simp only [Act.put, List.getElem_toArray, List.getElem_cons_zero, List.getElem_cons_succ, List.setIfInBounds_toArray, List.set_cons_zero, List.set_cons_succ]
                        refine wpAnyH_take (i := 16) (v := undef) rfl (by kernel_rfl) (by kernel_rfl) (by kernel_rfl) (fun _ _ _ h => h) (Or.inr ⟨by rfl, rfl⟩) hHeld ?_
                        try simp only [Act.put, List.getElem_toArray, List.getElem_cons_zero, List.getElem_cons_succ, List.setIfInBounds_toArray, List.set_cons_zero, List.set_cons_succ]
                        refine wpAnyH_take (i := 17) (v := undef) rfl (by kernel_rfl) (by kernel_rfl) (by kernel_rfl) (fun _ _ _ h => h) (Or.inr ⟨by rfl, rfl⟩) hHeld ?_
                        try simp only [Act.put, List.getElem_toArray, List.getElem_cons_zero, List.getElem_cons_succ, List.setIfInBounds_toArray, List.set_cons_zero, List.set_cons_succ]
                        refine wpAnyH_take (i := 18) (v := undef) rfl (by kernel_rfl) (by kernel_rfl) (by kernel_rfl) (fun _ _ _ h => h) (Or.inr ⟨by rfl, rfl⟩) hHeld ?_
                        try simp only [Act.put, List.getElem_toArray, List.getElem_cons_zero, List.getElem_cons_succ, List.setIfInBounds_toArray, List.set_cons_zero, List.set_cons_succ]
                        refine wpAnyH_take (i := 19) (v := undef) rfl (by kernel_rfl) (by kernel_rfl) (by kernel_rfl) (fun _ _ _ h => h) (Or.inr ⟨by rfl, rfl⟩) hHeld ?_
                        try simp only [Act.put, List.getElem_toArray, List.getElem_cons_zero, List.getElem_cons_succ, List.setIfInBounds_toArray, List.set_cons_zero, List.set_cons_succ]
                        refine wpAnyH_take (i := 20) (v := undef) rfl (by kernel_rfl) (by kernel_rfl) (by kernel_rfl) (fun _ _ _ h => h) (Or.inr ⟨by rfl, rfl⟩) hHeld ?_
                        try simp only [Act.put, List.getElem_toArray, List.getElem_cons_zero, List.getElem_cons_succ, List.setIfInBounds_toArray, List.set_cons_zero, List.set_cons_succ]
                        refine wpAnyH_take (i := 21) (v := undef) rfl (by kernel_rfl) (by kernel_rfl) (by kernel_rfl) (fun _ _ _ h => h) (Or.inr ⟨by rfl, rfl⟩) hHeld ?_
                        try simp only [Act.put, List.getElem_toArray, List.getElem_cons_zero, List.getElem_cons_succ, List.setIfInBounds_toArray, List.set_cons_zero, List.set_cons_succ]
                        refine wpAnyH_take (i := 22) (v := undef) rfl (by kernel_rfl) (by kernel_rfl) (by kernel_rfl) (fun _ _ _ h => h) (Or.inr ⟨by rfl, rfl⟩) hHeld ?_
                        try simp only [Act.put, List.getElem_toArray, List.getElem_cons_zero, List.getElem_cons_succ, List.setIfInBounds_toArray, List.set_cons_zero, List.set_cons_succ]
                        refine wpAnyH_take (i := 23) (v := undef) rfl (by kernel_rfl) (by kernel_rfl) (by kernel_rfl) (fun _ _ _ h => h) (Or.inr ⟨by rfl, rfl⟩) hHeld ?_
                        try simp only [Act.put, List.getElem_toArray, List.getElem_cons_zero, List.getElem_cons_succ, List.setIfInBounds_toArray, List.set_cons_zero, List.set_cons_succ]
                        refine wpAnyH_take (i := 24) (v := undef) rfl (by kernel_rfl) (by kernel_rfl) (by kernel_rfl) (fun _ _ _ h => h) (Or.inr ⟨by rfl, rfl⟩) hHeld ?_
                        try simp only [Act.put, List.getElem_toArray, List.getElem_cons_zero, List.getElem_cons_succ, List.setIfInBounds_toArray, List.set_cons_zero, List.set_cons_succ]
                        refine wpAnyH_take (i := 25) (v := ?_) rfl (by kernel_rfl) (by kernel_rfl) (by kernel_rfl) (fun _ _ _ h => h) (Or.inl ⟨by rfl, ?_⟩) hHeld ?_
                        rotate_left 1
                        · (intro w hSw; (try dsimp only at hSw); go_simp; try with_reducible rfl)
                        try simp only [Act.put, List.getElem_toArray, List.getElem_cons_zero, List.getElem_cons_succ, List.setIfInBounds_toArray, List.set_cons_zero, List.set_cons_succ]
                        refine wpAnyH_done (by kernel_rfl) ?_ _
                        refine NoPanic.normal ?_
                        go_wp2_with fail
                        go_meet
                        case rel => exact ⟨rfl, hgb⟩
                    · clear htr
                      go_quiet (fail)
                      go_wp2_with fail
                      go_meet
                      case rel => exact ⟨rfl, by repeat (first | exact hg | refine G.drewNE ?_ _ | refine G.drew ?_)⟩
                  case rest =>
                    obtain ⟨rfl, hg'⟩ := hcut
                    clear hg
                    have HG3 : Hid _ := hg'
                    clear hg'
                    go_wp2
                    go_roundw
                    case rel => exact ⟨m3 + 1, by omega, by go_num, HG3.out⟩
                    case measure => simp [RowKit.intOf]; omega
                · have hI3 : ¬ (m3 : Int) < (D.length : Int) := by omega
                  have HG3 : Hid _ := hg
                  clear hg
                  go_wp2
                  go_roundw
                  case rel => exact ⟨m2 + 1, by omega, by go_num, HG3.out⟩
                  case measure => simp [RowKit.intOf]; omega
        · have hI2 : ¬ (m2 : Int) < (D.length : Int) := by omega
          have HG2 : Hid _ := hg
          clear hg
          go_wp2
          go_roundw
          case rel => exact ⟨m1 + 1, by omega, by go_num, HG2.out⟩
          case measure => simp [RowKit.intOf]; omega
    · have hI1 : ¬ (m1 : Int) < (D.length : Int) := by omega
      have HGX : Hid _ := hg
      clear hg
      go_wp2
      go_ret
      exact ⟨rfl, HG.out.trans HGX.out⟩
end Go.Proofs.YtdiikofgilplkaaDoor
