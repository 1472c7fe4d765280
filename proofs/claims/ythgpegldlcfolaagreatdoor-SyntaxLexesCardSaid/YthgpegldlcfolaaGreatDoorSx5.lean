/- Tokens: the document's names. -/
import Derived.Test.YthgpegldlcfolaaGreatDoorSx3
import Derived.BigQuiet
import Derived.Deep.QuietTactic
namespace Go.Proofs.YthgpegldlcfolaaGreatDoor
section
open Go.RowKit

theorem wr1 (i : Nat) (h : i < 4611686018427387904) : IntKind.i64.wrap ((i : Int) + 1) = ((i + 1 : Nat) : Int) := by
  rw [IntKind.wrap_i64]; omega
theorem rat_x (u : ByteArray) (i : Nat) (x : Int) (hx : x = (i : Int)) (w : World) : Calls Tryz.prog 22 #[.string u, .int .i64 x] w fun e w' => e = .returned (.int .u8 ((bAt u.data.toList i).toNat : Int)) ∧ w' = w := by
  rw [hx]; exact rat_any u i w
theorem G.six {a w : World} (g : G a w) (v0 v1 v2 v3 v4 v5 : Value) : G a ((((((w.setCell ⟨a.heap.size, 0, none⟩ v0).setCell ⟨a.heap.size, 1, none⟩ v1).setCell ⟨a.heap.size, 2, none⟩ v2).setCell ⟨a.heap.size, 3, none⟩ v3).setCell ⟨a.heap.size, 4, none⟩ v4).setCell ⟨a.heap.size, 5, none⟩ v5) :=
  (((((g.setCell (Nat.le_refl _) _).setCell (Nat.le_refl _) _).setCell (Nat.le_refl _) _).setCell (Nat.le_refl _) _).setCell (Nat.le_refl _) _).setCell (Nat.le_refl _) _
/-- A Cut, as the document's cut tells it. -/
def cutV (i : Nat) : TkV → Value
  | .bad c o => .agg #[I 0, .string E0, I 0, I 0, I c, I ((i + o : Nat) : Int)]
  | .tok k t m => .agg #[I k, .string t, I i, I m, I 0, I 0]
theorem m1_at (k : Nat) (h : k < 18) : ∃ x, m1L[k]? = some x := ⟨_, List.getElem?_eq_getElem (show k < m1L.length from h)⟩
theorem mk1_L (c : UInt8) : mk1 c = m1L.any fun (x : Nat) => x == c.toNat := rfl
theorem m1_yes {c : UInt8} {k x : Nat} (h : m1L[k]? = some x) (e : x = c.toNat) : mk1 c = true := by
  rw [mk1_L, List.any_eq_true]
  exact ⟨x, List.mem_of_getElem? h, by simp [e]⟩
theorem m1_no {c : UInt8} (h : ∀ j x : Nat, j < 18 → m1L[j]? = some x → x ≠ c.toNat) : mk1 c = false := by
  rw [mk1_L, List.any_eq_false]
  intro x hx
  obtain ⟨j, hj⟩ := List.getElem?_of_mem hx
  have hl := (List.getElem?_eq_some_iff.1 hj).1
  have := h j x hl hj
  simpa using this
theorem m1_lt {k x : Nat} (h : m1L[k]? = some x) : x < 256 := by
  have hm := List.mem_of_getElem? h
  have : ∀ y ∈ m1L, y < 256 := by decide
  exact this x hm
/-- Is it a mark of two bytes? d: the byte behind the first, 0 where there is none. -/
theorem mk2_at {l : List UInt8} {i : Nat} {c : UInt8} (h : l[i]? = some c) : mk2 (l.drop i) = decide ((c.toNat = 46 ∧ (bAt l (i + 1)).toNat = 46) ∨ (c.toNat = 60 ∧ ((bAt l (i + 1)).toNat = 62 ∨ (bAt l (i + 1)).toNat = 61)) ∨ (c.toNat = 62 ∧ (bAt l (i + 1)).toNat = 61)) := by
  rw [drop_at h]
  cases hd : l[i + 1]? with
  | none =>
    rw [bAt_none (List.getElem?_eq_none_iff.1 hd), List.drop_of_length_le (List.getElem?_eq_none_iff.1 hd)]
    simp [mk2]
  | some d =>
    rw [bAt_some hd, drop_at hd]
    rfl
set_option maxRecDepth 100000 in
set_option maxHeartbeats 1000000 in
theorem mk_any (u : ByteArray) (hs : u.size ≤ 4611686018427387904) (i : Nat) (hi : i < u.size) (w : World) (hE : Lxe w) : Calls Tryz.prog 28 #[.string u, .int .i64 i] w fun e w' => e = .returned (cutV i (mkT u[i] (u.data.toList.drop i))) ∧ G w w' := by
  have HGT := xh (x_get u i hi)
  have hiI : (i : Int) < (u.size : Int) := by omega
  have hwr := wr1 i (by omega)
  have hll := x_len u
  have hm2 := mk2_at HGT.out
  have HAT := xh (rat_x u (i + 1) ((i : Int) + 1) (by omega))
  have H2L : Hid (mk2 (u.data.toList.drop i) = true → i + 2 ≤ u.size) := fun h => by
    have := mk2_len h
    rw [List.length_drop, hll] at this
    omega
  have HTB : Hid (∀ W, G (w.alloc (.cells #[I 0, .string E0, I 0, I 0, I 0, I 0] 36)) W → ∀ k x : Nat, m1L[k]? = some x → W.cell? ⟨1, k, none⟩ = some (.int .u8 (x : Int))) := fun W g k x hx => by
    rw [tab_cell (by kernel_rfl) (hE.G (((G.refl w).alloc _).trans g)).rm k]; simp [hx]
  have HGB : Hid (G w (w.alloc (.cells #[I 0, .string E0, I 0, I 0, I 0, I 0] 36))) := (G.refl w).alloc _
  have HCR : Hid (∀ W, G (w.alloc (.cells #[I 0, .string E0, I 0, I 0, I 0, I 0] 36)) W → ∀ o, W.cell? ⟨w.heap.size, o, none⟩ = [I 0, .string E0, I 0, I 0, I 0, I 0][o]?) := fun W g => G.cells g (fun o => by simp) (by simp)
  have HFR : Hid (∀ W, G (w.alloc (.cells #[I 0, .string E0, I 0, I 0, I 0, I 0] 36)) W → ∀ o, W.frozen? ⟨w.heap.size, o, none⟩ = false) := fun W g => G.frozens g (fun o => by simp) (by simp)
  clear hE
  generalize hd : (bAt u.data.toList (i + 1)).toNat = d at hm2
  have hdI : ((bAt u.data.toList (i + 1)).toNat : Int) = (d : Int) := by rw [hd]
  rw [hdI] at HAT
  clear hd hdI
  by_cases c46 : u[i].toNat = 46
  · by_cases d46 : d = 46
    · have HM2 : Hid (mk2 (u.data.toList.drop i) = true) := by unfold Hid; rw [hm2]; simp; try omega
      have HCE : Hid (u[i].toNat = 46) := by unfold Hid; omega
      have hi2 : (i : Int) + 2 ≤ (u.size : Int) := by have := H2L.out (by rw [HM2.out]); omega
      have k1 : (u[i].toNat : Int) = 46 := by omega
      have k2 : (d : Int) = 46 := by omega
      clear hm2
      go_enter Tryz.func28, Tryz.ntmps28
      go_wp2_with fail
      generalize w.alloc (.cells #[I 0, .string E0, I 0, I 0, I 0, I 0] 36) = wb at HTB HGB HCR HFR ⊢
      go_quiet (first | (go_at_call 22; with_reducible refine Calls.quiet_of_same (HAT.out _)))
      generalize hwq : World.drewN wb _ = wq
      have hgq : G wb wq := by rw [← hwq]; exact G.drewM (G.refl wb) _
      clear hwq
      have HTQ := xh (HTB.out wq hgq)
      have hcr := HCR.out wq hgq
      have hfr := HFR.out wq hgq
      have HGQ := xh (HGB.out.trans hgq)
      clear HTB HCR HFR HGB hgq HAT
      go_wp2_with fail
      go_loopw [8] (fun p W => ∃ k : Nat, k ≤ 18 ∧ p = .int .i64 (k : Int) ∧ (∀ j x : Nat, j < k → m1L[j]? = some x → x ≠ 46) ∧ W = wq) (fun p _ => 18 - (RowKit.intOf p).toNat)
      case atStart => exact ⟨0, by omega, rfl, fun j _ h => absurd h (Nat.not_lt_zero j), rfl⟩
      case round =>
        obtain ⟨k, hk, rfl, hno, rfl⟩ := hrel
        have HNO := xh hno
        clear hno
        by_cases hlt : k < 18
        · have hltI : (k : Int) < 18 := by omega
          obtain ⟨x, hx⟩ := m1_at k hlt
          have hc1 := HTQ.out k x hx
          have HX := xh hx
          clear hx
          by_cases hb : x = 46
          · have HB := xh (m1_yes HX.out (hb.trans HCE.out.symm))
            have hbI : (x : Int) = (46 : Int) := by omega
            rw [hbI] at hc1
            clear hb hbI HX
            go_wp2
            refine bodyPost_ret (v := .agg #[I 6, .string (u.extract i (i + 2)), I i, I 2, I 0, I 0]) (by simp [results, Tryz.results28, go_sem, hcr]) rfl ⟨?_, G.six HGQ.out _ _ _ _ _ _⟩
            unfold mkT
            rw [HB.out, HM2.out, sU_ext]
            rfl
          · have hb2 : ((x : Int) == (46 : Int)) = false := beq_false_of_ne (by omega)
            go_wp2
            go_roundw
            case rel => exact ⟨k + 1, by omega, by go_num, fun j y hj hy => (Nat.lt_succ_iff_lt_or_eq.1 hj).elim (fun h => HNO.out j y h hy) (fun h => by subst h; rw [HX.out] at hy; cases hy; exact hb), by first | trivial | rfl⟩
            case measure => simp [RowKit.intOf]; omega
        · obtain rfl : k = 18 := by omega
          have HB : Hid (mk1 u[i] = false) := m1_no (fun j x h1 h2 h3 => HNO.out j x h1 h2 (h3.trans HCE.out))
          go_wp2
          refine bodyPost_ret (v := .agg #[I 0, .string E0, I 0, I 0, I 100, I i]) (by simp [results, Tryz.results28, go_sem, hcr]) rfl ⟨?_, G.six HGQ.out _ _ _ _ _ _⟩
          unfold mkT
          rw [HB.out]
          rfl
    · have HM2 : Hid (mk2 (u.data.toList.drop i) = false) := by unfold Hid; rw [hm2]; simp; try omega
      have HCE : Hid (u[i].toNat = 46) := by unfold Hid; omega
      have k1 : (u[i].toNat : Int) = 46 := by omega
      have k2 : ((d : Int) == 46) = false := beq_false_of_ne (by omega)
      clear hm2
      go_enter Tryz.func28, Tryz.ntmps28
      go_wp2_with fail
      generalize w.alloc (.cells #[I 0, .string E0, I 0, I 0, I 0, I 0] 36) = wb at HTB HGB HCR HFR ⊢
      go_quiet (first | (go_at_call 22; with_reducible refine Calls.quiet_of_same (HAT.out _)))
      generalize hwq : World.drewN wb _ = wq
      have hgq : G wb wq := by rw [← hwq]; exact G.drewM (G.refl wb) _
      clear hwq
      have HTQ := xh (HTB.out wq hgq)
      have hcr := HCR.out wq hgq
      have hfr := HFR.out wq hgq
      have HGQ := xh (HGB.out.trans hgq)
      clear HTB HCR HFR HGB hgq HAT
      go_wp2_with fail
      go_loopw [8] (fun p W => ∃ k : Nat, k ≤ 18 ∧ p = .int .i64 (k : Int) ∧ (∀ j x : Nat, j < k → m1L[j]? = some x → x ≠ 46) ∧ W = wq) (fun p _ => 18 - (RowKit.intOf p).toNat)
      case atStart => exact ⟨0, by omega, rfl, fun j _ h => absurd h (Nat.not_lt_zero j), rfl⟩
      case round =>
        obtain ⟨k, hk, rfl, hno, rfl⟩ := hrel
        have HNO := xh hno
        clear hno
        by_cases hlt : k < 18
        · have hltI : (k : Int) < 18 := by omega
          obtain ⟨x, hx⟩ := m1_at k hlt
          have hc1 := HTQ.out k x hx
          have HX := xh hx
          clear hx
          by_cases hb : x = 46
          · have HB := xh (m1_yes HX.out (hb.trans HCE.out.symm))
            have hbI : (x : Int) = (46 : Int) := by omega
            rw [hbI] at hc1
            clear hb hbI HX
            go_wp2
            refine bodyPost_ret (v := .agg #[I 6, .string (u.extract i (i + 1)), I i, I 1, I 0, I 0]) (by simp [results, Tryz.results28, go_sem, hcr]) rfl ⟨?_, G.six HGQ.out _ _ _ _ _ _⟩
            unfold mkT
            rw [HB.out, HM2.out, sU_ext]
            rfl
          · have hb2 : ((x : Int) == (46 : Int)) = false := beq_false_of_ne (by omega)
            go_wp2
            go_roundw
            case rel => exact ⟨k + 1, by omega, by go_num, fun j y hj hy => (Nat.lt_succ_iff_lt_or_eq.1 hj).elim (fun h => HNO.out j y h hy) (fun h => by subst h; rw [HX.out] at hy; cases hy; exact hb), by first | trivial | rfl⟩
            case measure => simp [RowKit.intOf]; omega
        · obtain rfl : k = 18 := by omega
          have HB : Hid (mk1 u[i] = false) := m1_no (fun j x h1 h2 h3 => HNO.out j x h1 h2 (h3.trans HCE.out))
          go_wp2
          refine bodyPost_ret (v := .agg #[I 0, .string E0, I 0, I 0, I 100, I i]) (by simp [results, Tryz.results28, go_sem, hcr]) rfl ⟨?_, G.six HGQ.out _ _ _ _ _ _⟩
          unfold mkT
          rw [HB.out]
          rfl
  · by_cases c60 : u[i].toNat = 60
    · by_cases d62 : d = 62
      · have HM2 : Hid (mk2 (u.data.toList.drop i) = true) := by unfold Hid; rw [hm2]; simp; try omega
        have HCE : Hid (u[i].toNat = 60) := by unfold Hid; omega
        have hi2 : (i : Int) + 2 ≤ (u.size : Int) := by have := H2L.out (by rw [HM2.out]); omega
        have k1 : (u[i].toNat : Int) = 60 := by omega
        have k2 : (d : Int) = 62 := by omega
        clear hm2
        go_enter Tryz.func28, Tryz.ntmps28
        go_wp2_with fail
        generalize w.alloc (.cells #[I 0, .string E0, I 0, I 0, I 0, I 0] 36) = wb at HTB HGB HCR HFR ⊢
        go_quiet (first | (go_at_call 22; with_reducible refine Calls.quiet_of_same (HAT.out _)))
        generalize hwq : World.drewN wb _ = wq
        have hgq : G wb wq := by rw [← hwq]; exact G.drewM (G.refl wb) _
        clear hwq
        have HTQ := xh (HTB.out wq hgq)
        have hcr := HCR.out wq hgq
        have hfr := HFR.out wq hgq
        have HGQ := xh (HGB.out.trans hgq)
        clear HTB HCR HFR HGB hgq HAT
        go_wp2_with fail
        go_loopw [8] (fun p W => ∃ k : Nat, k ≤ 18 ∧ p = .int .i64 (k : Int) ∧ (∀ j x : Nat, j < k → m1L[j]? = some x → x ≠ 60) ∧ W = wq) (fun p _ => 18 - (RowKit.intOf p).toNat)
        case atStart => exact ⟨0, by omega, rfl, fun j _ h => absurd h (Nat.not_lt_zero j), rfl⟩
        case round =>
          obtain ⟨k, hk, rfl, hno, rfl⟩ := hrel
          have HNO := xh hno
          clear hno
          by_cases hlt : k < 18
          · have hltI : (k : Int) < 18 := by omega
            obtain ⟨x, hx⟩ := m1_at k hlt
            have hc1 := HTQ.out k x hx
            have HX := xh hx
            clear hx
            by_cases hb : x = 60
            · have HB := xh (m1_yes HX.out (hb.trans HCE.out.symm))
              have hbI : (x : Int) = (60 : Int) := by omega
              rw [hbI] at hc1
              clear hb hbI HX
              go_wp2
              refine bodyPost_ret (v := .agg #[I 6, .string (u.extract i (i + 2)), I i, I 2, I 0, I 0]) (by simp [results, Tryz.results28, go_sem, hcr]) rfl ⟨?_, G.six HGQ.out _ _ _ _ _ _⟩
              unfold mkT
              rw [HB.out, HM2.out, sU_ext]
              rfl
            · have hb2 : ((x : Int) == (60 : Int)) = false := beq_false_of_ne (by omega)
              go_wp2
              go_roundw
              case rel => exact ⟨k + 1, by omega, by go_num, fun j y hj hy => (Nat.lt_succ_iff_lt_or_eq.1 hj).elim (fun h => HNO.out j y h hy) (fun h => by subst h; rw [HX.out] at hy; cases hy; exact hb), by first | trivial | rfl⟩
              case measure => simp [RowKit.intOf]; omega
          · obtain rfl : k = 18 := by omega
            have HB : Hid (mk1 u[i] = false) := m1_no (fun j x h1 h2 h3 => HNO.out j x h1 h2 (h3.trans HCE.out))
            go_wp2
            refine bodyPost_ret (v := .agg #[I 0, .string E0, I 0, I 0, I 100, I i]) (by simp [results, Tryz.results28, go_sem, hcr]) rfl ⟨?_, G.six HGQ.out _ _ _ _ _ _⟩
            unfold mkT
            rw [HB.out]
            rfl
      · by_cases d61 : d = 61
        · have HM2 : Hid (mk2 (u.data.toList.drop i) = true) := by unfold Hid; rw [hm2]; simp; try omega
          have HCE : Hid (u[i].toNat = 60) := by unfold Hid; omega
          have hi2 : (i : Int) + 2 ≤ (u.size : Int) := by have := H2L.out (by rw [HM2.out]); omega
          have k1 : (u[i].toNat : Int) = 60 := by omega
          have k2 : (d : Int) = 61 := by omega
          clear hm2
          go_enter Tryz.func28, Tryz.ntmps28
          go_wp2_with fail
          generalize w.alloc (.cells #[I 0, .string E0, I 0, I 0, I 0, I 0] 36) = wb at HTB HGB HCR HFR ⊢
          go_quiet (first | (go_at_call 22; with_reducible refine Calls.quiet_of_same (HAT.out _)))
          generalize hwq : World.drewN wb _ = wq
          have hgq : G wb wq := by rw [← hwq]; exact G.drewM (G.refl wb) _
          clear hwq
          have HTQ := xh (HTB.out wq hgq)
          have hcr := HCR.out wq hgq
          have hfr := HFR.out wq hgq
          have HGQ := xh (HGB.out.trans hgq)
          clear HTB HCR HFR HGB hgq HAT
          go_wp2_with fail
          go_loopw [8] (fun p W => ∃ k : Nat, k ≤ 18 ∧ p = .int .i64 (k : Int) ∧ (∀ j x : Nat, j < k → m1L[j]? = some x → x ≠ 60) ∧ W = wq) (fun p _ => 18 - (RowKit.intOf p).toNat)
          case atStart => exact ⟨0, by omega, rfl, fun j _ h => absurd h (Nat.not_lt_zero j), rfl⟩
          case round =>
            obtain ⟨k, hk, rfl, hno, rfl⟩ := hrel
            have HNO := xh hno
            clear hno
            by_cases hlt : k < 18
            · have hltI : (k : Int) < 18 := by omega
              obtain ⟨x, hx⟩ := m1_at k hlt
              have hc1 := HTQ.out k x hx
              have HX := xh hx
              clear hx
              by_cases hb : x = 60
              · have HB := xh (m1_yes HX.out (hb.trans HCE.out.symm))
                have hbI : (x : Int) = (60 : Int) := by omega
                rw [hbI] at hc1
                clear hb hbI HX
                go_wp2
                refine bodyPost_ret (v := .agg #[I 6, .string (u.extract i (i + 2)), I i, I 2, I 0, I 0]) (by simp [results, Tryz.results28, go_sem, hcr]) rfl ⟨?_, G.six HGQ.out _ _ _ _ _ _⟩
                unfold mkT
                rw [HB.out, HM2.out, sU_ext]
                rfl
              · have hb2 : ((x : Int) == (60 : Int)) = false := beq_false_of_ne (by omega)
                go_wp2
                go_roundw
                case rel => exact ⟨k + 1, by omega, by go_num, fun j y hj hy => (Nat.lt_succ_iff_lt_or_eq.1 hj).elim (fun h => HNO.out j y h hy) (fun h => by subst h; rw [HX.out] at hy; cases hy; exact hb), by first | trivial | rfl⟩
                case measure => simp [RowKit.intOf]; omega
            · obtain rfl : k = 18 := by omega
              have HB : Hid (mk1 u[i] = false) := m1_no (fun j x h1 h2 h3 => HNO.out j x h1 h2 (h3.trans HCE.out))
              go_wp2
              refine bodyPost_ret (v := .agg #[I 0, .string E0, I 0, I 0, I 100, I i]) (by simp [results, Tryz.results28, go_sem, hcr]) rfl ⟨?_, G.six HGQ.out _ _ _ _ _ _⟩
              unfold mkT
              rw [HB.out]
              rfl
        · have HM2 : Hid (mk2 (u.data.toList.drop i) = false) := by unfold Hid; rw [hm2]; simp; try omega
          have HCE : Hid (u[i].toNat = 60) := by unfold Hid; omega
          have k1 : (u[i].toNat : Int) = 60 := by omega
          have k2 : ((d : Int) == 62) = false := beq_false_of_ne (by omega)
          have k3 : ((d : Int) == 61) = false := beq_false_of_ne (by omega)
          clear hm2
          go_enter Tryz.func28, Tryz.ntmps28
          go_wp2_with fail
          generalize w.alloc (.cells #[I 0, .string E0, I 0, I 0, I 0, I 0] 36) = wb at HTB HGB HCR HFR ⊢
          go_quiet (first | (go_at_call 22; with_reducible refine Calls.quiet_of_same (HAT.out _)))
          generalize hwq : World.drewN wb _ = wq
          have hgq : G wb wq := by rw [← hwq]; exact G.drewM (G.refl wb) _
          clear hwq
          have HTQ := xh (HTB.out wq hgq)
          have hcr := HCR.out wq hgq
          have hfr := HFR.out wq hgq
          have HGQ := xh (HGB.out.trans hgq)
          clear HTB HCR HFR HGB hgq HAT
          go_wp2_with fail
          go_loopw [8] (fun p W => ∃ k : Nat, k ≤ 18 ∧ p = .int .i64 (k : Int) ∧ (∀ j x : Nat, j < k → m1L[j]? = some x → x ≠ 60) ∧ W = wq) (fun p _ => 18 - (RowKit.intOf p).toNat)
          case atStart => exact ⟨0, by omega, rfl, fun j _ h => absurd h (Nat.not_lt_zero j), rfl⟩
          case round =>
            obtain ⟨k, hk, rfl, hno, rfl⟩ := hrel
            have HNO := xh hno
            clear hno
            by_cases hlt : k < 18
            · have hltI : (k : Int) < 18 := by omega
              obtain ⟨x, hx⟩ := m1_at k hlt
              have hc1 := HTQ.out k x hx
              have HX := xh hx
              clear hx
              by_cases hb : x = 60
              · have HB := xh (m1_yes HX.out (hb.trans HCE.out.symm))
                have hbI : (x : Int) = (60 : Int) := by omega
                rw [hbI] at hc1
                clear hb hbI HX
                go_wp2
                refine bodyPost_ret (v := .agg #[I 6, .string (u.extract i (i + 1)), I i, I 1, I 0, I 0]) (by simp [results, Tryz.results28, go_sem, hcr]) rfl ⟨?_, G.six HGQ.out _ _ _ _ _ _⟩
                unfold mkT
                rw [HB.out, HM2.out, sU_ext]
                rfl
              · have hb2 : ((x : Int) == (60 : Int)) = false := beq_false_of_ne (by omega)
                go_wp2
                go_roundw
                case rel => exact ⟨k + 1, by omega, by go_num, fun j y hj hy => (Nat.lt_succ_iff_lt_or_eq.1 hj).elim (fun h => HNO.out j y h hy) (fun h => by subst h; rw [HX.out] at hy; cases hy; exact hb), by first | trivial | rfl⟩
                case measure => simp [RowKit.intOf]; omega
            · obtain rfl : k = 18 := by omega
              have HB : Hid (mk1 u[i] = false) := m1_no (fun j x h1 h2 h3 => HNO.out j x h1 h2 (h3.trans HCE.out))
              go_wp2
              refine bodyPost_ret (v := .agg #[I 0, .string E0, I 0, I 0, I 100, I i]) (by simp [results, Tryz.results28, go_sem, hcr]) rfl ⟨?_, G.six HGQ.out _ _ _ _ _ _⟩
              unfold mkT
              rw [HB.out]
              rfl
    · by_cases c62 : u[i].toNat = 62
      · by_cases d61 : d = 61
        · have HM2 : Hid (mk2 (u.data.toList.drop i) = true) := by unfold Hid; rw [hm2]; simp; try omega
          have HCE : Hid (u[i].toNat = 62) := by unfold Hid; omega
          have hi2 : (i : Int) + 2 ≤ (u.size : Int) := by have := H2L.out (by rw [HM2.out]); omega
          have k1 : (u[i].toNat : Int) = 62 := by omega
          have k2 : (d : Int) = 61 := by omega
          clear hm2
          go_enter Tryz.func28, Tryz.ntmps28
          go_wp2_with fail
          generalize w.alloc (.cells #[I 0, .string E0, I 0, I 0, I 0, I 0] 36) = wb at HTB HGB HCR HFR ⊢
          go_quiet (first | (go_at_call 22; with_reducible refine Calls.quiet_of_same (HAT.out _)))
          generalize hwq : World.drewN wb _ = wq
          have hgq : G wb wq := by rw [← hwq]; exact G.drewM (G.refl wb) _
          clear hwq
          have HTQ := xh (HTB.out wq hgq)
          have hcr := HCR.out wq hgq
          have hfr := HFR.out wq hgq
          have HGQ := xh (HGB.out.trans hgq)
          clear HTB HCR HFR HGB hgq HAT
          go_wp2_with fail
          go_loopw [8] (fun p W => ∃ k : Nat, k ≤ 18 ∧ p = .int .i64 (k : Int) ∧ (∀ j x : Nat, j < k → m1L[j]? = some x → x ≠ 62) ∧ W = wq) (fun p _ => 18 - (RowKit.intOf p).toNat)
          case atStart => exact ⟨0, by omega, rfl, fun j _ h => absurd h (Nat.not_lt_zero j), rfl⟩
          case round =>
            obtain ⟨k, hk, rfl, hno, rfl⟩ := hrel
            have HNO := xh hno
            clear hno
            by_cases hlt : k < 18
            · have hltI : (k : Int) < 18 := by omega
              obtain ⟨x, hx⟩ := m1_at k hlt
              have hc1 := HTQ.out k x hx
              have HX := xh hx
              clear hx
              by_cases hb : x = 62
              · have HB := xh (m1_yes HX.out (hb.trans HCE.out.symm))
                have hbI : (x : Int) = (62 : Int) := by omega
                rw [hbI] at hc1
                clear hb hbI HX
                go_wp2
                refine bodyPost_ret (v := .agg #[I 6, .string (u.extract i (i + 2)), I i, I 2, I 0, I 0]) (by simp [results, Tryz.results28, go_sem, hcr]) rfl ⟨?_, G.six HGQ.out _ _ _ _ _ _⟩
                unfold mkT
                rw [HB.out, HM2.out, sU_ext]
                rfl
              · have hb2 : ((x : Int) == (62 : Int)) = false := beq_false_of_ne (by omega)
                go_wp2
                go_roundw
                case rel => exact ⟨k + 1, by omega, by go_num, fun j y hj hy => (Nat.lt_succ_iff_lt_or_eq.1 hj).elim (fun h => HNO.out j y h hy) (fun h => by subst h; rw [HX.out] at hy; cases hy; exact hb), by first | trivial | rfl⟩
                case measure => simp [RowKit.intOf]; omega
            · obtain rfl : k = 18 := by omega
              have HB : Hid (mk1 u[i] = false) := m1_no (fun j x h1 h2 h3 => HNO.out j x h1 h2 (h3.trans HCE.out))
              go_wp2
              refine bodyPost_ret (v := .agg #[I 0, .string E0, I 0, I 0, I 100, I i]) (by simp [results, Tryz.results28, go_sem, hcr]) rfl ⟨?_, G.six HGQ.out _ _ _ _ _ _⟩
              unfold mkT
              rw [HB.out]
              rfl
        · have HM2 : Hid (mk2 (u.data.toList.drop i) = false) := by unfold Hid; rw [hm2]; simp; try omega
          have HCE : Hid (u[i].toNat = 62) := by unfold Hid; omega
          have k1 : (u[i].toNat : Int) = 62 := by omega
          have k2 : ((d : Int) == 61) = false := beq_false_of_ne (by omega)
          clear hm2
          go_enter Tryz.func28, Tryz.ntmps28
          go_wp2_with fail
          generalize w.alloc (.cells #[I 0, .string E0, I 0, I 0, I 0, I 0] 36) = wb at HTB HGB HCR HFR ⊢
          go_quiet (first | (go_at_call 22; with_reducible refine Calls.quiet_of_same (HAT.out _)))
          generalize hwq : World.drewN wb _ = wq
          have hgq : G wb wq := by rw [← hwq]; exact G.drewM (G.refl wb) _
          clear hwq
          have HTQ := xh (HTB.out wq hgq)
          have hcr := HCR.out wq hgq
          have hfr := HFR.out wq hgq
          have HGQ := xh (HGB.out.trans hgq)
          clear HTB HCR HFR HGB hgq HAT
          go_wp2_with fail
          go_loopw [8] (fun p W => ∃ k : Nat, k ≤ 18 ∧ p = .int .i64 (k : Int) ∧ (∀ j x : Nat, j < k → m1L[j]? = some x → x ≠ 62) ∧ W = wq) (fun p _ => 18 - (RowKit.intOf p).toNat)
          case atStart => exact ⟨0, by omega, rfl, fun j _ h => absurd h (Nat.not_lt_zero j), rfl⟩
          case round =>
            obtain ⟨k, hk, rfl, hno, rfl⟩ := hrel
            have HNO := xh hno
            clear hno
            by_cases hlt : k < 18
            · have hltI : (k : Int) < 18 := by omega
              obtain ⟨x, hx⟩ := m1_at k hlt
              have hc1 := HTQ.out k x hx
              have HX := xh hx
              clear hx
              by_cases hb : x = 62
              · have HB := xh (m1_yes HX.out (hb.trans HCE.out.symm))
                have hbI : (x : Int) = (62 : Int) := by omega
                rw [hbI] at hc1
                clear hb hbI HX
                go_wp2
                refine bodyPost_ret (v := .agg #[I 6, .string (u.extract i (i + 1)), I i, I 1, I 0, I 0]) (by simp [results, Tryz.results28, go_sem, hcr]) rfl ⟨?_, G.six HGQ.out _ _ _ _ _ _⟩
                unfold mkT
                rw [HB.out, HM2.out, sU_ext]
                rfl
              · have hb2 : ((x : Int) == (62 : Int)) = false := beq_false_of_ne (by omega)
                go_wp2
                go_roundw
                case rel => exact ⟨k + 1, by omega, by go_num, fun j y hj hy => (Nat.lt_succ_iff_lt_or_eq.1 hj).elim (fun h => HNO.out j y h hy) (fun h => by subst h; rw [HX.out] at hy; cases hy; exact hb), by first | trivial | rfl⟩
                case measure => simp [RowKit.intOf]; omega
            · obtain rfl : k = 18 := by omega
              have HB : Hid (mk1 u[i] = false) := m1_no (fun j x h1 h2 h3 => HNO.out j x h1 h2 (h3.trans HCE.out))
              go_wp2
              refine bodyPost_ret (v := .agg #[I 0, .string E0, I 0, I 0, I 100, I i]) (by simp [results, Tryz.results28, go_sem, hcr]) rfl ⟨?_, G.six HGQ.out _ _ _ _ _ _⟩
              unfold mkT
              rw [HB.out]
              rfl
      · have HM2 : Hid (mk2 (u.data.toList.drop i) = false) := by unfold Hid; rw [hm2]; simp; try omega
        
        have k1 : ((u[i].toNat : Int) == 46) = false := beq_false_of_ne (by omega)
        have k2 : ((u[i].toNat : Int) == 60) = false := beq_false_of_ne (by omega)
        have k3 : ((u[i].toNat : Int) == 62) = false := beq_false_of_ne (by omega)
        clear hm2
        go_enter Tryz.func28, Tryz.ntmps28
        go_wp2_with fail
        generalize w.alloc (.cells #[I 0, .string E0, I 0, I 0, I 0, I 0] 36) = wb at HTB HGB HCR HFR ⊢
        go_quiet (first | (go_at_call 22; with_reducible refine Calls.quiet_of_same (HAT.out _)))
        generalize hwq : World.drewN wb _ = wq
        have hgq : G wb wq := by rw [← hwq]; exact G.drewM (G.refl wb) _
        clear hwq
        have HTQ := xh (HTB.out wq hgq)
        have hcr := HCR.out wq hgq
        have hfr := HFR.out wq hgq
        have HGQ := xh (HGB.out.trans hgq)
        clear HTB HCR HFR HGB hgq HAT
        go_wp2_with fail
        go_loopw [8] (fun p W => ∃ k : Nat, k ≤ 18 ∧ p = .int .i64 (k : Int) ∧ (∀ j x : Nat, j < k → m1L[j]? = some x → x ≠ u[i].toNat) ∧ W = wq) (fun p _ => 18 - (RowKit.intOf p).toNat)
        case atStart => exact ⟨0, by omega, rfl, fun j _ h => absurd h (Nat.not_lt_zero j), rfl⟩
        case round =>
          obtain ⟨k, hk, rfl, hno, rfl⟩ := hrel
          have HNO := xh hno
          clear hno
          by_cases hlt : k < 18
          · have hltI : (k : Int) < 18 := by omega
            obtain ⟨x, hx⟩ := m1_at k hlt
            have hc1 := HTQ.out k x hx
            have HX := xh hx
            clear hx
            by_cases hb : x = u[i].toNat
            · have HB := xh (m1_yes HX.out hb)
              have hbI : (x : Int) = (u[i].toNat : Int) := by omega
              rw [hbI] at hc1
              clear hb hbI HX
              go_wp2
              refine bodyPost_ret (v := .agg #[I 6, .string (u.extract i (i + 1)), I i, I 1, I 0, I 0]) (by simp [results, Tryz.results28, go_sem, hcr]) rfl ⟨?_, G.six HGQ.out _ _ _ _ _ _⟩
              unfold mkT
              rw [HB.out, HM2.out, sU_ext]
              rfl
            · have hb2 : ((x : Int) == (u[i].toNat : Int)) = false := beq_false_of_ne (by omega)
              go_wp2
              go_roundw
              case rel => exact ⟨k + 1, by omega, by go_num, fun j y hj hy => (Nat.lt_succ_iff_lt_or_eq.1 hj).elim (fun h => HNO.out j y h hy) (fun h => by subst h; rw [HX.out] at hy; cases hy; exact hb), by first | trivial | rfl⟩
              case measure => simp [RowKit.intOf]; omega
          · obtain rfl : k = 18 := by omega
            have HB : Hid (mk1 u[i] = false) := m1_no (fun j x h1 h2 h3 => HNO.out j x h1 h2 h3)
            go_wp2
            refine bodyPost_ret (v := .agg #[I 0, .string E0, I 0, I 0, I 100, I i]) (by simp [results, Tryz.results28, go_sem, hcr]) rfl ⟨?_, G.six HGQ.out _ _ _ _ _ _⟩
            unfold mkT
            rw [HB.out]
            rfl
end
open Go.RowKit

theorem xW_zero : xW 0 = false := by decide
theorem xD_zero : xD 0 = false := by decide
theorem xA_zero : xA 0 = false := by decide
theorem spn_bat {p : UInt8 → Bool} (h0 : p 0 = false) (l : List UInt8) (i : Nat) : p (bAt l (i + spn p (l.drop i))) = false := by
  cases hd : l[i + spn p (l.drop i)]? with
  | none => unfold bAt; rw [hd]; exact h0
  | some c =>
    rw [bAt_some hd]
    refine spn_end (p := p) (l.drop i) c ?_
    rw [List.getElem?_drop]
    exact hd
theorem spn_bat_lt {p : UInt8 → Bool} (l : List UInt8) (i k : Nat) (h : k < spn p (l.drop i)) : p (bAt l (i + k)) = true := by
  obtain ⟨c, h1, h2⟩ := spn_lt (p := p) (l.drop i) k h
  rw [List.getElem?_drop] at h1
  rw [bAt_some h1]
  exact h2
/-- The result's cell, while a call is under way. -/
structure Rz (w : World) (t : Nat) (W : World) : Prop where
  g : G w W
  c : ∀ o, W.cell? ⟨w.heap.size, o, none⟩ = [I 0, .string E0, I 0, I 0, I 0, I 0][o]?
  f : ∀ o, W.frozen? ⟨w.heap.size, o, none⟩ = false
  z : w.heap.size < W.heap.size
theorem Rz.new (w : World) (t : Nat) : Rz w t (w.alloc (.cells #[I 0, .string E0, I 0, I 0, I 0, I 0] t)) := ⟨(G.refl w).alloc _, fun o => by simp, fun o => by simp, by simp⟩
theorem Rz.G {w : World} {t : Nat} {W W' : World} (h : Rz w t W) (g : G W W') : Rz w t W' := ⟨h.g.trans g, G.cells g h.c h.z, G.frozens g h.f h.z, Nat.lt_of_lt_of_le h.z g.size⟩
set_option maxRecDepth 100000 in
set_option maxHeartbeats 1000000 in
theorem rrun_any (u : ByteArray) (hs : u.size ≤ 4611686018427387904) (i : Nat) (hi : i ≤ u.size) (w : World) (hE : Lxe w) : Calls Tryz.prog 24 #[.string u, .int .i64 i] w fun e w' => e = .returned (cutV i (nmT (u.data.toList.drop i))) ∧ G w w' := by
  have hll := x_len u
  obtain ⟨n, hn⟩ : ∃ n, n = spn xW (u.data.toList.drop i) := ⟨_, rfl⟩
  have hnl := spn_len (p := xW) (u.data.toList.drop i)
  rw [← hn, List.length_drop, hll] at hnl
  have HLT : Hid (∀ k, k < n → xW (bAt u.data.toList (i + k)) = true) := fun k hk => spn_bat_lt _ i k (by rw [← hn]; exact hk)
  have HEN : Hid (xW (bAt u.data.toList (i + n)) = false) := by rw [hn]; exact spn_bat xW_zero _ i
  have HN := xh hn
  have HE := xh hE
  have HRZ := xh (Rz.new w 36)
  clear hn hE
  go_enter Tryz.func24, Tryz.ntmps24
  go_wp2_with fail
  generalize w.alloc (.cells #[I 0, .string E0, I 0, I 0, I 0, I 0] 36) = wb at HRZ ⊢
  go_loopw [5] (fun p W => ∃ k : Nat, k ≤ n ∧ p = .int .i64 ((i + k : Nat) : Int) ∧ W = wb) (fun p _ => u.size - (RowKit.intOf p).toNat)
  case atStart => exact ⟨0, by omega, rfl, rfl⟩
  case round =>
    obtain ⟨k, hk, rfl, rfl⟩ := hrel
    obtain ⟨p, hp⟩ : ∃ p, p = i + k := ⟨_, rfl⟩
    have HP := xh hp
    rw [← hp]
    have HAT := xh (rat_any u p)
    by_cases hlt : k < n
    · have hW := HLT.out k hlt
      rw [← hp] at hW
      have hpl : p < u.size := by omega
      generalize bAt u.data.toList p = c at hW HAT
      have HLE := xh (rL c)
      have HDI := xh (rDg c)
      clear hp
      cases hA : xA c with
      | true =>
        rw [hA] at HLE
        go_wp2_with (first | (go_at_call 22; refine (HAT.out _).mono ?_; rintro e w1 ⟨rfl, rfl⟩) | (go_at_call 23; refine (HLE.out _).mono ?_; rintro e w1 ⟨rfl, rfl⟩) | (go_at_call 25; refine (HDI.out _).mono ?_; rintro e w1 ⟨rfl, rfl⟩) | fail)
        go_roundw
        case rel => exact ⟨k + 1, by omega, by rw [show i + (k + 1) = p + 1 from by rw [HP.out]; omega]; go_num, by first | trivial | rfl⟩
        case measure => simp [RowKit.intOf]; omega
      | false =>
        rw [hA] at HLE
        have hDD : xD c = true := by rw [xW, hA, Bool.false_or] at hW; exact hW
        rw [hDD] at HDI
        go_wp2_with (first | (go_at_call 22; refine (HAT.out _).mono ?_; rintro e w1 ⟨rfl, rfl⟩) | (go_at_call 23; refine (HLE.out _).mono ?_; rintro e w1 ⟨rfl, rfl⟩) | (go_at_call 25; refine (HDI.out _).mono ?_; rintro e w1 ⟨rfl, rfl⟩) | fail)
        go_roundw
        case rel => exact ⟨k + 1, by omega, by rw [show i + (k + 1) = p + 1 from by rw [HP.out]; omega]; go_num, by first | trivial | rfl⟩
        case measure => simp [RowKit.intOf]; omega
    · obtain rfl : n = k := by omega
      have hW := HEN.out
      rw [← hp] at hW
      have hpl : p ≤ u.size := by omega
      have hin : i ≤ p := by omega
      generalize bAt u.data.toList p = c at hW HAT
      rw [xW, Bool.or_eq_false_iff] at hW
      have HLE := xh (rL c)
      have HDI := xh (rDg c)
      rw [hW.1] at HLE
      rw [hW.2] at HDI
      clear hW HEN HLT hlt
      by_cases h8 : 8 < n
      · have h8I : (8 : Int) < (p : Int) - (i : Int) := by omega
        clear hp
        have HT : Hid (nmT (u.data.toList.drop i) = .bad 102 0) := by unfold Hid nmT; rw [← HN.out, if_pos h8]
        have hcr := HRZ.out.c
        have hfr := HRZ.out.f
        have HGC := xh HRZ.out.g
        clear h8
        go_wp2_with (first | (go_at_call 22; refine (HAT.out _).mono ?_; rintro e w1 ⟨rfl, rfl⟩) | (go_at_call 23; refine (HLE.out _).mono ?_; rintro e w1 ⟨rfl, rfl⟩) | (go_at_call 25; refine (HDI.out _).mono ?_; rintro e w1 ⟨rfl, rfl⟩) | fail)
        refine bodyPost_ret (v := .agg #[I 0, .string E0, I 0, I 0, I 102, I i]) (by simp [results, Tryz.results24, go_sem, hcr]) rfl ⟨?_, G.six HGC.out _ _ _ _ _ _⟩
        rw [HT.out]; rfl
      · have h8I : ¬ (8 : Int) < (p : Int) - (i : Int) := by omega
        clear hp
        have HEX := xh (x_ext u i n p HP.out)
        have hip : (i : Int) ≤ (p : Int) := by omega
        have hps : (p : Int) ≤ (u.size : Int) := by omega
        have HT : Hid (nmT (u.data.toList.drop i) = .tok (if wdB ((u.data.toList.drop i).take n) then 2 else 1) (sU ((u.data.toList.drop i).take n)) n) := by unfold Hid nmT; rw [← HN.out, if_neg h8]
        rw [← HEX.out] at HT
        have HPN : Hid ((p : Int) - (i : Int) = (n : Int)) := by have := HP.out; unfold Hid; omega
        have HLX := xh (HE.out.G (HRZ.out.g.trans ((G.refl _).alloc (.cells #[I 1, .string (u.extract i p), I i] 30))))
        have HW := xh (rw_any (u.extract i p) _ HLX.out)
        have hwd : wdB (u.extract i p).data.toList = wdB ((u.data.toList.drop i).take n) := by rw [HEX.out, sU_list]
        rw [hwd] at HW
        clear hwd HEX h8
        have HTK : Hid (∀ o, (wr.alloc (.cells #[I 1, .string (u.extract i p), I i] 30)).cell? ⟨wr.heap.size, o, none⟩ = [I 1, .string (u.extract i p), I i][o]?) := fun o => by simp
        have HTF : Hid (∀ o, (wr.alloc (.cells #[I 1, .string (u.extract i p), I i] 30)).frozen? ⟨wr.heap.size, o, none⟩ = false) := fun o => by simp
        have HRC := xh (HRZ.out.G ((G.refl _).alloc (.cells #[I 1, .string (u.extract i p), I i] 30)))
        have hz := HRZ.out.z
        have hzg := HRZ.out.g.size
        have hne1 : ¬ wr.heap.size = w.heap.size := by omega
        have hne2 : ¬ w.heap.size = wr.heap.size := by omega
        clear hz HLX
        generalize wdB ((u.data.toList.drop i).take n) = b at HT HW
        go_wp2_with (first | (go_at_call 22; refine (HAT.out _).mono ?_; rintro e w1 ⟨rfl, rfl⟩) | (go_at_call 23; refine (HLE.out _).mono ?_; rintro e w1 ⟨rfl, rfl⟩) | (go_at_call 25; refine (HDI.out _).mono ?_; rintro e w1 ⟨rfl, rfl⟩) | (go_at_call 37; refine Hid.out ?_) | fail)
        unfold Hid
        generalize u.extract i p = t at HT HW HTK HTF HRC ⊢
        generalize w1.alloc (.cells #[I 1, .string t, I i] 30) = wc at HW HTK HTF HRC ⊢
        refine HW.out.mono ?_
        rintro e wx ⟨rfl, rfl⟩
        have hct := HTK.out
        have hft := HTF.out
        have hcr := HRC.out.c
        have hfr := HRC.out.f
        have HGC := xh HRC.out.g
        clear HTK HTF HRC HW HRZ HE HAT HLE HDI
        cases b with
        | true =>
          go_wp2
          refine bodyPost_ret (v := .agg #[I 2, .string t, I i, I ((p : Int) - (i : Int)), I 0, I 0]) (by simp [results, Tryz.results24, go_sem, hcr]) rfl ⟨?_, G.six (HGC.out.setCell hzg _) _ _ _ _ _ _⟩
          rw [HT.out, HPN.out]; rfl
        | false =>
          go_wp2
          refine bodyPost_ret (v := .agg #[I 1, .string t, I i, I ((p : Int) - (i : Int)), I 0, I 0]) (by simp [results, Tryz.results24, go_sem, hcr]) rfl ⟨?_, G.six HGC.out _ _ _ _ _ _⟩
          rw [HT.out, HPN.out]; rfl
end Go.Proofs.YthgpegldlcfolaaGreatDoor
