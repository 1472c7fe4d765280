/- ValueBack: the law. -/
import Derived.Test.YtajeddpbmdkafaaGreatDoorBk11
import Derived.Test.YtajeddpbmdkafaaGreatDoorLst
import Derived.Lib.ItoaLen
namespace Go.Proofs.YtajeddpbmdkafaaGreatDoor
open Go.RowKit Go.Lib Go.Shelf

theorem ok_b {k a b : Int} {s : ByteArray} (h : okV k a b s = true) : R64 b := by
  rcases okV_kinds h with rfl | rfl | rfl | rfl | rfl | rfl | rfl
  · obtain ⟨_, rfl, _⟩ := ok_0 h; exact ⟨by decide, by decide⟩
  · obtain ⟨_, rfl, _⟩ := ok_1 h; exact ⟨by decide, by decide⟩
  · obtain ⟨rfl, _⟩ := ok_2 h; exact ⟨by decide, by decide⟩
  · obtain ⟨_, ⟨h1, h2⟩, _⟩ := ok_3 h; unfold R64; omega
  · obtain ⟨_, rfl, _⟩ := ok_4 h; exact ⟨by decide, by decide⟩
  · obtain ⟨rfl, _⟩ := ok_5' h; exact ⟨by decide, by decide⟩
  · obtain ⟨rfl, _⟩ := ok_6' h; exact ⟨by decide, by decide⟩
theorem esc1_len (c : UInt8) : (esc1 c).length ≤ 4 := by
  unfold esc1; repeat' split
  all_goals simp
theorem escS_len4 (l : List UInt8) : (escS l).length ≤ 4 * l.length := by
  induction l with
  | nil => simp [escS]
  | cons c l ih =>
    have h1 := esc1_len c
    have h2 : escS (c :: l) = esc1 c ++ escS l := by simp [escS]
    rw [h2, List.length_append, List.length_cons]; omega
theorem lit_len {k a b : Int} {s : ByteArray} (h : okV k a b s = true) (ha : R64 a) : (litV k a b s).length ≤ 4096 := by
  have hi : (itoa a).length ≤ 21 := itoa_length_le a ha.1 ha.2
  have hb := ok_b h
  have hj : (itoa b).length ≤ 21 := itoa_length_le b hb.1 hb.2
  rcases okV_kinds h with rfl | rfl | rfl | rfl | rfl | rfl | rfl
  · simp [litV]
  · by_cases c : a = 1 <;> simp [litV, c]
  · simp [litV]; omega
  · by_cases c : b < 0 <;> simp [litV, c] <;> omega
  · have h4 := (ok_4 h).2.2.1
    have h5 := escS_len4 s.data.toList
    have h6 : s.data.toList.length = s.size := by simp
    simp [litV]; omega
  · simp [litV]; omega
  · simp [litV]; omega
/-- What is known of one of the values: it prints as S, which reads back. -/
structure BQ (w2 : World) (k a b : Int) (s S : ByteArray) : Prop where
  p : ∀ W, G w2 W → Calls Tryz.prog 5 #[V k a b s] W fun e w' => e = .returned (.string S) ∧ G W w'
  c : ∀ W, G w2 W → Calls Tryz.prog 6 #[.string S] W fun e w' => e = .returned (.tuple #[V k a b s, .int .i64 0]) ∧ TG S.data.toList k a b s ∧ G W w'
  n : (S.toList == ([] : List UInt8)) = false
theorem bq_of {w2 : World} (hE : Env w2) {k a b : Int} {s : ByteArray} (h : okV k a b s = true) (ha : R64 a) : BQ w2 k a b s (strU (litV k a b s)) := by
  refine ⟨fun W g => print_yes k a b s h ha W (hE.G g), fun W g => ?_, ?_⟩
  · refine (scan_any _ ?_ W (hE.G g)).mono ?_
    · have := lit_len h ha
      have h2 : (strU (litV k a b s)).size = (litV k a b s).length := by simp [strU, ByteArray.size]
      omega
    · rintro e w' ⟨x, rfl, hx, hb⟩
      rcases hx with ⟨k', a', b', s', ok', ra', hl, ht, rfl⟩ | ⟨hn, _⟩
      · rw [strU_list] at ht hl
        obtain ⟨rfl, rfl, rfl, rfl⟩ := ht k a b s h ha (ok_b h) rfl
        exact ⟨rfl, by rw [strU_list]; exact ht, hb⟩
      · exact absurd (strU_list _) (hn k a b s h ha (ok_b h))
  · rw [data_list, strU_list]
    have := lit_ne h
    cases hl : litV k a b s with
    | nil => exact absurd hl this
    | cons c r => rfl
theorem okNull : okV 0 0 0 E0 = true := by simp [okV]
theorem hide' {p : Prop} (h : p) : Hid p := h
theorem str_eq {S S' : ByteArray} : (S.toList == S'.toList) = true ↔ S.data.toList = S'.data.toList := by
  rw [data_list, data_list]; simp
set_option maxRecDepth 100000 in
set_option maxHeartbeats 8000000 in
theorem back_any (v0 : Value) (t : ByteArray) (w : World) (hv : VsOk w v0) (ht : t.size ≤ 140737488351232) (hE : Env w) : Calls Tryz.prog 3 #[v0, .string t] w fun e w' => e = .returned (.bool true) ∧ G w w' := by
  have HVA : Hid (Calls Tryz.prog 4 #[v0] w (VdA w)) := valid_any v0 w hv
  have HE : Hid _ := hE
  have HTS : Hid _ := ht
  clear hv hE ht
  go_enter Tryz.func3, Tryz.ntmps3
  go_wp2_with fail
  refine HVA.out.mono ?_
  rintro e w1 ⟨x, D, rfl, hown, hG1, h12, hqD⟩
  have HQD : Hid _ := hqD
  have HGA : Hid (G w w1) := hG1
  have HE1 : Hid (Env w1) := HE.out.G hG1
  clear hqD hG1 HVA HE
  have hvr := own_vrow hown
  clear hown
  obtain ⟨p, cap, rfl, hp⟩ : ∃ (p : Option Addr) (cap : Nat), x = .slice p D.length cap ∧ (D.length = 0 ∨ ∃ b off, p = some ⟨b, off, none⟩ ∧ D.length ≤ cap ∧ VRow w1 (.slice (some ⟨b, off, none⟩) D.length cap) D) := by
    rcases hvr with ⟨rfl, rfl⟩ | ⟨b, off, cap, rfl, hcap, hcells⟩
    · exact ⟨none, 0, rfl, .inl rfl⟩
    · exact ⟨_, cap, rfl, .inr ⟨b, off, rfl, hcap, .inr ⟨b, off, cap, rfl, hcap, hcells⟩⟩⟩
  have HP : Hid _ := hp
  clear hvr hp
  go_wp2
  go_loopw [6] (fun i W => ∃ m : Nat, m ≤ D.length ∧ i = .int .i64 m ∧ G w1 W) (fun i _ => D.length - (RowKit.intOf i).toNat)
  case atStart => exact ⟨0, by omega, rfl, G.refl _⟩
  case round =>
    obtain ⟨m, hm, rfl, hg⟩ := hrel
    have HG : Hid (G w1 wr) := hg
    clear hg
    by_cases hlt : m < D.length
    · rcases HP.out with h0 | ⟨b, off, rfl, hcap, hV⟩
      · omega
      have hmI : (m : Int) < (D.length : Int) := by omega
      obtain ⟨q, hq⟩ : ∃ q, D[m]? = some q := ⟨D[m], List.getElem?_eq_getElem hlt⟩
      have HC : Hid (∀ W, G w1 W → W.cell? ⟨b, off + m * 4, none⟩ = some (I q.1) ∧ W.cell? ⟨b, off + m * 4 + 1, none⟩ = some (I q.2.1) ∧ W.cell? ⟨b, off + m * 4 + 2, none⟩ = some (I q.2.2.1) ∧ W.cell? ⟨b, off + m * 4 + 3, none⟩ = some (.string q.2.2.2)) := fun W g => vrow_at (VRow.G hV g) hq
      obtain ⟨qo, ok⟩ := HQD.out q (List.mem_of_getElem? hq)
      have HB : Hid (BQ w1 q.1 q.2.1 q.2.2.1 q.2.2.2 (strU (litV q.1 q.2.1 q.2.2.1 q.2.2.2))) := bq_of HE1.out ok qo.a
      have HZ : Hid (∀ q0 : Qd, q0.ok = true → QOk q0 → TG (strU (litV q.1 q.2.1 q.2.2.1 q.2.2.2)).data.toList q.1 q.2.1 q.2.2.1 q.2.2.2 → (strU (litV q0.1 q0.2.1 q0.2.2.1 q0.2.2.2)).data.toList = (strU (litV q.1 q.2.1 q.2.2.1 q.2.2.2)).data.toList → q0 = q) := by
        intro q0 h0 hq0 ht he
        obtain ⟨h1, h2, h3, h4⟩ := ht q0.1 q0.2.1 q0.2.2.1 q0.2.2.2 h0 hq0.a hq0.b (by rw [← he, strU_list])
        obtain ⟨x0, x1, x2, x3⟩ := q0
        obtain ⟨y0, y1, y2, y3⟩ := q
        simp only at h1 h2 h3 h4
        rw [h1, h2, h3, h4]
      generalize strU (litV q.1 q.2.1 q.2.2.1 q.2.2.2) = L at HB HZ
      obtain ⟨k1, a1, b1, s1⟩ := q
      simp only at HC HB HZ
      clear qo ok
      obtain ⟨h0, h1, h2, h3⟩ := HC.out wr HG.out
      go_wp2_with fail
      refine (HB.out.p _ HG.out).mono ?_
      rintro e w2 ⟨rfl, hb⟩
      have HG2 : Hid (G w1 w2) := HG.out.trans hb
      clear hb h0 h1 h2 h3
      go_wp2_with fail
      refine (HB.out.c _ HG2.out).mono ?_
      rintro e w3 ⟨rfl, htg, hb⟩
      have HTG : Hid _ := htg
      have HG3 : Hid (G w1 w3) := HG2.out.trans hb
      clear hb htg
      go_wp2_with fail
      have hv4 : ∀ o, (w3.alloc (.cells #[I k1, I a1, I b1, .string s1] 26)).cell? ⟨w3.heap.size, o, none⟩ = [I k1, I a1, I b1, .string s1][o]? := fun o => by simp
      have HG4 : Hid (G w1 (w3.alloc (.cells #[I k1, I a1, I b1, .string s1] 26))) := HG3.out.alloc _
      have HBN := HB.out.n
      generalize w3.alloc (.cells #[I k1, I a1, I b1, .string s1] 26) = w4 at hv4 HG4 ⊢
      obtain ⟨h0, h1, h2, h3⟩ := HC.out w4 HG4.out
      have hneq : ∀ w, (binOp .neq 26 (V k1 a1 b1 s1) (V k1 a1 b1 s1)).run Tryz.prog w = .ok (.bool false) w := fun w => by rw [neqV]; simp
      go_quiet (fail)
      clear hv4 h0 h1 h2 h3 hneq HBN
      have HG5 : Hid (G w1 (w4.drewN nq)) := by unfold Hid; exact ⟨HG4.out.os, HG4.out.tape, HG4.out.output, HG4.out.size, HG4.out.block⟩
      generalize w4.drewN nq = w5 at HG5 ⊢
      go_wp2_with fail
      obtain ⟨h0, h1, h2, h3⟩ := HC.out w5 HG5.out
      by_cases hm0 : m = 0
      · have hd0 : decide ((0 : Int) < (m : Int)) = false := by simp [hm0]
        go_quiet (fail)
        go_wp2
        go_roundw
        case rel => exact ⟨m + 1, by omega, by go_num, ⟨HG5.out.os, HG5.out.tape, HG5.out.output, HG5.out.size, HG5.out.block⟩⟩
        case measure => simp [RowKit.intOf]; omega
      · obtain ⟨m', hmm'⟩ : ∃ m', m = m' + 1 := ⟨m - 1, by omega⟩
        have hmm : (m : Int) - 1 = (m' : Int) := by omega
        have hpos : (0 : Int) < (m : Int) := by omega
        have hposN : decide (0 < m) = true := decide_eq_true (by omega)
        have hposM : 0 < m := by omega
        clear hm0
        have hm'I : (m' : Int) < (D.length : Int) := by omega
        obtain ⟨q0, hq0⟩ : ∃ q, D[m']? = some q := ⟨D[m'], List.getElem?_eq_getElem (by omega)⟩
        have HC0 : Hid (∀ W, G w1 W → W.cell? ⟨b, off + m' * 4, none⟩ = some (I q0.1) ∧ W.cell? ⟨b, off + m' * 4 + 1, none⟩ = some (I q0.2.1) ∧ W.cell? ⟨b, off + m' * 4 + 2, none⟩ = some (I q0.2.2.1) ∧ W.cell? ⟨b, off + m' * 4 + 3, none⟩ = some (.string q0.2.2.2)) := fun W g => vrow_at (VRow.G hV g) hq0
        obtain ⟨qo0, ok0⟩ := HQD.out q0 (List.mem_of_getElem? hq0)
        have HB0 : Hid (BQ w1 q0.1 q0.2.1 q0.2.2.1 q0.2.2.2 (strU (litV q0.1 q0.2.1 q0.2.2.1 q0.2.2.2))) := bq_of HE1.out ok0 qo0.a
        have HZ0 : Hid ((strU (litV q0.1 q0.2.1 q0.2.2.1 q0.2.2.2)).data.toList = L.data.toList → q0 = (k1, a1, b1, s1)) := fun he => HZ.out q0 ok0 qo0 HTG.out he
        generalize strU (litV q0.1 q0.2.1 q0.2.2.1 q0.2.2.2) = L0 at HB0 HZ0
        obtain ⟨k0, a0, b0, s0⟩ := q0
        simp only at HC0 HB0 HZ0
        clear qo0 ok0 hq0 hmm'
        obtain ⟨g0, g1, g2, g3⟩ := HC0.out w5 HG5.out
        by_cases he : ((k0 == k1) && (a0 == a1) && (b0 == b1) && (s0.toList == s1.toList)) = true
        · have hneq : ∀ w, (binOp .neq 26 (V k0 a0 b0 s0) (V k1 a1 b1 s1)).run Tryz.prog w = .ok (.bool false) w := fun w => by rw [neqV, he]; rfl
          clear he
          go_quiet (fail)
          go_wp2
          go_roundw
          case rel => exact ⟨m + 1, by omega, by go_num, ⟨HG5.out.os, HG5.out.tape, HG5.out.output, HG5.out.size, HG5.out.block⟩⟩
          case measure => simp [RowKit.intOf]; omega
        · have hneq : ∀ w, (binOp .neq 26 (V k0 a0 b0 s0) (V k1 a1 b1 s1)).run Tryz.prog w = .ok (.bool true) w := fun w => by
            rw [neqV]; cases hq : ((k0 == k1) && (a0 == a1) && (b0 == b1) && (s0.toList == s1.toList)) with
            | true => exact absurd hq he
            | false => rfl
          have hlne : (L0.toList == L.toList) = false := by
            cases hq : (L0.toList == L.toList) with
            | false => rfl
            | true =>
              have := HZ0.out (str_eq.1 hq)
              simp only [Prod.mk.injEq] at this
              obtain ⟨rfl, rfl, rfl, rfl⟩ := this
              simp at he
          clear he h0 h1 h2 h3 g0 g1 g2 g3
          have HP0 : Hid (∀ W, G w1 W → Calls Tryz.prog 5 #[V k0 a0 b0 s0] W fun e w' => e = .returned (.string L0) ∧ G W w') := HB0.out.p
          have HS : Hid (∀ W, G w1 W → (fun W => (W.cell? ⟨b, off + m' * 4, none⟩ = some (I k0) ∧ W.cell? ⟨b, off + m' * 4 + 1, none⟩ = some (I a0) ∧ W.cell? ⟨b, off + m' * 4 + 2, none⟩ = some (I b0) ∧ W.cell? ⟨b, off + m' * 4 + 3, none⟩ = some (.string s0)) ∧ (W.cell? ⟨b, off + m * 4, none⟩ = some (I k1) ∧ W.cell? ⟨b, off + m * 4 + 1, none⟩ = some (I a1) ∧ W.cell? ⟨b, off + m * 4 + 2, none⟩ = some (I b1) ∧ W.cell? ⟨b, off + m * 4 + 3, none⟩ = some (.string s1))) W) := fun W g => ⟨HC0.out W g, HC.out W g⟩
          have hg := HG5.out
          have hwm : IntKind.i64.wrap (m' : Int) = m' := by rw [IntKind.wrap_i64]; omega
          refine wp_region_noPanic ?_
          refine wp_region_held_drew (S := (fun W => (W.cell? ⟨b, off + m' * 4, none⟩ = some (I k0) ∧ W.cell? ⟨b, off + m' * 4 + 1, none⟩ = some (I a0) ∧ W.cell? ⟨b, off + m' * 4 + 2, none⟩ = some (I b0) ∧ W.cell? ⟨b, off + m' * 4 + 3, none⟩ = some (.string s0)) ∧ (W.cell? ⟨b, off + m * 4, none⟩ = some (I k1) ∧ W.cell? ⟨b, off + m * 4 + 1, none⟩ = some (I a1) ∧ W.cell? ⟨b, off + m * 4 + 2, none⟩ = some (I b1) ∧ W.cell? ⟨b, off + m * 4 + 3, none⟩ = some (.string s1)))) (by kernel_rfl) (HS.out _ (G.drew hg)) (fun hHeld => ?_)
          refine wpAnyH_take (i := 0) (v := ?_) rfl (by kernel_rfl) (by kernel_rfl) (by kernel_rfl) (fun _ _ _ h => h) (Or.inl ⟨by rfl, ?_⟩) hHeld ?_
          rotate_left 1
          · (intro w hSw; (try dsimp only at hSw); go_simp; try with_reducible rfl)
          try simp only [Act.put, List.getElem_toArray, List.getElem_cons_zero, List.setIfInBounds_toArray, List.set_cons_zero, List.set_cons_succ]
          refine wpAnyH_take (i := 1) (v := ?_) rfl (by kernel_rfl) (by kernel_rfl) (by kernel_rfl) (fun _ _ _ h => h) (Or.inl ⟨by rfl, ?_⟩) hHeld ?_
          rotate_left 1
          · (intro w hSw; (try dsimp only at hSw); go_simp; try with_reducible rfl)
          try simp only [Act.put, List.getElem_toArray, List.getElem_cons_zero, List.getElem_cons_succ, List.setIfInBounds_toArray, List.set_cons_zero, List.set_cons_succ]
          refine wpAnyH_take (i := 2) (v := ?_) rfl (by kernel_rfl) (by kernel_rfl) (by kernel_rfl) (fun _ _ _ h => h) (Or.inl ⟨by rfl, ?_⟩) hHeld ?_
          rotate_left 1
          · (intro w hSw; (try dsimp only at hSw); go_simp; try with_reducible rfl)
          try simp only [Act.put, List.getElem_toArray, List.getElem_cons_zero, List.getElem_cons_succ, List.setIfInBounds_toArray, List.set_cons_zero, List.set_cons_succ]
          refine wpAnyH_take (i := 3) (v := ?_) rfl (by kernel_rfl) (by kernel_rfl) (by kernel_rfl) (fun _ _ _ h => h) (Or.inl ⟨by rfl, ?_⟩) hHeld ?_
          rotate_left 1
          · (intro w hSw; (try dsimp only at hSw); go_simp; try with_reducible rfl)
          try simp only [Act.put, List.getElem_toArray, List.getElem_cons_zero, List.getElem_cons_succ, List.setIfInBounds_toArray, List.set_cons_zero, List.set_cons_succ]
          refine wpAnyH_take (i := 4) (v := ?_) rfl (by kernel_rfl) (by kernel_rfl) (by kernel_rfl) (fun _ _ _ h => h) (Or.inl ⟨by rfl, ?_⟩) hHeld ?_
          rotate_left 1
          · (intro w hSw; (try dsimp only at hSw); go_simp; try with_reducible rfl)
          try simp only [Act.put, List.getElem_toArray, List.getElem_cons_zero, List.getElem_cons_succ, List.setIfInBounds_toArray, List.set_cons_zero, List.set_cons_succ]
          refine wpAnyH_take (i := 5) (v := ?_) rfl (by kernel_rfl) (by kernel_rfl) (by kernel_rfl) (fun _ _ _ h => h) (Or.inl ⟨by rfl, ?_⟩) hHeld ?_
          rotate_left 1
          · (intro w hSw; (try dsimp only at hSw); go_simp; try with_reducible rfl)
          try simp only [Act.put, List.getElem_toArray, List.getElem_cons_zero, List.getElem_cons_succ, List.setIfInBounds_toArray, List.set_cons_zero, List.set_cons_succ]
          refine wpAnyH_take (i := 6) (v := ?_) rfl (by kernel_rfl) (by kernel_rfl) (by kernel_rfl) (fun _ _ _ h => h) (Or.inl ⟨by rfl, ?_⟩) hHeld ?_
          rotate_left 1
          · (intro w hSw; (try dsimp only at hSw); go_simp; try with_reducible rfl)
          try simp only [Act.put, List.getElem_toArray, List.getElem_cons_zero, List.getElem_cons_succ, List.setIfInBounds_toArray, List.set_cons_zero, List.set_cons_succ]
          refine wpAnyH_take (i := 7) (v := ?_) rfl (by kernel_rfl) (by kernel_rfl) (by kernel_rfl) (fun _ _ _ h => h) (Or.inl ⟨by rfl, ?_⟩) hHeld ?_
          rotate_left 1
          · (intro w hSw; obtain ⟨⟨x0, x1, x2, x3⟩, y0, y1, y2, y3⟩ := hSw; go_simp; try with_reducible rfl)
          try simp only [Act.put, List.getElem_toArray, List.getElem_cons_zero, List.getElem_cons_succ, List.setIfInBounds_toArray, List.set_cons_zero, List.set_cons_succ]
          refine wpAnyH_take (i := 8) (v := ?_) rfl (by kernel_rfl) (by kernel_rfl) (by kernel_rfl) (fun _ _ _ h => h) (Or.inl ⟨by rfl, ?_⟩) hHeld ?_
          rotate_left 1
          · (intro w hSw; (try dsimp only at hSw); go_simp; try with_reducible rfl)
          try simp only [Act.put, List.getElem_toArray, List.getElem_cons_zero, List.getElem_cons_succ, List.setIfInBounds_toArray, List.set_cons_zero, List.set_cons_succ]
          refine wpAnyH_take (i := 9) (v := ?_) rfl (by kernel_rfl) (by kernel_rfl) (by kernel_rfl) (fun _ _ _ h => h) (Or.inl ⟨by rfl, ?_⟩) hHeld ?_
          rotate_left 1
          · (intro w hSw; (try dsimp only at hSw); go_simp; try with_reducible rfl)
          try simp only [Act.put, List.getElem_toArray, List.getElem_cons_zero, List.getElem_cons_succ, List.setIfInBounds_toArray, List.set_cons_zero, List.set_cons_succ]
          refine wpAnyH_take (i := 10) (v := ?_) rfl (by kernel_rfl) (by kernel_rfl) (by kernel_rfl) (fun _ _ _ h => h) (Or.inl ⟨by rfl, ?_⟩) hHeld ?_
          rotate_left 1
          · (intro w hSw; (try dsimp only at hSw); go_simp; try with_reducible rfl)
          try simp only [Act.put, List.getElem_toArray, List.getElem_cons_zero, List.getElem_cons_succ, List.setIfInBounds_toArray, List.set_cons_zero, List.set_cons_succ]
          refine wpAnyH_take (i := 11) (v := ?_) rfl (by kernel_rfl) (by kernel_rfl) (by kernel_rfl) (fun _ _ _ h => h) (Or.inl ⟨by rfl, ?_⟩) hHeld ?_
          rotate_left 1
          · (intro w hSw; obtain ⟨⟨x0, x1, x2, x3⟩, y0, y1, y2, y3⟩ := hSw; go_simp; try with_reducible rfl)
          try simp only [Act.put, List.getElem_toArray, List.getElem_cons_zero, List.getElem_cons_succ, List.setIfInBounds_toArray, List.set_cons_zero, List.set_cons_succ]
          refine wpAnyH_take (i := 12) (v := ?_) rfl (by kernel_rfl) (by kernel_rfl) (by kernel_rfl) (fun _ _ _ h => h) (Or.inl ⟨by rfl, ?_⟩) hHeld ?_
          rotate_left 1
          · (intro w hSw; (try dsimp only at hSw); go_simp; try with_reducible rfl)
          try simp only [Act.put, List.getElem_toArray, List.getElem_cons_zero, List.getElem_cons_succ, List.setIfInBounds_toArray, List.set_cons_zero, List.set_cons_succ]
          refine wpAnyH_take (i := 13) (v := ?_) rfl (by kernel_rfl) (by kernel_rfl) (by kernel_rfl) (fun _ _ _ h => h) (Or.inl ⟨by rfl, ?_⟩) hHeld ?_
          rotate_left 1
          · (intro w hSw; (try dsimp only at hSw); go_simp; try with_reducible rfl)
          try simp only [Act.put, List.getElem_toArray, List.getElem_cons_zero, List.getElem_cons_succ, List.setIfInBounds_toArray, List.set_cons_zero, List.set_cons_succ]
          refine wpAnyH_take (i := 14) (v := ?_) rfl (by kernel_rfl) (by kernel_rfl) (by kernel_rfl) (fun _ _ _ h => h) (Or.inl ⟨by rfl, ?_⟩) hHeld ?_
          rotate_left 1
          · (intro w hSw; (try dsimp only at hSw); go_simp; try with_reducible rfl)
          try simp only [Act.put, List.getElem_toArray, List.getElem_cons_zero, List.getElem_cons_succ, List.setIfInBounds_toArray, List.set_cons_zero, List.set_cons_succ]
          refine wpAnyH_take (i := 15) (v := ?_) rfl (by kernel_rfl) (by kernel_rfl) (by kernel_rfl) (fun _ _ _ h => h) (Or.inl ⟨by rfl, ?_⟩) hHeld ?_
          rotate_left 1
          · (intro w hSw; (try dsimp only at hSw); go_simp; try with_reducible rfl)
          try simp only [Act.put, List.getElem_toArray, List.getElem_cons_zero, List.getElem_cons_succ, List.setIfInBounds_toArray, List.set_cons_zero, List.set_cons_succ]
          refine wpAnyH_take (i := 16) (v := ?_) rfl (by kernel_rfl) (by kernel_rfl) (by kernel_rfl) (fun _ _ _ h => h) (Or.inl ⟨by rfl, ?_⟩) hHeld ?_
          rotate_left 1
          · (intro w hSw; (try dsimp only at hSw); go_simp; try with_reducible rfl)
          try simp only [Act.put, List.getElem_toArray, List.getElem_cons_zero, List.getElem_cons_succ, List.setIfInBounds_toArray, List.set_cons_zero, List.set_cons_succ]
          refine wpAnyH_take (i := 17) (v := ?_) rfl (by kernel_rfl) (by kernel_rfl) (by kernel_rfl) (fun _ _ _ h => h) (Or.inl ⟨by rfl, ?_⟩) hHeld ?_
          rotate_left 1
          · (intro w hSw; (try dsimp only at hSw); go_simp; try with_reducible rfl)
          try simp only [Act.put, List.getElem_toArray, List.getElem_cons_zero, List.getElem_cons_succ, List.setIfInBounds_toArray, List.set_cons_zero, List.set_cons_succ]
          refine wpAnyH_take (i := 18) (v := ?_) rfl (by kernel_rfl) (by kernel_rfl) (by kernel_rfl) (fun _ _ _ h => h) (Or.inl ⟨by rfl, ?_⟩) hHeld ?_
          rotate_left 1
          · (intro w hSw; (try dsimp only at hSw); go_simp; try with_reducible rfl)
          try simp only [Act.put, List.getElem_toArray, List.getElem_cons_zero, List.getElem_cons_succ, List.setIfInBounds_toArray, List.set_cons_zero, List.set_cons_succ]
          refine wpAnyH_take (i := 19) (v := ?_) rfl (by kernel_rfl) (by kernel_rfl) (by kernel_rfl) (fun _ _ _ h => h) (Or.inl ⟨by rfl, ?_⟩) hHeld ?_
          rotate_left 1
          · (intro w hSw; obtain ⟨⟨x0, x1, x2, x3⟩, y0, y1, y2, y3⟩ := hSw; go_simp; try with_reducible rfl)
          try simp only [Act.put, List.getElem_toArray, List.getElem_cons_zero, List.getElem_cons_succ, List.setIfInBounds_toArray, List.set_cons_zero, List.set_cons_succ]
          refine wpAnyH_take (i := 21) (v := ?_) rfl (by kernel_rfl) (by kernel_rfl) (by kernel_rfl) (fun _ _ _ h => h) (Or.inl ⟨by rfl, ?_⟩) hHeld ?_
          rotate_left 1
          · (intro w hSw; (try dsimp only at hSw); go_simp; try with_reducible rfl)
          try simp only [Act.put, List.getElem_toArray, List.getElem_cons_zero, List.getElem_cons_succ, List.setIfInBounds_toArray, List.set_cons_zero, List.set_cons_succ]
          refine wpAnyH_ready (rs := [20]) (by kernel_rfl) (by simp) (AllReadyH.cons rfl (fun K hK => ?_) AllReadyH.nil)
          clear hHeld
          go_simp
          with_reducible refine (HP0.out _ ?_).mono ?_
          exact G.drew hg
          rintro e w6 ⟨rfl, hb⟩
          have hgb := G.trans (G.drew hg) hb
          clear hb
          go_wp2_with fail
          refine hK.out _ _ (HS.out _ hgb) (fun hHeld => ?_)
          clear hK K
          try simp only [Act.put, List.getElem_toArray, List.getElem_cons_zero, List.getElem_cons_succ, List.setIfInBounds_toArray, List.set_cons_zero, List.set_cons_succ]
          refine wpAnyH_take (i := 22) (v := ?_) rfl (by kernel_rfl) (by kernel_rfl) (by kernel_rfl) (fun _ _ _ h => h) (Or.inl ⟨by rfl, ?_⟩) hHeld ?_
          rotate_left 1
          · (intro w hSw; (try dsimp only at hSw); go_simp; try with_reducible rfl)
          try simp only [Act.put, List.getElem_toArray, List.getElem_cons_zero, List.getElem_cons_succ, List.setIfInBounds_toArray, List.set_cons_zero, List.set_cons_succ]
          refine wpAnyH_take (i := 23) (v := ?_) rfl (by kernel_rfl) (by kernel_rfl) (by kernel_rfl) (fun _ _ _ h => h) (Or.inl ⟨by rfl, ?_⟩) hHeld ?_
          rotate_left 1
          · (intro w hSw; (try dsimp only at hSw); go_simp; try with_reducible rfl)
          try simp only [Act.put, List.getElem_toArray, List.getElem_cons_zero, List.getElem_cons_succ, List.setIfInBounds_toArray, List.set_cons_zero, List.set_cons_succ]
          refine wpAnyH_done (by kernel_rfl) ?_ _
          refine NoPanic.normal ?_
          go_wp2
          go_roundw
          case rel => exact ⟨m + 1, by omega, by go_num, hgb⟩
          case measure => simp [RowKit.intOf]; omega
    · have hmI : ¬ (m : Int) < (D.length : Int) := by omega
      have HSC := hide' (scan_any t HTS.out wr (HE1.out.G HG.out))
      go_wp2_with fail
      refine HSC.out.mono ?_
      rintro e w2 ⟨x, rfl, hx, hb⟩
      have HG2 : Hid (G w w2) := (HGA.out.trans HG.out).trans hb
      have HE2 : Hid (Env w2) := (HE1.out.G HG.out).G hb
      clear hb HSC HP HQD HGA HG HE1
      rcases hx with ⟨k, a, b, s, ok, ra, hl, _, rfl⟩ | ⟨hn, rfl⟩
      · have HV : Hid (∀ W, Calls Tryz.prog 7 #[V k a b s] W fun e w' => e = .returned (.bool true) ∧ G W w') := fun W => by
          have := rv_any k a b s (by
            by_cases c : k = 4
            · subst c; have := (ok_4 ok).2.2.1; omega
            · have : s = E0 := by
                rcases okV_kinds ok with rfl | rfl | rfl | rfl | rfl | rfl | rfl
                · exact (ok_0 ok).2.2
                · exact (ok_1 ok).2.2
                · exact (ok_2 ok).2
                · exact (ok_3 ok).2.2
                · exact absurd rfl c
                · exact (ok_5' ok).2
                · exact (ok_6' ok).2
              rw [this]; decide) W
          rw [ok] at this
          exact this
        have HPR : Hid (∀ W, Env W → Calls Tryz.prog 5 #[V k a b s] W fun e w' => e = .returned (.string (strU (litV k a b s))) ∧ G W w') := print_yes k a b s ok ra
        have hse : ((strU (litV k a b s)).toList == t.toList) = true := str_eq.2 (by rw [strU_list]; exact hl)
        generalize strU (litV k a b s) = L at HPR hse
        clear ok ra hl
        have hv4 : ∀ o, (w2.alloc (.cells #[I k, I a, I b, .string s] 26)).cell? ⟨w2.heap.size, o, none⟩ = [I k, I a, I b, .string s][o]? := fun o => by simp
        have HGV : Hid (G w2 (w2.alloc (.cells #[I k, I a, I b, .string s] 26))) := (G.refl w2).alloc _
        go_wp2_with fail
        refine (HV.out _).mono ?_
        rintro e w3 ⟨rfl, hb⟩
        have HG3 : Hid (G w w3) := HG2.out.trans (HGV.out.trans hb)
        have hcV := G.cells hb hv4 (by simp)
        have HE3 : Hid (Env w3) := HE2.out.G (HGV.out.trans hb)
        clear hb hv4 HGV
        go_wp2_with fail
        refine (HPR.out _ HE3.out).mono ?_
        rintro e w4 ⟨rfl, hb⟩
        have HG4 : Hid (G w w4) := HG3.out.trans hb
        clear hb hcV
        go_wp2
        go_ret
        exact ⟨rfl, HG4.out⟩
      · have HPR : Hid (∀ W, Env W → Calls Tryz.prog 5 #[V 0 0 0 E0] W fun e w' => e = .returned (.string (strU (litV 0 0 0 E0))) ∧ G W w') := print_yes 0 0 0 E0 okNull ⟨by decide, by decide⟩
        have hse : ((strU (litV 0 0 0 E0)).toList == t.toList) = false := by
          cases hq : ((strU (litV 0 0 0 E0)).toList == t.toList) with
          | false => rfl
          | true => exact absurd ((str_eq.1 hq).symm.trans (strU_list _)) (hn 0 0 0 E0 okNull ⟨by decide, by decide⟩ ⟨by decide, by decide⟩)
        generalize strU (litV 0 0 0 E0) = L at HPR hse
        clear hn
        have hv4 : ∀ o, (w2.alloc (.cells #[I 0, I 0, I 0, .string E0] 26)).cell? ⟨w2.heap.size, o, none⟩ = [I 0, I 0, I 0, .string E0][o]? := fun o => by simp
        have HGV : Hid (G w2 (w2.alloc (.cells #[I 0, I 0, I 0, .string E0] 26))) := (G.refl w2).alloc _
        have hneq : ∀ w, (binOp .eql 26 (V 0 0 0 E0) (V 0 0 0 E0)).run Tryz.prog w = .ok (.bool true) w := fun w => by rw [eqV]; simp
        cases het : (t.toList == ([] : List UInt8)) with
        | true =>
          go_wp2
          go_ret
          exact ⟨rfl, HG2.out.trans HGV.out⟩
        | false =>
          go_wp2_with fail
          refine (HPR.out _ (HE2.out.G HGV.out)).mono ?_
          rintro e w3 ⟨rfl, hb⟩
          have HG3 : Hid (G w w3) := HG2.out.trans (HGV.out.trans hb)
          clear hb hv4 HGV
          go_wp2
          go_ret
          exact ⟨rfl, HG3.out⟩
end Go.Proofs.YtajeddpbmdkafaaGreatDoor
