/- trellisref1.summed, mean. -/
import Derived.Test.YtnoajhegcjoebabGreatDoorFold2
namespace Go.Proofs.YtnoajhegcjoebabGreatDoor
open Go.RowKit Go.Lib Go.Shelf

set_option maxRecDepth 100000 in
set_option maxHeartbeats 2000000 in
theorem rsum_no' (b off cap : Nat) (D : List Qd) (hn : D.length ≤ 140737488351232) (w : World) (hV : VRow w (.slice (some ⟨b, off, none⟩) D.length cap) D) (hA : allNum D = false) :
    Calls Tryz.prog 96 #[.slice (some ⟨b, off, none⟩) D.length cap] w fun e w' => e = .returned (.tuple #[V0, .int .i64 10]) ∧ G w w' := by
  have HV : Hid _ := hV
  have HA : Hid _ := hA
  clear hV hA
  go_enter Tryz.func96, Tryz.ntmps96
  go_wp2
  go_loopw [4] (fun i W => ∃ m : Nat, m ≤ D.length ∧ i = .int .i64 m ∧ W = w.alloc (.cells #[I 0, I 0, I 0, .string E0] 26) ∧ Hid (allNum (D.take m) = true)) (fun i _ => D.length - (RowKit.intOf i).toNat)
  case atStart => exact ⟨0, by omega, rfl, rfl, rfl⟩
  case round =>
    obtain ⟨m, hm, rfl, rfl, hall⟩ := hrel
    by_cases hlt : m < D.length
    · obtain ⟨q, hq⟩ : ∃ q, D[m]? = some q := ⟨D[m], List.getElem?_eq_getElem hlt⟩
      obtain ⟨h0, _, _, _⟩ := vrow_at (VRow.G HV.out ((G.refl w).alloc (.cells #[I 0, I 0, I 0, .string E0] 26))) hq
      have R : Hid ((q.1 = 2 ∨ q.1 = 3) → allNum (D.take (m + 1)) = true) := fun h => by
        have := hall.out
        unfold allNum at this ⊢
        rw [take_snoc hq, List.all_append, this]
        simp [h]
      clear hq hall
      obtain ⟨k, a, b', s⟩ := q
      simp only at h0 R
      by_cases k2 : k = 2
      · have R' : Hid _ := R.out (.inl k2)
        have n2 : (k != 2) = false := by simp [k2]
        clear R k2
        go_wp2
        go_roundw
        case rel => exact ⟨m + 1, by omega, by go_num, by trivial, R'.out⟩
        case measure => simp [RowKit.intOf]; omega
      · have n2 : (k != 2) = true := by simpa using k2
        by_cases k3 : k = 3
        · have R' : Hid _ := R.out (.inr k3)
          have n3 : (k != 3) = false := by simp [k3]
          clear R k2 k3
          go_wp2
          go_roundw
          case rel => exact ⟨m + 1, by omega, by go_num, by trivial, R'.out⟩
          case measure => simp [RowKit.intOf]; omega
        · have n3 : (k != 3) = true := by simpa using k3
          clear R k2 k3
          go_wp2
          exact bodyPost_ret (v := .tuple #[V0, .int .i64 10]) (by simp [results, Tryz.results96, go_sem]) rfl ⟨rfl, by
            repeat (first | exact G.refl _ | refine G.alloc ?_ _ | refine G.setCell ?_ (by first | (simp; done) | (simp; omega)) _)⟩
    · exfalso
      have e : D.take m = D := List.take_of_length_le (by omega)
      have h1 := hall.out
      rw [e, HA.out] at h1
      cases h1
/-- What summed's second loop stands on: the box that is handed back, the running total's. -/
def SBox (w : World) (q : Qd) (b c : Nat) (W : World) : Prop := Two w b c (fun o => [I 0, I 0, I 0, Value.string E0][o]?) (fun o => [I q.1, I q.2.1, I q.2.2.1, Value.string q.2.2.2][o]?) W
/-- What the region of its round stands on. -/
def RS (w : World) (B5 b o : Nat) (tk ta tb : Int) (ts : ByteArray) (qk qa qb : Int) (qs : ByteArray) (W : World) : Prop := (∀ (o : Nat), W.cell? { block := B5, off := o } = [I tk, I ta, I tb, Value.string ts][o]?) ∧ W.cell? { block := b, off := o } = some (I qk) ∧ W.cell? { block := b, off := o + 1 } = some (I qa) ∧ W.cell? { block := b, off := o + 2 } = some (I qb) ∧ W.cell? { block := b, off := o + 3 } = some (.string qs) ∧
  (∀ (o : Nat), W.cell? { block := w.heap.size, off := o } = [I 0, I 0, I 0, Value.string E0][o]?) ∧ (∀ (o : Nat), W.frozen? { block := w.heap.size, off := o } = false) ∧ (∀ (o : Nat), W.frozen? { block := B5, off := o } = false) ∧ G w W ∧ w.heap.size < W.heap.size ∧ B5 < W.heap.size
theorem RS.keep {w W W' : World} {B5 b o : Nat} {tk ta tb : Int} {ts : ByteArray} {qk qa qb : Int} {qs : ByteArray} (hb : G W W') (h : RS w B5 b o tk ta tb ts qk qa qb qs W) : RS w B5 b o tk ta tb ts qk qa qb qs W' := by
  obtain ⟨h1, h2, h3, h4, h5, h6, h7, h8, h9, h10, h11⟩ := h
  exact ⟨G.cells hb h1 h11, (hb.cell (cellLt h2)).trans h2, (hb.cell (cellLt h3)).trans h3, (hb.cell (cellLt h4)).trans h4, (hb.cell (cellLt h5)).trans h5, G.cells hb h6 h10, G.frozens hb h7 h10, G.frozens hb h8 h11, h9.trans hb, Nat.lt_of_lt_of_le h10 hb.size, Nat.lt_of_lt_of_le h11 hb.size⟩
theorem rs_of {w W : World} {B5 b off n cap m : Nat} {t q : Qd} {D : List Qd} (h : SBox w t w.heap.size B5 W) (hV : VRow W (.slice (some ⟨b, off, none⟩) n cap) D) (hq : D[m]? = some q) : RS w B5 b (off + m * 4) t.1 t.2.1 t.2.2.1 t.2.2.2 q.1 q.2.1 q.2.2.1 q.2.2.2 W := by
  obtain ⟨h1, h2, h3, h4, h5, h6, h7⟩ := h
  obtain ⟨c0, c1, c2, c3⟩ := vrow_at hV hq
  exact ⟨h2, c0, c1, c2, c3, h1, h3, h4, h5, h6, h7⟩
set_option maxRecDepth 100000 in
set_option maxHeartbeats 2000000 in
theorem rsum_yes' (b off cap : Nat) (D : List Qd) (hD : ∀ q ∈ D, Qd.num q) (hn : D.length ≤ 140737488351232) (w : World) (hV : VRow w (.slice (some ⟨b, off, none⟩) D.length cap) D) (m0 : Nat) (hE : SumEnd D m0) (rc : Int) (q0 : Qd) (hR : (m0 = D.length ∧ rc = 0 ∧ q0 = (tot D D.length).2) ∨ (m0 < D.length ∧ rc = cod D m0 ∧ q0 = Q0)) :
    Calls Tryz.prog 96 #[.slice (some ⟨b, off, none⟩) D.length cap] w fun e w' => e = .returned (.tuple #[q0.W, .int .i64 rc]) ∧ G w w' := by
  have HV : Hid _ := hV
  have HE : Hid _ := hE
  have HR : Hid _ := hR
  clear hV hE hR
  go_enter Tryz.func96, Tryz.ntmps96
  go_wp2
  go_loopw [4] (fun i W => ∃ m : Nat, m ≤ D.length ∧ i = .int .i64 m ∧ W = w.alloc (.cells #[I 0, I 0, I 0, .string E0] 26)) (fun i _ => D.length - (RowKit.intOf i).toNat)
  case atStart => exact ⟨0, by omega, rfl, rfl⟩
  case round =>
    obtain ⟨m, hm, rfl, rfl⟩ := hrel
    by_cases hlt : m < D.length
    · obtain ⟨q, hq⟩ : ∃ q, D[m]? = some q := ⟨D[m], List.getElem?_eq_getElem hlt⟩
      obtain ⟨h0, _, _, _⟩ := vrow_at (VRow.G HV.out ((G.refl w).alloc (.cells #[I 0, I 0, I 0, .string E0] 26))) hq
      have hk := (hD q (List.mem_of_getElem? hq)).2.1
      clear hq
      obtain ⟨k, a, b', s⟩ := q
      simp only at h0 hk
      by_cases k2 : k = 2
      · have n2 : (k != 2) = false := by simp [k2]
        clear k2 hk
        go_wp2
        go_roundw
        case rel => exact ⟨m + 1, by omega, by go_num, by trivial⟩
        case measure => simp [RowKit.intOf]; omega
      · have n2 : (k != 2) = true := by simpa using k2
        have n3 : (k != 3) = false := by have : k = 3 := by omega
                                         simp [this]
        clear k2 hk
        go_wp2
        go_roundw
        case rel => exact ⟨m + 1, by omega, by go_num, by trivial⟩
        case measure => simp [RowKit.intOf]; omega
    · go_wp2_with fail
      refine (rwhole _ _).mono ?_
      rintro e w1 ⟨rfl, hb1⟩
      have hz1 : w.heap.size < w1.heap.size := by have := hb1.size; simp at this; omega
      have hT : Two w w.heap.size w1.heap.size (fun o => [I 0, I 0, I 0, Value.string E0][o]?) (fun o => [I 2, I 0, I 0, Value.string E0][o]?) (w1.alloc (.cells #[I 2, I 0, I 0, .string E0] 26)) := by
        have hz : w.heap.size < w1.heap.size := by have := hb1.size; simp at this; omega
        refine ⟨?_, fun o => by simp, ?_, fun o => by simp, (((G.refl w).alloc _).trans hb1).alloc _, by simp; omega, by simp⟩
        · exact G.cells (hb1.alloc _) (fun o => by simp) (by simp)
        · exact G.frozens (hb1.alloc _) (fun o => by simp) (by simp)
      clear hb1
      have HT0 : Hid (SBox w (tot D 0).2 w.heap.size w1.heap.size (w1.alloc (.cells #[I 2, I 0, I 0, .string E0] 26))) := hT
      clear hT
      generalize hB5 : w1.heap.size = B5 at HT0 hz1
      go_wp2
      go_loopw [6] (fun i W => ∃ m : Nat, m ≤ D.length ∧ i = .int .i64 m ∧ Hid (SBox w (tot D m).2 w.heap.size B5 W) ∧ Hid (∀ j, j < m → cod D j = 0)) (fun i _ => D.length - (RowKit.intOf i).toNat)
      case atStart => exact ⟨0, by omega, rfl, HT0.out, fun j hj => absurd hj (Nat.not_lt_zero j)⟩
      case round =>
        obtain ⟨m, hm, rfl, HS, HC⟩ := hrel
        have HG : Hid (G w wr) := HS.out.2.2.2.2.1
        by_cases hlt2 : m < D.length
        · obtain ⟨q, hq⟩ : ∃ q, D[m]? = some q := ⟨D[m], List.getElem?_eq_getElem hlt2⟩
          have hr0 := rs_of HS.out (VRow.G HV.out HG.out) hq
          have T2 : Hid _ := (tot_step D hD hq HC.out).2.1
          have T3 : Hid _ := (tot_step D hD hq HC.out).2.2
          generalize htn : (tot D (m + 1)).2 = tn at T2 T3
          generalize (tot D m).2 = tq at hr0 T2
          have HTN : Hid _ := htn
          clear hq htn HS
          obtain ⟨tk, ta, tb, ts⟩ := tq
          obtain ⟨nk, na, nb, ns⟩ := tn
          obtain ⟨qk, qa, qb, qs⟩ := q
          unfold RS at hr0
          simp only at hr0
          by_cases hlt3 : (m : Int) < (D.length : Int)
          · go_wp2
            go_region_held3 (fun W => (∀ (o : Nat), W.cell? { block := B5, off := o } = [I tk, I ta, I tb, Value.string ts][o]?) ∧ W.cell? { block := b, off := off + m * 4 } = some (I qk) ∧ W.cell? { block := b, off := off + m * 4 + 1 } = some (I qa) ∧ W.cell? { block := b, off := off + m * 4 + 2 } = some (I qb) ∧ W.cell? { block := b, off := off + m * 4 + 3 } = some (.string qs) ∧
                (∀ (o : Nat), W.cell? { block := w.heap.size, off := o } = [I 0, I 0, I 0, Value.string E0][o]?) ∧ (∀ (o : Nat), W.frozen? { block := w.heap.size, off := o } = false) ∧ (∀ (o : Nat), W.frozen? { block := B5, off := o } = false) ∧ G w W ∧ w.heap.size < W.heap.size ∧ B5 < W.heap.size)
              ((first | assumption | (refine RS.keep ?_ hr0; repeat (first | exact G.refl _ | exact (G.drew (G.refl _)).trans hb5 | exact (G.alloc (G.drew (G.refl _)) _).trans hb5 | exact (G.drew (G.alloc (G.refl _) _)).trans hb5 | refine G.drew ?_ | refine G.alloc ?_ _ | refine G.setCell ?_ (by simp) _))))
              (first | (go_at_call 45; refine (T2.out _).mono ?_; rintro e w5 ⟨rfl, hb5⟩; obtain ⟨hc5, hf5⟩ := hb5.rules) | fail)
            · rename_i hH
              have hT7 : ∀ o, (w5.alloc (.cells #[I nk, I na, I nb, .string ns] 26)).cell? ⟨w5.heap.size, o, none⟩ = [I nk, I na, I nb, Value.string ns][o]? := fun o => by simp
              clear hb5 hc5 hf5 hr0
              generalize (w5.alloc (.cells #[I nk, I na, I nb, .string ns] 26)) = W6 at hT7 hH ⊢
              generalize w5.heap.size = T7 at hT7 ⊢
              obtain ⟨c5, _, _, _, _, c2, f2, f5, hG6, z2, z5⟩ := hH
              have HTwo : Hid (Two w w.heap.size B5 (fun o => [I 0, I 0, I 0, Value.string E0][o]?) (fun o => [I tk, I ta, I tb, Value.string ts][o]?) W6) := ⟨c2, c5, f2, f5, hG6, z2, z5⟩
              by_cases hc : cod D m = 0
              · have hc' : (cod D m != 0) = false := by simp [hc]
                have R : Hid (∀ j, j < m + 1 → cod D j = 0) := fun j hj => by
                  rcases Nat.lt_or_ge j m with c | c
                  · exact HC.out j c
                  · have : j = m := by omega
                    rw [this]; exact hc
                clear hc
                go_wp2
                go_roundw
                case rel =>
                  refine ⟨m + 1, by omega, by go_num, ?_, R.out⟩
                  have := two_swap (two_set1 (I nk) (I na) (I nb) (.string ns) (by omega) (by omega) (two_swap HTwo.out))
                  unfold Hid SBox
                  rw [HTN.out]
                  exact this
                case measure => simp [RowKit.intOf]; omega
              · have hc' : (cod D m != 0) = true := by simpa using hc
                have hE : m0 = m := by
                  obtain ⟨e1, e2⟩ := HE.out
                  rcases Nat.lt_trichotomy m m0 with h | h | h
                  · exact absurd (e1 m h) hc
                  · exact h.symm
                  · rcases e2 with e2 | ⟨_, e2⟩
                    · omega
                    · exact absurd (HC.out m0 h) e2
                have hRq : rc = cod D m ∧ q0 = Q0 := by
                  rcases HR.out with ⟨h, _⟩ | ⟨_, h1, h2⟩
                  · omega
                  · rw [hE] at h1; exact ⟨h1, h2⟩
                have HRq : Hid _ := hRq
                clear hE hc hRq
                generalize hcd : cod D m = cd at hc' ⊢
                have HCD : Hid _ := hcd
                clear hcd
                go_wp2
                exact bodyPost_ret (v := .tuple #[V0, .int .i64 cd]) (by simp [results, Tryz.results96, go_sem, c2]) rfl ⟨by rw [HRq.out.1, HRq.out.2, HCD.out], by
                  repeat (first | exact hG6 | refine G.setCell ?_ (Nat.le_refl _) _)⟩
            · rename_i hH
              have hT7 := box_set w5 wr.heap.size (I 0) (I 0) (I 0) (.string E0) (I nk) (I na) (I nb) (.string ns) (fun o => by rw [hc5 _ _ (by simp)]; simp)
              clear hb5 hc5 hf5 hr0
              generalize ((((w5.setCell { block := wr.heap.size, off := 0 } (I nk)).setCell { block := wr.heap.size, off := 1 } (I na)).setCell { block := wr.heap.size, off := 2 } (I nb)).setCell { block := wr.heap.size, off := 3 } (.string ns)) = W6 at hT7 hH ⊢
              generalize wr.heap.size = T7 at hT7 ⊢
              obtain ⟨c5, _, _, _, _, c2, f2, f5, hG6, z2, z5⟩ := hH
              have HTwo : Hid (Two w w.heap.size B5 (fun o => [I 0, I 0, I 0, Value.string E0][o]?) (fun o => [I tk, I ta, I tb, Value.string ts][o]?) W6) := ⟨c2, c5, f2, f5, hG6, z2, z5⟩
              by_cases hc : cod D m = 0
              · have hc' : (cod D m != 0) = false := by simp [hc]
                have R : Hid (∀ j, j < m + 1 → cod D j = 0) := fun j hj => by
                  rcases Nat.lt_or_ge j m with c | c
                  · exact HC.out j c
                  · have : j = m := by omega
                    rw [this]; exact hc
                clear hc
                go_wp2
                go_roundw
                case rel =>
                  refine ⟨m + 1, by omega, by go_num, ?_, R.out⟩
                  have := two_swap (two_set1 (I nk) (I na) (I nb) (.string ns) (by omega) (by omega) (two_swap HTwo.out))
                  unfold Hid SBox
                  rw [HTN.out]
                  exact this
                case measure => simp [RowKit.intOf]; omega
              · have hc' : (cod D m != 0) = true := by simpa using hc
                have hE : m0 = m := by
                  obtain ⟨e1, e2⟩ := HE.out
                  rcases Nat.lt_trichotomy m m0 with h | h | h
                  · exact absurd (e1 m h) hc
                  · exact h.symm
                  · rcases e2 with e2 | ⟨_, e2⟩
                    · omega
                    · exact absurd (HC.out m0 h) e2
                have hRq : rc = cod D m ∧ q0 = Q0 := by
                  rcases HR.out with ⟨h, _⟩ | ⟨_, h1, h2⟩
                  · omega
                  · rw [hE] at h1; exact ⟨h1, h2⟩
                have HRq : Hid _ := hRq
                clear hE hc hRq
                generalize hcd : cod D m = cd at hc' ⊢
                have HCD : Hid _ := hcd
                clear hcd
                go_wp2
                exact bodyPost_ret (v := .tuple #[V0, .int .i64 cd]) (by simp [results, Tryz.results96, go_sem, c2]) rfl ⟨by rw [HRq.out.1, HRq.out.2, HCD.out], by
                  repeat (first | exact hG6 | refine G.setCell ?_ (Nat.le_refl _) _)⟩
          · omega
        · have em : m = D.length := by omega
          have hRq : rc = 0 ∧ q0 = (tot D m).2 := by
            obtain ⟨e1, e2⟩ := HE.out
            rcases HR.out with ⟨_, h1, h2⟩ | ⟨h, _⟩
            · rw [em]; exact ⟨h1, h2⟩
            · rcases e2 with e2 | ⟨_, e2⟩
              · omega
              · exact absurd (HC.out m0 (by omega)) e2
          have HRq : Hid _ := hRq
          obtain ⟨c2, c5, f2, f5, hG6, z2, z5⟩ := HS.out
          clear HS hRq
          generalize htq : (tot D m).2 = tq at c5 ⊢
          have HTQ : Hid _ := htq
          clear htq
          obtain ⟨tk, ta, tb, ts⟩ := tq
          simp only at c5
          have c20 := c2 0
          go_wp2
          exact bodyPost_ret (v := .tuple #[V tk ta tb ts, .int .i64 0]) (by simp [results, Tryz.results96, go_sem, c2]) rfl ⟨by rw [HRq.out.1, HRq.out.2, HTQ.out], by
            repeat (first | exact hG6 | refine G.setCell ?_ (Nat.le_refl _) _)⟩
end Go.Proofs.YtnoajhegcjoebabGreatDoor
