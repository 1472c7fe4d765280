/- trellisref1.Fold. -/
import Derived.Test.YtnoajhegcjoebabGreatDoorFold5
namespace Go.Proofs.YtnoajhegcjoebabGreatDoor
open Go.RowKit Go.Lib Go.Shelf

set_option maxRecDepth 100000 in
set_option maxHeartbeats 2000000 in
theorem rFold_1 (a : Option Addr) (cap : Nat) (L : List Qd) (w : World) (hV : L = [] ∨ VRow w (.slice a L.length cap) L) (hs : ∀ q ∈ L, q.2.2.2.size ≤ 4611686018427387904) (hn : L.length * 40 ≤ 140737488351232) (rv : Value) (c : Int) (q : Qd)
    (hR : (L.all Qd.ok = true ∧ GoodD (noNull L) ∧ FR 1 (noNull L) rv c q) ∨ (L.all Qd.ok = false ∧ c = 16 ∧ q = Q0)) : Calls Tryz.prog 52 #[.int .i64 1, .slice a L.length cap] w fun e w' => e = .returned (.tuple #[q.W, .int .i64 c]) ∧ G w w' := by
  obtain ⟨i0, hi, hz0, hz1, hz2⟩ := info_parts info_val
  have HV : Hid _ := hV
  have HR : Hid _ := hR
  have HSL : Hid _ := hs
  clear hV hR hs
  obtain ⟨qk, qa, qb, qs⟩ := q
  go_enter Tryz.func52, Tryz.ntmps52
  go_wp2
  go_loopw [6, 7] (fun x i W => ∃ m : Nat, m ≤ L.length ∧ i = .int .i64 m ∧ Hid (G (w.alloc (.cells #[I 0, I 0, I 0, .string E0] 26)) W) ∧ Hid (W.ownsRow (w.alloc (.cells #[I 0, I 0, I 0, .string E0] 26)).heap.size 26 4 x (noNull (L.take m)).length (flat (noNull (L.take m)))) ∧ Hid ((L.take m).all Qd.ok = true)) (fun _ i _ => L.length - (RowKit.intOf i).toNat)
  case atStart => exact ⟨0, by omega, rfl, G.refl _, World.ownsRow_nil _ _ _ _, rfl⟩
  case round =>
    obtain ⟨m, hm, rfl, HG, HO, HA⟩ := hrel
    by_cases hlt : m < L.length
    · obtain ⟨q, hq⟩ : ∃ q, L[m]? = some q := ⟨L[m], List.getElem?_eq_getElem hlt⟩
      obtain ⟨b, off, ea⟩ : ∃ b off, a = some ⟨b, off, none⟩ := by
        rcases HV.out with hn | ⟨h, hn⟩ | ⟨b, off, cap2, h, _⟩
        · rw [hn] at hlt; exact absurd hlt (Nat.not_lt_zero _)
        · rw [hn] at hlt; exact absurd hlt (Nat.not_lt_zero _)
        · injection h with h _ _; exact ⟨b, off, h⟩
      subst ea
      have HV' : Hid (VRow w (.slice (some ⟨b, off, none⟩) L.length cap) L) := by
        rcases HV.out with hn | h
        · rw [hn] at hlt; exact absurd hlt (Nat.not_lt_zero _)
        · exact h
      have HC : Hid (∀ W, G (w.alloc (.cells #[I 0, I 0, I 0, .string E0] 26)) W → W.cell? ⟨b, off + m * 4, none⟩ = some (I q.1) ∧ W.cell? ⟨b, off + m * 4 + 1, none⟩ = some (I q.2.1) ∧ W.cell? ⟨b, off + m * 4 + 2, none⟩ = some (I q.2.2.1) ∧ W.cell? ⟨b, off + m * 4 + 3, none⟩ = some (.string q.2.2.2)) := fun W g => vrow_at (VRow.G HV'.out (((G.refl w).alloc _).trans g)) hq
      have R1 : Hid (q.1 = 0 → noNull (L.take (m + 1)) = noNull (L.take m)) := fun hk => by rw [noNull_snoc hq, hk]; simp
      have R2 : Hid (q.1 ≠ 0 → noNull (L.take (m + 1)) = noNull (L.take m) ++ [q]) := fun hk => by rw [noNull_snoc hq]; simp [hk]
      have R3 : Hid (q.ok = true → (L.take (m + 1)).all Qd.ok = true) := all_snoc hq HA.out
      have R4 : Hid (q.ok = false → L.all Qd.ok = false) := all_no hq
      have hsz := HSL.out q (List.mem_of_getElem? hq)
      have hle := noNull_le L m
      clear hq
      obtain ⟨k, a1, b1, s1⟩ := q
      simp only [Qd.ok] at R1 R2 R3 R4 HC hsz
      have HI : Hid _ := rv_any k a1 b1 s1 hsz
      clear hsz
      obtain ⟨h0, h1, h2, h3⟩ := HC.out wr HG.out
      cases hok : okV k a1 b1 s1
      · have R4' : Hid _ := R4.out hok
        rw [hok] at HI
        clear R1 R2 R3 R4 hok
        go_wp2_with fail
        refine (HI.out _).mono ?_
        rintro e w1 ⟨rfl, hb1⟩
        have HG1 : Hid (G (w.alloc (.cells #[I 0, I 0, I 0, .string E0] 26)) w1) := HG.out.trans hb1
        have cB : ∀ (o : Nat), w1.cell? { block := w.heap.size, off := o } = [I 0, I 0, I 0, Value.string E0][o]? := G.cells HG1.out (fun o => by simp) (by simp)
        have fB : ∀ (o : Nat), w1.frozen? { block := w.heap.size, off := o } = false := G.frozens HG1.out (fun o => by simp) (by simp)
        have gE : G w w1 := ((G.refl w).alloc _).trans HG1.out
        have hq : c = 16 ∧ (qk, qa, qb, qs) = Q0 := by
          rcases HR.out with ⟨h, _⟩ | ⟨_, h⟩
          · rw [R4'.out] at h; cases h
          · exact h
        have HQ : Hid _ := hq
        clear hb1 h0 h1 h2 h3 hq
        go_wp2
        exact bodyPost_ret (v := .tuple #[V0, .int .i64 16]) (by simp [results, Tryz.results52, go_sem, cB]) rfl ⟨by rw [HQ.out.1, HQ.out.2], by repeat (first | exact gE | refine G.setCell ?_ (Nat.le_refl _) _)⟩
      · have R3' : Hid _ := R3.out hok
        rw [hok] at HI
        clear R3 R4 hok
        go_wp2_with fail
        refine (HI.out _).mono ?_
        rintro e w1 ⟨rfl, hb1⟩
        clear h0 h1 h2 h3
        have HG1 : Hid (G (w.alloc (.cells #[I 0, I 0, I 0, .string E0] 26)) w1) := HG.out.trans hb1
        have HO1 : Hid (w1.ownsRow (w.alloc (.cells #[I 0, I 0, I 0, .string E0] 26)).heap.size 26 4 _ (noNull (L.take m)).length (flat (noNull (L.take m)))) := own_G HO.out hb1
        obtain ⟨h0, h1, h2, h3⟩ := HC.out w1 HG1.out
        clear hb1 HG HO
        by_cases hk : k = 0
        · have R1' : Hid _ := R1.out hk
          have hk' : (k != 0) = false := by simp [hk]
          clear R1 R2 hk
          go_wp2
          go_roundw
          case rel => exact ⟨m + 1, by omega, by go_num, HG1.out, by unfold Hid; rw [R1'.out]; exact HO1.out, R3'.out⟩
          case measure => simp [RowKit.intOf]; omega
        · have R2' : Hid _ := R2.out hk
          have hk' : (k != 0) = true := by simpa using hk
          clear R1 R2 hk
          go_wp2_with (at_builtin; refine wpList_append_own _ rfl _ _ 27 rfl (w.alloc (.cells #[I 0, I 0, I 0, .string E0] 26)).heap.size 26 i0 V0 4 40 Tryz.underlying27 hi hz0 hz1 hz2 rfl (by decide) _ _ _ rfl (World.ownsRow.alloc HO1.out _) ⟨w1.heap.size, 0, none⟩ 1 1 [I k, I a1, I b1, .string s1] rfl rfl ?c1 ?c2 ?c3 ?c4 ?c5 ?_)
          case c1 =>
            intro j u hj
            match j, hj with
            | 0, hj => simp at hj; subst hj; simp [Addr.add]
            | 1, hj => simp at hj; subst hj; simp [Addr.add]
            | 2, hj => simp at hj; subst hj; simp [Addr.add]
            | 3, hj => simp at hj; subst hj; simp [Addr.add]
          case c2 =>
            intro u hu
            simp at hu
            rcases hu with rfl | rfl | rfl | rfl <;> rfl
          case c3 => unfold maxLen; omega
          case c4 => omega
          case c5 => have := HG1.out.size; simp at this ⊢; omega
          intro x' w3 hown3 hgrow _
          have HG3 : Hid (G (w.alloc (.cells #[I 0, I 0, I 0, .string E0] 26)) w3) := Below.grown (HG1.out.alloc _) hgrow (by have := HG1.out.size; simp at this ⊢; omega) (fun g hg => (World.ownsRow.lt HO1.out g hg).1)
          have HO3 : Hid (w3.ownsRow (w.alloc (.cells #[I 0, I 0, I 0, .string E0] 26)).heap.size 26 4 x' (noNull (L.take (m + 1))).length (flat (noNull (L.take (m + 1))))) := by
            unfold Hid
            have es : (w.alloc (.cells #[I 0, I 0, I 0, .string E0] 26)).heap.size = w.heap.size + 1 := by simp
            rw [R2'.out, List.length_append, flat_snoc, es]
            exact hown3
          clear hown3 hgrow
          go_wp2
          go_roundw
          case rel => exact ⟨m + 1, by omega, by go_num, HG3.out, HO3.out, R3'.out⟩
          case measure => simp [RowKit.intOf]; omega
    · have e : L.take m = L := List.take_of_length_le (by omega)
      have hFG : GoodD (noNull L) ∧ FR 1 (noNull L) rv c (qk, qa, qb, qs) := by
        have hall := HA.out
        rw [e] at hall
        rcases HR.out with ⟨_, h⟩ | ⟨h, _⟩
        · exact h
        · rw [hall] at h; cases h
      have HSz : Hid (∀ q ∈ noNull L, q.2.2.2.size ≤ 4611686018427387904) := fun q hq => HSL.out q (List.mem_filter.1 hq).1
      rw [e] at HO
      generalize noNull L = D at HO hFG HSz
      have HGd : Hid (GoodD D) := hFG.1
      have HF : Hid (FR 1 D rv c (qk, qa, qb, qs)) := hFG.2
      have HVD : Hid _ := own_vrow HO.out
      obtain ⟨a', cap', hx⟩ := vrow_form HVD.out
      subst hx
      have HGw : Hid (G w wr) := ((G.refl w).alloc _).trans HG.out
      have hcB : ∀ (o : Nat), wr.cell? { block := w.heap.size, off := o } = [I 0, I 0, I 0, Value.string E0][o]? := G.cells HG.out (fun o => by simp) (by simp)
      have hfB : ∀ (o : Nat), wr.frozen? { block := w.heap.size, off := o } = false := G.frozens HG.out (fun o => by simp) (by simp)
      have hzB : w.heap.size < wr.heap.size := by have := HG.out.size; simp at this; omega
      have hDn : D.length ≤ 140737488351232 := HGd.out.2
      clear HG HO HA hFG e hm
      generalize wr = w0 at HVD HGw hcB hfB hzB ⊢
      obtain ⟨rfl, hq⟩ := fr1 HF.out
      have HQ : Hid _ := hq
      clear hq HF

      go_wp2_with fail
      refine (rwhole _ _).mono ?_
      rintro e w5 ⟨rfl, hb5⟩
      have cB : ∀ (o : Nat), w5.cell? { block := w.heap.size, off := o } = [I 0, I 0, I 0, Value.string E0][o]? := G.cells hb5 hcB hzB
      have fB : ∀ (o : Nat), w5.frozen? { block := w.heap.size, off := o } = false := G.frozens hb5 hfB hzB
      have gE : G w w5 := HGw.out.trans hb5
      clear hb5 hcB hfB hzB
      go_wp2
      exact bodyPost_ret (v := .tuple #[V 2 (D.length : Int) 0 E0, .int .i64 0]) (by simp [results, Tryz.results52, go_sem, cB]) rfl ⟨by rw [HQ.out], by repeat (first | exact gE | refine G.setCell ?_ (Nat.le_refl _) _)⟩
set_option maxRecDepth 100000 in
set_option maxHeartbeats 2000000 in
theorem rFold_2 (a : Option Addr) (cap : Nat) (L : List Qd) (w : World) (hV : L = [] ∨ VRow w (.slice a L.length cap) L) (hs : ∀ q ∈ L, q.2.2.2.size ≤ 4611686018427387904) (hn : L.length * 40 ≤ 140737488351232) (rv : Value) (c : Int) (q : Qd)
    (hR : (L.all Qd.ok = true ∧ GoodD (noNull L) ∧ FR 2 (noNull L) rv c q) ∨ (L.all Qd.ok = false ∧ c = 16 ∧ q = Q0)) : Calls Tryz.prog 52 #[.int .i64 2, .slice a L.length cap] w fun e w' => e = .returned (.tuple #[q.W, .int .i64 c]) ∧ G w w' := by
  obtain ⟨i0, hi, hz0, hz1, hz2⟩ := info_parts info_val
  have HV : Hid _ := hV
  have HR : Hid _ := hR
  have HSL : Hid _ := hs
  clear hV hR hs
  obtain ⟨qk, qa, qb, qs⟩ := q
  go_enter Tryz.func52, Tryz.ntmps52
  go_wp2
  go_loopw [6, 7] (fun x i W => ∃ m : Nat, m ≤ L.length ∧ i = .int .i64 m ∧ Hid (G (w.alloc (.cells #[I 0, I 0, I 0, .string E0] 26)) W) ∧ Hid (W.ownsRow (w.alloc (.cells #[I 0, I 0, I 0, .string E0] 26)).heap.size 26 4 x (noNull (L.take m)).length (flat (noNull (L.take m)))) ∧ Hid ((L.take m).all Qd.ok = true)) (fun _ i _ => L.length - (RowKit.intOf i).toNat)
  case atStart => exact ⟨0, by omega, rfl, G.refl _, World.ownsRow_nil _ _ _ _, rfl⟩
  case round =>
    obtain ⟨m, hm, rfl, HG, HO, HA⟩ := hrel
    by_cases hlt : m < L.length
    · obtain ⟨q, hq⟩ : ∃ q, L[m]? = some q := ⟨L[m], List.getElem?_eq_getElem hlt⟩
      obtain ⟨b, off, ea⟩ : ∃ b off, a = some ⟨b, off, none⟩ := by
        rcases HV.out with hn | ⟨h, hn⟩ | ⟨b, off, cap2, h, _⟩
        · rw [hn] at hlt; exact absurd hlt (Nat.not_lt_zero _)
        · rw [hn] at hlt; exact absurd hlt (Nat.not_lt_zero _)
        · injection h with h _ _; exact ⟨b, off, h⟩
      subst ea
      have HV' : Hid (VRow w (.slice (some ⟨b, off, none⟩) L.length cap) L) := by
        rcases HV.out with hn | h
        · rw [hn] at hlt; exact absurd hlt (Nat.not_lt_zero _)
        · exact h
      have HC : Hid (∀ W, G (w.alloc (.cells #[I 0, I 0, I 0, .string E0] 26)) W → W.cell? ⟨b, off + m * 4, none⟩ = some (I q.1) ∧ W.cell? ⟨b, off + m * 4 + 1, none⟩ = some (I q.2.1) ∧ W.cell? ⟨b, off + m * 4 + 2, none⟩ = some (I q.2.2.1) ∧ W.cell? ⟨b, off + m * 4 + 3, none⟩ = some (.string q.2.2.2)) := fun W g => vrow_at (VRow.G HV'.out (((G.refl w).alloc _).trans g)) hq
      have R1 : Hid (q.1 = 0 → noNull (L.take (m + 1)) = noNull (L.take m)) := fun hk => by rw [noNull_snoc hq, hk]; simp
      have R2 : Hid (q.1 ≠ 0 → noNull (L.take (m + 1)) = noNull (L.take m) ++ [q]) := fun hk => by rw [noNull_snoc hq]; simp [hk]
      have R3 : Hid (q.ok = true → (L.take (m + 1)).all Qd.ok = true) := all_snoc hq HA.out
      have R4 : Hid (q.ok = false → L.all Qd.ok = false) := all_no hq
      have hsz := HSL.out q (List.mem_of_getElem? hq)
      have hle := noNull_le L m
      clear hq
      obtain ⟨k, a1, b1, s1⟩ := q
      simp only [Qd.ok] at R1 R2 R3 R4 HC hsz
      have HI : Hid _ := rv_any k a1 b1 s1 hsz
      clear hsz
      obtain ⟨h0, h1, h2, h3⟩ := HC.out wr HG.out
      cases hok : okV k a1 b1 s1
      · have R4' : Hid _ := R4.out hok
        rw [hok] at HI
        clear R1 R2 R3 R4 hok
        go_wp2_with fail
        refine (HI.out _).mono ?_
        rintro e w1 ⟨rfl, hb1⟩
        have HG1 : Hid (G (w.alloc (.cells #[I 0, I 0, I 0, .string E0] 26)) w1) := HG.out.trans hb1
        have cB : ∀ (o : Nat), w1.cell? { block := w.heap.size, off := o } = [I 0, I 0, I 0, Value.string E0][o]? := G.cells HG1.out (fun o => by simp) (by simp)
        have fB : ∀ (o : Nat), w1.frozen? { block := w.heap.size, off := o } = false := G.frozens HG1.out (fun o => by simp) (by simp)
        have gE : G w w1 := ((G.refl w).alloc _).trans HG1.out
        have hq : c = 16 ∧ (qk, qa, qb, qs) = Q0 := by
          rcases HR.out with ⟨h, _⟩ | ⟨_, h⟩
          · rw [R4'.out] at h; cases h
          · exact h
        have HQ : Hid _ := hq
        clear hb1 h0 h1 h2 h3 hq
        go_wp2
        exact bodyPost_ret (v := .tuple #[V0, .int .i64 16]) (by simp [results, Tryz.results52, go_sem, cB]) rfl ⟨by rw [HQ.out.1, HQ.out.2], by repeat (first | exact gE | refine G.setCell ?_ (Nat.le_refl _) _)⟩
      · have R3' : Hid _ := R3.out hok
        rw [hok] at HI
        clear R3 R4 hok
        go_wp2_with fail
        refine (HI.out _).mono ?_
        rintro e w1 ⟨rfl, hb1⟩
        clear h0 h1 h2 h3
        have HG1 : Hid (G (w.alloc (.cells #[I 0, I 0, I 0, .string E0] 26)) w1) := HG.out.trans hb1
        have HO1 : Hid (w1.ownsRow (w.alloc (.cells #[I 0, I 0, I 0, .string E0] 26)).heap.size 26 4 _ (noNull (L.take m)).length (flat (noNull (L.take m)))) := own_G HO.out hb1
        obtain ⟨h0, h1, h2, h3⟩ := HC.out w1 HG1.out
        clear hb1 HG HO
        by_cases hk : k = 0
        · have R1' : Hid _ := R1.out hk
          have hk' : (k != 0) = false := by simp [hk]
          clear R1 R2 hk
          go_wp2
          go_roundw
          case rel => exact ⟨m + 1, by omega, by go_num, HG1.out, by unfold Hid; rw [R1'.out]; exact HO1.out, R3'.out⟩
          case measure => simp [RowKit.intOf]; omega
        · have R2' : Hid _ := R2.out hk
          have hk' : (k != 0) = true := by simpa using hk
          clear R1 R2 hk
          go_wp2_with (at_builtin; refine wpList_append_own _ rfl _ _ 27 rfl (w.alloc (.cells #[I 0, I 0, I 0, .string E0] 26)).heap.size 26 i0 V0 4 40 Tryz.underlying27 hi hz0 hz1 hz2 rfl (by decide) _ _ _ rfl (World.ownsRow.alloc HO1.out _) ⟨w1.heap.size, 0, none⟩ 1 1 [I k, I a1, I b1, .string s1] rfl rfl ?c1 ?c2 ?c3 ?c4 ?c5 ?_)
          case c1 =>
            intro j u hj
            match j, hj with
            | 0, hj => simp at hj; subst hj; simp [Addr.add]
            | 1, hj => simp at hj; subst hj; simp [Addr.add]
            | 2, hj => simp at hj; subst hj; simp [Addr.add]
            | 3, hj => simp at hj; subst hj; simp [Addr.add]
          case c2 =>
            intro u hu
            simp at hu
            rcases hu with rfl | rfl | rfl | rfl <;> rfl
          case c3 => unfold maxLen; omega
          case c4 => omega
          case c5 => have := HG1.out.size; simp at this ⊢; omega
          intro x' w3 hown3 hgrow _
          have HG3 : Hid (G (w.alloc (.cells #[I 0, I 0, I 0, .string E0] 26)) w3) := Below.grown (HG1.out.alloc _) hgrow (by have := HG1.out.size; simp at this ⊢; omega) (fun g hg => (World.ownsRow.lt HO1.out g hg).1)
          have HO3 : Hid (w3.ownsRow (w.alloc (.cells #[I 0, I 0, I 0, .string E0] 26)).heap.size 26 4 x' (noNull (L.take (m + 1))).length (flat (noNull (L.take (m + 1))))) := by
            unfold Hid
            have es : (w.alloc (.cells #[I 0, I 0, I 0, .string E0] 26)).heap.size = w.heap.size + 1 := by simp
            rw [R2'.out, List.length_append, flat_snoc, es]
            exact hown3
          clear hown3 hgrow
          go_wp2
          go_roundw
          case rel => exact ⟨m + 1, by omega, by go_num, HG3.out, HO3.out, R3'.out⟩
          case measure => simp [RowKit.intOf]; omega
    · have e : L.take m = L := List.take_of_length_le (by omega)
      have hFG : GoodD (noNull L) ∧ FR 2 (noNull L) rv c (qk, qa, qb, qs) := by
        have hall := HA.out
        rw [e] at hall
        rcases HR.out with ⟨_, h⟩ | ⟨h, _⟩
        · exact h
        · rw [hall] at h; cases h
      have HSz : Hid (∀ q ∈ noNull L, q.2.2.2.size ≤ 4611686018427387904) := fun q hq => HSL.out q (List.mem_filter.1 hq).1
      rw [e] at HO
      generalize noNull L = D at HO hFG HSz
      have HGd : Hid (GoodD D) := hFG.1
      have HF : Hid (FR 2 D rv c (qk, qa, qb, qs)) := hFG.2
      have HVD : Hid _ := own_vrow HO.out
      obtain ⟨a', cap', hx⟩ := vrow_form HVD.out
      subst hx
      have HGw : Hid (G w wr) := ((G.refl w).alloc _).trans HG.out
      have hcB : ∀ (o : Nat), wr.cell? { block := w.heap.size, off := o } = [I 0, I 0, I 0, Value.string E0][o]? := G.cells HG.out (fun o => by simp) (by simp)
      have hfB : ∀ (o : Nat), wr.frozen? { block := w.heap.size, off := o } = false := G.frozens HG.out (fun o => by simp) (by simp)
      have hzB : w.heap.size < wr.heap.size := by have := HG.out.size; simp at this; omega
      have hDn : D.length ≤ 140737488351232 := HGd.out.2
      clear HG HO HA hFG e hm
      generalize wr = w0 at HVD HGw hcB hfB hzB ⊢
      have HS : Hid _ := fr2 HF.out

      go_wp2_with fail
      refine (sd_any HGd.out HS.out _ _ HVD.out).mono ?_
      rintro e w5 ⟨rfl, hb5⟩
      have cB : ∀ (o : Nat), w5.cell? { block := w.heap.size, off := o } = [I 0, I 0, I 0, Value.string E0][o]? := G.cells hb5 hcB hzB
      have fB : ∀ (o : Nat), w5.frozen? { block := w.heap.size, off := o } = false := G.frozens hb5 hfB hzB
      have gE : G w w5 := HGw.out.trans hb5
      clear hb5 hcB hfB hzB
      go_wp2
      exact bodyPost_ret (v := .tuple #[V qk qa qb qs, .int .i64 c]) (by simp [results, Tryz.results52, go_sem, cB]) rfl ⟨rfl, by repeat (first | exact gE | refine G.setCell ?_ (Nat.le_refl _) _)⟩
set_option maxRecDepth 100000 in
set_option maxHeartbeats 2000000 in
theorem rFold_5 (a : Option Addr) (cap : Nat) (L : List Qd) (w : World) (hV : L = [] ∨ VRow w (.slice a L.length cap) L) (hs : ∀ q ∈ L, q.2.2.2.size ≤ 4611686018427387904) (hn : L.length * 40 ≤ 140737488351232) (rv : Value) (c : Int) (q : Qd)
    (hR : (L.all Qd.ok = true ∧ GoodD (noNull L) ∧ FR 5 (noNull L) rv c q) ∨ (L.all Qd.ok = false ∧ c = 16 ∧ q = Q0)) : Calls Tryz.prog 52 #[.int .i64 5, .slice a L.length cap] w fun e w' => e = .returned (.tuple #[q.W, .int .i64 c]) ∧ G w w' := by
  obtain ⟨i0, hi, hz0, hz1, hz2⟩ := info_parts info_val
  have HV : Hid _ := hV
  have HR : Hid _ := hR
  have HSL : Hid _ := hs
  clear hV hR hs
  obtain ⟨qk, qa, qb, qs⟩ := q
  go_enter Tryz.func52, Tryz.ntmps52
  go_wp2
  go_loopw [6, 7] (fun x i W => ∃ m : Nat, m ≤ L.length ∧ i = .int .i64 m ∧ Hid (G (w.alloc (.cells #[I 0, I 0, I 0, .string E0] 26)) W) ∧ Hid (W.ownsRow (w.alloc (.cells #[I 0, I 0, I 0, .string E0] 26)).heap.size 26 4 x (noNull (L.take m)).length (flat (noNull (L.take m)))) ∧ Hid ((L.take m).all Qd.ok = true)) (fun _ i _ => L.length - (RowKit.intOf i).toNat)
  case atStart => exact ⟨0, by omega, rfl, G.refl _, World.ownsRow_nil _ _ _ _, rfl⟩
  case round =>
    obtain ⟨m, hm, rfl, HG, HO, HA⟩ := hrel
    by_cases hlt : m < L.length
    · obtain ⟨q, hq⟩ : ∃ q, L[m]? = some q := ⟨L[m], List.getElem?_eq_getElem hlt⟩
      obtain ⟨b, off, ea⟩ : ∃ b off, a = some ⟨b, off, none⟩ := by
        rcases HV.out with hn | ⟨h, hn⟩ | ⟨b, off, cap2, h, _⟩
        · rw [hn] at hlt; exact absurd hlt (Nat.not_lt_zero _)
        · rw [hn] at hlt; exact absurd hlt (Nat.not_lt_zero _)
        · injection h with h _ _; exact ⟨b, off, h⟩
      subst ea
      have HV' : Hid (VRow w (.slice (some ⟨b, off, none⟩) L.length cap) L) := by
        rcases HV.out with hn | h
        · rw [hn] at hlt; exact absurd hlt (Nat.not_lt_zero _)
        · exact h
      have HC : Hid (∀ W, G (w.alloc (.cells #[I 0, I 0, I 0, .string E0] 26)) W → W.cell? ⟨b, off + m * 4, none⟩ = some (I q.1) ∧ W.cell? ⟨b, off + m * 4 + 1, none⟩ = some (I q.2.1) ∧ W.cell? ⟨b, off + m * 4 + 2, none⟩ = some (I q.2.2.1) ∧ W.cell? ⟨b, off + m * 4 + 3, none⟩ = some (.string q.2.2.2)) := fun W g => vrow_at (VRow.G HV'.out (((G.refl w).alloc _).trans g)) hq
      have R1 : Hid (q.1 = 0 → noNull (L.take (m + 1)) = noNull (L.take m)) := fun hk => by rw [noNull_snoc hq, hk]; simp
      have R2 : Hid (q.1 ≠ 0 → noNull (L.take (m + 1)) = noNull (L.take m) ++ [q]) := fun hk => by rw [noNull_snoc hq]; simp [hk]
      have R3 : Hid (q.ok = true → (L.take (m + 1)).all Qd.ok = true) := all_snoc hq HA.out
      have R4 : Hid (q.ok = false → L.all Qd.ok = false) := all_no hq
      have hsz := HSL.out q (List.mem_of_getElem? hq)
      have hle := noNull_le L m
      clear hq
      obtain ⟨k, a1, b1, s1⟩ := q
      simp only [Qd.ok] at R1 R2 R3 R4 HC hsz
      have HI : Hid _ := rv_any k a1 b1 s1 hsz
      clear hsz
      obtain ⟨h0, h1, h2, h3⟩ := HC.out wr HG.out
      cases hok : okV k a1 b1 s1
      · have R4' : Hid _ := R4.out hok
        rw [hok] at HI
        clear R1 R2 R3 R4 hok
        go_wp2_with fail
        refine (HI.out _).mono ?_
        rintro e w1 ⟨rfl, hb1⟩
        have HG1 : Hid (G (w.alloc (.cells #[I 0, I 0, I 0, .string E0] 26)) w1) := HG.out.trans hb1
        have cB : ∀ (o : Nat), w1.cell? { block := w.heap.size, off := o } = [I 0, I 0, I 0, Value.string E0][o]? := G.cells HG1.out (fun o => by simp) (by simp)
        have fB : ∀ (o : Nat), w1.frozen? { block := w.heap.size, off := o } = false := G.frozens HG1.out (fun o => by simp) (by simp)
        have gE : G w w1 := ((G.refl w).alloc _).trans HG1.out
        have hq : c = 16 ∧ (qk, qa, qb, qs) = Q0 := by
          rcases HR.out with ⟨h, _⟩ | ⟨_, h⟩
          · rw [R4'.out] at h; cases h
          · exact h
        have HQ : Hid _ := hq
        clear hb1 h0 h1 h2 h3 hq
        go_wp2
        exact bodyPost_ret (v := .tuple #[V0, .int .i64 16]) (by simp [results, Tryz.results52, go_sem, cB]) rfl ⟨by rw [HQ.out.1, HQ.out.2], by repeat (first | exact gE | refine G.setCell ?_ (Nat.le_refl _) _)⟩
      · have R3' : Hid _ := R3.out hok
        rw [hok] at HI
        clear R3 R4 hok
        go_wp2_with fail
        refine (HI.out _).mono ?_
        rintro e w1 ⟨rfl, hb1⟩
        clear h0 h1 h2 h3
        have HG1 : Hid (G (w.alloc (.cells #[I 0, I 0, I 0, .string E0] 26)) w1) := HG.out.trans hb1
        have HO1 : Hid (w1.ownsRow (w.alloc (.cells #[I 0, I 0, I 0, .string E0] 26)).heap.size 26 4 _ (noNull (L.take m)).length (flat (noNull (L.take m)))) := own_G HO.out hb1
        obtain ⟨h0, h1, h2, h3⟩ := HC.out w1 HG1.out
        clear hb1 HG HO
        by_cases hk : k = 0
        · have R1' : Hid _ := R1.out hk
          have hk' : (k != 0) = false := by simp [hk]
          clear R1 R2 hk
          go_wp2
          go_roundw
          case rel => exact ⟨m + 1, by omega, by go_num, HG1.out, by unfold Hid; rw [R1'.out]; exact HO1.out, R3'.out⟩
          case measure => simp [RowKit.intOf]; omega
        · have R2' : Hid _ := R2.out hk
          have hk' : (k != 0) = true := by simpa using hk
          clear R1 R2 hk
          go_wp2_with (at_builtin; refine wpList_append_own _ rfl _ _ 27 rfl (w.alloc (.cells #[I 0, I 0, I 0, .string E0] 26)).heap.size 26 i0 V0 4 40 Tryz.underlying27 hi hz0 hz1 hz2 rfl (by decide) _ _ _ rfl (World.ownsRow.alloc HO1.out _) ⟨w1.heap.size, 0, none⟩ 1 1 [I k, I a1, I b1, .string s1] rfl rfl ?c1 ?c2 ?c3 ?c4 ?c5 ?_)
          case c1 =>
            intro j u hj
            match j, hj with
            | 0, hj => simp at hj; subst hj; simp [Addr.add]
            | 1, hj => simp at hj; subst hj; simp [Addr.add]
            | 2, hj => simp at hj; subst hj; simp [Addr.add]
            | 3, hj => simp at hj; subst hj; simp [Addr.add]
          case c2 =>
            intro u hu
            simp at hu
            rcases hu with rfl | rfl | rfl | rfl <;> rfl
          case c3 => unfold maxLen; omega
          case c4 => omega
          case c5 => have := HG1.out.size; simp at this ⊢; omega
          intro x' w3 hown3 hgrow _
          have HG3 : Hid (G (w.alloc (.cells #[I 0, I 0, I 0, .string E0] 26)) w3) := Below.grown (HG1.out.alloc _) hgrow (by have := HG1.out.size; simp at this ⊢; omega) (fun g hg => (World.ownsRow.lt HO1.out g hg).1)
          have HO3 : Hid (w3.ownsRow (w.alloc (.cells #[I 0, I 0, I 0, .string E0] 26)).heap.size 26 4 x' (noNull (L.take (m + 1))).length (flat (noNull (L.take (m + 1))))) := by
            unfold Hid
            have es : (w.alloc (.cells #[I 0, I 0, I 0, .string E0] 26)).heap.size = w.heap.size + 1 := by simp
            rw [R2'.out, List.length_append, flat_snoc, es]
            exact hown3
          clear hown3 hgrow
          go_wp2
          go_roundw
          case rel => exact ⟨m + 1, by omega, by go_num, HG3.out, HO3.out, R3'.out⟩
          case measure => simp [RowKit.intOf]; omega
    · have e : L.take m = L := List.take_of_length_le (by omega)
      have hFG : GoodD (noNull L) ∧ FR 5 (noNull L) rv c (qk, qa, qb, qs) := by
        have hall := HA.out
        rw [e] at hall
        rcases HR.out with ⟨_, h⟩ | ⟨h, _⟩
        · exact h
        · rw [hall] at h; cases h
      have HSz : Hid (∀ q ∈ noNull L, q.2.2.2.size ≤ 4611686018427387904) := fun q hq => HSL.out q (List.mem_filter.1 hq).1
      rw [e] at HO
      generalize noNull L = D at HO hFG HSz
      have HGd : Hid (GoodD D) := hFG.1
      have HF : Hid (FR 5 D rv c (qk, qa, qb, qs)) := hFG.2
      have HVD : Hid _ := own_vrow HO.out
      obtain ⟨a', cap', hx⟩ := vrow_form HVD.out
      subst hx
      have HGw : Hid (G w wr) := ((G.refl w).alloc _).trans HG.out
      have hcB : ∀ (o : Nat), wr.cell? { block := w.heap.size, off := o } = [I 0, I 0, I 0, Value.string E0][o]? := G.cells HG.out (fun o => by simp) (by simp)
      have hfB : ∀ (o : Nat), wr.frozen? { block := w.heap.size, off := o } = false := G.frozens HG.out (fun o => by simp) (by simp)
      have hzB : w.heap.size < wr.heap.size := by have := HG.out.size; simp at this; omega
      have hDn : D.length ≤ 140737488351232 := HGd.out.2
      clear HG HO HA hFG e hm
      generalize wr = w0 at HVD HGw hcB hfB hzB ⊢
      go_wp2_with fail
      refine (mn_any HGd.out HF.out _ _ HVD.out).mono ?_
      rintro e w5 ⟨rfl, hb5⟩
      have cB : ∀ (o : Nat), w5.cell? { block := w.heap.size, off := o } = [I 0, I 0, I 0, Value.string E0][o]? := G.cells hb5 hcB hzB
      have fB : ∀ (o : Nat), w5.frozen? { block := w.heap.size, off := o } = false := G.frozens hb5 hfB hzB
      have gE : G w w5 := HGw.out.trans hb5
      clear hb5 hcB hfB hzB
      go_wp2
      exact bodyPost_ret (v := .tuple #[V qk qa qb qs, .int .i64 c]) (by simp [results, Tryz.results52, go_sem, cB]) rfl ⟨rfl, by repeat (first | exact gE | refine G.setCell ?_ (Nat.le_refl _) _)⟩
end Go.Proofs.YtnoajhegcjoebabGreatDoor
