/- puts, last. -/
import Derived.Test.YtbjbphhcmmaaoaaCr1
namespace Go.Proofs.Ytbjbphhcmmaaoaa
open Go.RowKit

/-- What operations on one disk leave. -/
def Om (w : World) (q : Addr) (F : Nat → Prop) (m' : DM) (B : Nat) (w' : World) : Prop := ∃ F', SlP w' F' (.pointer (some q)) (some m') ∧ m'.few B ∧ Chg F w w' ∧ (∀ k, F' k → F k ∨ (w.heap.size ≤ k ∧ k < w'.heap.size))
theorem Om.then {w w1 w2 w3 : World} {q : Addr} {F F1 : Nat → Prop} {m2 : DM} {B2 : Nat} (c : Chg F w w1) (s : ∀ k, F1 k → F k ∨ (w.heap.size ≤ k ∧ k < w1.heap.size)) (g : G w1 w2) (h : Om w2 q F1 m2 B2 w3) : Om w q F m2 B2 w3 := by
  obtain ⟨F', h1, h2, h3, h4⟩ := h
  have z1 := c.size
  have z2 := g.size
  have z3 := h3.size
  refine ⟨F', h1, h2, (c.trans g.chg).more h3 (fun i hi e => ?_), fun k hk => ?_⟩
  · rcases s i e with x | x
    · exact x
    · omega
  · rcases h4 k hk with x | x
    · rcases s k x with y | y
      · exact .inl y
      · exact .inr (by omega)
    · exact .inr (by omega)
theorem One.om {w w' : World} {q : Addr} {F : Nat → Prop} {m' : DM} {B B' : Nat} (h : One w q F m' B w') (hf : m'.few B') : Om w q F m' B' w' := by
  obtain ⟨F', h1, _, h3, h4⟩ := h
  exact ⟨F', h1, hf, h3, h4⟩
theorem Om.less {w w' : World} {q : Addr} {F : Nat → Prop} {m' : DM} {B B' : Nat} (h : Om w q F m' B w') (hf : B ≤ B') : Om w q F m' B' w' := by
  obtain ⟨F', h1, h2, h3, h4⟩ := h
  exact ⟨F', h1, ⟨Nat.le_trans h2.w hf, Nat.le_trans h2.f hf, Nat.le_trans h2.p hf⟩, h3, h4⟩
/-- A list of writes, in memory. -/
def PuC (w : World) (b off L : Nat) (E : Nat → Pu) : Prop := ∀ i, i < L → w.cell? ⟨b, off + i * 2, none⟩ = some (I (E i).at') ∧ w.cell? ⟨b, off + i * 2 + 1, none⟩ = some (bv (E i).fill)
def PuS (w : World) (v : Value) (L : Nat) (E : Nat → Pu) : Prop := ∃ a cap, v = .slice a L cap ∧ (L = 0 ∨ ∃ b off, a = some ⟨b, off, none⟩ ∧ PuC w b off L E)
theorem PuC.chg {F : Nat → Prop} {w w' : World} {b off L : Nat} {E : Nat → Pu} (h : PuC w b off L E) (k : Chg F w w') (hF : ¬ F b) : PuC w' b off L E := fun i hi => ⟨cell_chg (h i hi).1 k hF, cell_chg (h i hi).2 k hF⟩
theorem PuC.G {w w' : World} {b off L : Nat} {E : Nat → Pu} (h : PuC w b off L E) (k : Go.Proofs.Ytbjbphhcmmaaoaa.G w w') : PuC w' b off L E := h.chg (F := fun _ => False) k.chg (fun h => h)
theorem PuS.chg {F : Nat → Prop} {w w' : World} {v : Value} {L : Nat} {E : Nat → Pu} (h : PuS w v L E) (k : Chg F w w') (hF : ∀ j, Value.blk v j → ¬ F j) : PuS w' v L E := by
  obtain ⟨a, cap, rfl, h⟩ := h
  refine ⟨a, cap, rfl, ?_⟩
  by_cases h0 : L = 0
  · exact .inl h0
  · obtain ⟨b, off, rfl, hc⟩ := h.resolve_left h0
    exact .inr ⟨b, off, rfl, hc.chg k (hF b ⟨_, _, _, rfl, by omega, rfl⟩)⟩
theorem PuS.G {w w' : World} {v : Value} {L : Nat} {E : Nat → Pu} (h : PuS w v L E) (k : Go.Proofs.Ytbjbphhcmmaaoaa.G w w') : PuS w' v L E := h.chg (F := fun _ => False) k.chg (fun _ _ h => h)
theorem One.two {w w' : World} {q : Addr} {F : Nat → Prop} {m' : DM} {B b o1 o2 : Nat} {v1 v2 : Value} (h : One w q F m' B w') (hc : w.cell? ⟨b, o1, none⟩ = some v1 ∧ w.cell? ⟨b, o2, none⟩ = some v2) (hb : ¬ F b) : w'.cell? ⟨b, o1, none⟩ = some v1 ∧ w'.cell? ⟨b, o2, none⟩ = some v2 := by
  obtain ⟨_, _, _, h3, _⟩ := h
  exact ⟨cell_chg hc.1 h3 hb, cell_chg hc.2 h3 hb⟩
set_option maxRecDepth 100000 in
set_option maxHeartbeats 4000000 in
theorem puts_any (q : Addr) (F : Nat → Prop) (m : DM) (B n : Nat) (hn : m.n = n) (hon : m.on) (hB : m.few B) (v : Value) (L : Nat) (hL : L ≤ 1048576) (hBB : B + L ≤ 549755813888) (E : Nat → Pu) (w : World) (hv : PuS w v L E) (hvF : ∀ j, Value.blk v j → ¬ F j) (h : SlP w F (.pointer (some q)) (some m)) (hFl : ∀ k, F k → k < w.heap.size) :
    Calls Try.prog 24 #[.pointer (some q), .int .i64 n, v] w fun e w' => e = .returned (.bool true) ∧ Om w q F (putM m (vals n E L)) (B + L) w' := by
  obtain ⟨a, cap, rfl, hv⟩ := hv
  have HV := hide hv
  have HVF := hide hvF
  have HON := hide hon
  have HFL := hide hFl
  have HN := hide hn
  have H0 : Hid (Om w q F (putM m (vals n E 0)) (B + 0) w) := ⟨F, by show SlP w F _ (some (putM m [])); rw [putM_nil]; exact h, by show (putM m []).few B; rw [putM_nil]; exact hB, Chg.refl _ _, fun k hk => .inl hk⟩
  clear hv hvF hon hFl hn h
  go_enter Try.func24, Try.ntmps24
  go_wp2_with fail
  go_loopw [7, 8, 9] (fun i _ _ W => ∃ k : Nat, k ≤ L ∧ i = .int .i64 k ∧ Om w q F (putM m (vals n E k)) (B + k) W) (fun i _ _ _ => L - (RowKit.intOf i).toNat)
  case atStart => exact ⟨0, by omega, rfl, H0.out⟩
  case round =>
    obtain ⟨k, hk, rfl, hom⟩ := hrel
    clear H0
    by_cases hlt : k < L
    · obtain ⟨b, off, rfl, hpc⟩ := HV.out.resolve_left (by omega)
      have hnb : ¬ F b := HVF.out b ⟨_, _, _, rfl, by omega, rfl⟩
      have hbl : b < w.heap.size := World.block_lt_of_cell? _ _ (hpc k hlt).1
      obtain ⟨F1, hs1, hf1, hc1, hu1⟩ := hom
      have HK := hide ((hpc.chg hc1 hnb) k hlt)
      have HNB : Hid (¬ F1 b) := fun e => (hu1 b e).elim hnb (fun x => by omega)
      have HS1 := hide hs1
      have HFW := hide hf1
      have HC1 := hide hc1
      have HU1 := hide hu1
      have HY := hide (vals_yes (n := n) (E := E) (i := k))
      have HZ := hide (vals_no (n := n) (E := E) (i := k))
      generalize (E k).at' = a at HK HY HZ
      generalize (E k).fill = f at HK HY
      clear hpc hnb hs1 hf1 hc1 hu1 HV HVF
      have hkI : (k : Int) < (L : Int) := by omega
      have HMN : Hid ((putM m (vals n E k)).n = n) := HN.out
      by_cases hin : 0 ≤ a ∧ a < n
      · have HWR : Hid ((putM m (vals n E k)).write a (flL f) = (putM (putM m (vals n E k)) [(a.toNat, flL f)], 0)) := write_on (putM_on HON.out _) (by rw [HMN.out]; exact hin) (flL_len f)
        obtain ⟨hi1, hi2⟩ := hin
        obtain ⟨hc1, hc2⟩ := HK.out
        go_wp2_with fail
        clear hc1 hc2
        refine wp_region_noPanic ?_
        refine wp_region_held_drew (S := (fun W => W.cell? ⟨b, off + k * 2, none⟩ = some (I a) ∧ W.cell? ⟨b, off + k * 2 + 1, none⟩ = some (bv f))) (by kernel_rfl) (⟨HK.out.1, HK.out.2⟩) (fun hHeld => ?_)
        refine wpAnyH_take (i := 0) (v := ?_) rfl (by kernel_rfl) (by kernel_rfl) (by kernel_rfl) (fun _ _ _ h => h) (Or.inl ⟨by rfl, ?_⟩) hHeld ?_
        rotate_left 1
        · (intro w hSw; (try dsimp only at hSw); go_simp; try with_reducible rfl)
        try simp only [Act.put, List.getElem_toArray, List.getElem_cons_zero, List.setIfInBounds_toArray, List.set_cons_zero, List.set_cons_succ]
        refine wpAnyH_take (i := 1) (v := ?_) rfl (by kernel_rfl) (by kernel_rfl) (by kernel_rfl) (fun _ _ _ h => h) (Or.inl ⟨by rfl, ?_⟩) hHeld ?_
        rotate_left 1
        · (intro w hSw; (try dsimp only at hSw); go_simp; try with_reducible rfl)
        try simp only [Act.put, List.getElem_toArray, List.getElem_cons_zero, List.getElem_cons_succ, List.setIfInBounds_toArray, List.set_cons_zero, List.set_cons_succ]
        refine wpAnyH_take (i := 2) (v := ?_) rfl (by kernel_rfl) (by kernel_rfl) (by kernel_rfl) (fun _ _ _ h => h) (Or.inl ⟨by rfl, ?_⟩) hHeld ?_
        rotate_left 1
        · (intro w hSw; (try dsimp only at hSw); go_simp; try with_reducible rfl)
        try simp only [Act.put, List.getElem_toArray, List.getElem_cons_zero, List.getElem_cons_succ, List.setIfInBounds_toArray, List.set_cons_zero, List.set_cons_succ]
        refine wpAnyH_take (i := 3) (v := ?_) rfl (by kernel_rfl) (by kernel_rfl) (by kernel_rfl) (fun _ _ _ h => h) (Or.inl ⟨by rfl, ?_⟩) hHeld ?_
        rotate_left 1
        · (intro w hSw; (try dsimp only at hSw); go_simp; try with_reducible rfl)
        try simp only [Act.put, List.getElem_toArray, List.getElem_cons_zero, List.getElem_cons_succ, List.setIfInBounds_toArray, List.set_cons_zero, List.set_cons_succ]
        refine wpAnyH_take (i := 4) (v := ?_) rfl (by kernel_rfl) (by kernel_rfl) (by kernel_rfl) (fun _ _ _ h => h) (Or.inl ⟨by rfl, ?_⟩) hHeld ?_
        rotate_left 1
        · (intro w hSw; (try dsimp only at hSw); go_simp; try with_reducible rfl)
        try simp only [Act.put, List.getElem_toArray, List.getElem_cons_zero, List.getElem_cons_succ, List.setIfInBounds_toArray, List.set_cons_zero, List.set_cons_succ]
        refine wpAnyH_take (i := 5) (v := ?_) rfl (by kernel_rfl) (by kernel_rfl) (by kernel_rfl) (fun _ _ _ h => h) (Or.inl ⟨by rfl, ?_⟩) hHeld ?_
        rotate_left 1
        · (intro w hSw; obtain ⟨q1, q2⟩ := hSw; go_simp; try with_reducible rfl)
        try simp only [Act.put, List.getElem_toArray, List.getElem_cons_zero, List.getElem_cons_succ, List.setIfInBounds_toArray, List.set_cons_zero, List.set_cons_succ]
        refine wpAnyH_take (i := 6) (v := ?_) rfl (by kernel_rfl) (by kernel_rfl) (by kernel_rfl) (fun _ _ _ h => h) (Or.inl ⟨by rfl, ?_⟩) hHeld ?_
        rotate_left 1
        · (intro w hSw; (try dsimp only at hSw); go_simp; try with_reducible rfl)
        try simp only [Act.put, List.getElem_toArray, List.getElem_cons_zero, List.getElem_cons_succ, List.setIfInBounds_toArray, List.set_cons_zero, List.set_cons_succ]
        refine wpAnyH_take (i := 7) (v := ?_) rfl (by kernel_rfl) (by kernel_rfl) (by kernel_rfl) (fun _ _ _ h => h) (Or.inl ⟨by rfl, ?_⟩) hHeld ?_
        rotate_left 1
        · (intro w hSw; (try dsimp only at hSw); go_simp; try with_reducible rfl)
        try simp only [Act.put, List.getElem_toArray, List.getElem_cons_zero, List.getElem_cons_succ, List.setIfInBounds_toArray, List.set_cons_zero, List.set_cons_succ]
        refine wpAnyH_take (i := 8) (v := ?_) rfl (by kernel_rfl) (by kernel_rfl) (by kernel_rfl) (fun _ _ _ h => h) (Or.inl ⟨by rfl, ?_⟩) hHeld ?_
        rotate_left 1
        · (intro w hSw; (try dsimp only at hSw); go_simp; try with_reducible rfl)
        try simp only [Act.put, List.getElem_toArray, List.getElem_cons_zero, List.getElem_cons_succ, List.setIfInBounds_toArray, List.set_cons_zero, List.set_cons_succ]
        refine wpAnyH_take (i := 9) (v := ?_) rfl (by kernel_rfl) (by kernel_rfl) (by kernel_rfl) (fun _ _ _ h => h) (Or.inl ⟨by rfl, ?_⟩) hHeld ?_
        rotate_left 1
        · (intro w hSw; (try dsimp only at hSw); go_simp; try with_reducible rfl)
        try simp only [Act.put, List.getElem_toArray, List.getElem_cons_zero, List.getElem_cons_succ, List.setIfInBounds_toArray, List.set_cons_zero, List.set_cons_succ]
        refine wpAnyH_take (i := 10) (v := ?_) rfl (by kernel_rfl) (by kernel_rfl) (by kernel_rfl) (fun _ _ _ h => h) (Or.inl ⟨by rfl, ?_⟩) hHeld ?_
        rotate_left 1
        · (intro w hSw; obtain ⟨q1, q2⟩ := hSw; go_simp; try with_reducible rfl)
        try simp only [Act.put, List.getElem_toArray, List.getElem_cons_zero, List.getElem_cons_succ, List.setIfInBounds_toArray, List.set_cons_zero, List.set_cons_succ]
        refine wpAnyH_ready (rs := [11]) (by kernel_rfl) (by simp) (AllReadyH.cons rfl (fun K hK => ?_) AllReadyH.nil)
        clear hHeld
        go_simp
        with_reducible refine (filled_any f _).mono ?_
        rintro e' w3 ⟨x3, rfl, hg3, hb3, hf3⟩
        have HG3 := hide (G.trans (G.drew (G.refl _)) hg3)
        have HB3 := hide hb3
        have HF3 := hide hf3
        clear hg3 hb3 hf3
        go_wp2_with fail
        refine hK.out _ _ (⟨cell_chg HK.out.1 HG3.out.chg (F := fun _ => False) (fun h => h), cell_chg HK.out.2 HG3.out.chg (F := fun _ => False) (fun h => h)⟩) (fun hHeld => ?_)
        clear hK K
        try simp only [Act.put, List.getElem_toArray, List.getElem_cons_zero, List.getElem_cons_succ, List.setIfInBounds_toArray, List.set_cons_zero, List.set_cons_succ]
        refine wpAnyH_ready (rs := [12]) (by kernel_rfl) (by simp) (AllReadyH.cons rfl (fun K hK => ?_) AllReadyH.nil)
        clear hHeld
        go_simp
        with_reducible refine (o_write q F1 (putM m (vals n E k)) (B + k) (by omega) HFW.out x3 a (flL f) (flL_lt f) _ ?_ ?_ ?_).mono ?_
        exact HS1.out.G HG3.out
        exact HB3.out
        exact (fun j hj e => by have h1 := HF3.out j hj; have h5 : j < wr.heap.size := (HU1.out j e).elim (fun x => Nat.lt_of_lt_of_le (HFL.out j x) HC1.out.size) (fun x => x.2); simp only [World.drew] at h1; omega)
        rw [HWR.out]
        rintro e' w4 ⟨rfl, hone⟩
        have HN4 := hide (hone.back HG3.out)
        clear hone
        go_wp2_with fail
        refine hK.out _ _ ((One.two HN4.out HK.out HNB.out)) (fun hHeld => ?_)
        clear hK K
        try simp only [Act.put, List.getElem_toArray, List.getElem_cons_zero, List.getElem_cons_succ, List.setIfInBounds_toArray, List.set_cons_zero, List.set_cons_succ]
        refine wpAnyH_take (i := 13) (v := ?_) rfl (by kernel_rfl) (by kernel_rfl) (by kernel_rfl) (fun _ _ _ h => h) (Or.inl ⟨by rfl, ?_⟩) hHeld ?_
        rotate_left 1
        · (intro w hSw; (try dsimp only at hSw); go_simp; try with_reducible rfl)
        try simp only [Act.put, List.getElem_toArray, List.getElem_cons_zero, List.getElem_cons_succ, List.setIfInBounds_toArray, List.set_cons_zero, List.set_cons_succ]
        refine wpAnyH_done (by kernel_rfl) ?_ _
        refine NoPanic.normal ?_
        have HOM : Hid (Om w q F (putM m (vals n E (k + 1))) (B + (k + 1)) w4) := by
          have h1 := Om.then HC1.out HU1.out (G.refl _) (HN4.out.om (B' := B + (k + 1)) ?_)
          · rw [HY.out ⟨hi1, hi2⟩, ← putM_put]; exact h1
          · have h2 := HFW.out; exact ⟨by have := h2.w; simp [putM] at this ⊢; omega, by have := h2.f; simp [putM] at this ⊢; omega, by have := h2.p; simp [putM] at this ⊢; omega⟩
        obtain ⟨hc1, hc2⟩ := (One.two HN4.out HK.out HNB.out)
        clear HN4 HWR HG3 HB3 HF3
        go_wp2
        go_roundw
        case rel => exact ⟨k + 1, by omega, by go_num, HOM.out⟩
        case measure => simp [RowKit.intOf]; omega
      · have HWR : Hid ((putM m (vals n E k)).write a (flL f) = (putM m (vals n E k), 20)) := write_off (by rw [HMN.out]; exact hin) _
        by_cases hi1 : 0 ≤ a
        · have hi2 : ¬ a < n := fun h => hin ⟨hi1, h⟩
          have HIN := hide hin
          clear hin
          obtain ⟨hc1, hc2⟩ := HK.out
          go_wp2_with fail
          clear hc1 hc2
          refine wp_region_noPanic ?_
          refine wp_region_held_drew (S := (fun W => W.cell? ⟨b, off + k * 2, none⟩ = some (I a) ∧ W.cell? ⟨b, off + k * 2 + 1, none⟩ = some (bv f))) (by kernel_rfl) (⟨HK.out.1, HK.out.2⟩) (fun hHeld => ?_)
          refine wpAnyH_take (i := 0) (v := ?_) rfl (by kernel_rfl) (by kernel_rfl) (by kernel_rfl) (fun _ _ _ h => h) (Or.inl ⟨by rfl, ?_⟩) hHeld ?_
          rotate_left 1
          · (intro w hSw; (try dsimp only at hSw); go_simp; try with_reducible rfl)
          try simp only [Act.put, List.getElem_toArray, List.getElem_cons_zero, List.setIfInBounds_toArray, List.set_cons_zero, List.set_cons_succ]
          refine wpAnyH_take (i := 1) (v := ?_) rfl (by kernel_rfl) (by kernel_rfl) (by kernel_rfl) (fun _ _ _ h => h) (Or.inl ⟨by rfl, ?_⟩) hHeld ?_
          rotate_left 1
          · (intro w hSw; (try dsimp only at hSw); go_simp; try with_reducible rfl)
          try simp only [Act.put, List.getElem_toArray, List.getElem_cons_zero, List.getElem_cons_succ, List.setIfInBounds_toArray, List.set_cons_zero, List.set_cons_succ]
          refine wpAnyH_take (i := 2) (v := ?_) rfl (by kernel_rfl) (by kernel_rfl) (by kernel_rfl) (fun _ _ _ h => h) (Or.inl ⟨by rfl, ?_⟩) hHeld ?_
          rotate_left 1
          · (intro w hSw; (try dsimp only at hSw); go_simp; try with_reducible rfl)
          try simp only [Act.put, List.getElem_toArray, List.getElem_cons_zero, List.getElem_cons_succ, List.setIfInBounds_toArray, List.set_cons_zero, List.set_cons_succ]
          refine wpAnyH_take (i := 3) (v := ?_) rfl (by kernel_rfl) (by kernel_rfl) (by kernel_rfl) (fun _ _ _ h => h) (Or.inl ⟨by rfl, ?_⟩) hHeld ?_
          rotate_left 1
          · (intro w hSw; (try dsimp only at hSw); go_simp; try with_reducible rfl)
          try simp only [Act.put, List.getElem_toArray, List.getElem_cons_zero, List.getElem_cons_succ, List.setIfInBounds_toArray, List.set_cons_zero, List.set_cons_succ]
          refine wpAnyH_take (i := 4) (v := ?_) rfl (by kernel_rfl) (by kernel_rfl) (by kernel_rfl) (fun _ _ _ h => h) (Or.inl ⟨by rfl, ?_⟩) hHeld ?_
          rotate_left 1
          · (intro w hSw; (try dsimp only at hSw); go_simp; try with_reducible rfl)
          try simp only [Act.put, List.getElem_toArray, List.getElem_cons_zero, List.getElem_cons_succ, List.setIfInBounds_toArray, List.set_cons_zero, List.set_cons_succ]
          refine wpAnyH_take (i := 5) (v := ?_) rfl (by kernel_rfl) (by kernel_rfl) (by kernel_rfl) (fun _ _ _ h => h) (Or.inl ⟨by rfl, ?_⟩) hHeld ?_
          rotate_left 1
          · (intro w hSw; obtain ⟨q1, q2⟩ := hSw; go_simp; try with_reducible rfl)
          try simp only [Act.put, List.getElem_toArray, List.getElem_cons_zero, List.getElem_cons_succ, List.setIfInBounds_toArray, List.set_cons_zero, List.set_cons_succ]
          refine wpAnyH_take (i := 6) (v := ?_) rfl (by kernel_rfl) (by kernel_rfl) (by kernel_rfl) (fun _ _ _ h => h) (Or.inl ⟨by rfl, ?_⟩) hHeld ?_
          rotate_left 1
          · (intro w hSw; (try dsimp only at hSw); go_simp; try with_reducible rfl)
          try simp only [Act.put, List.getElem_toArray, List.getElem_cons_zero, List.getElem_cons_succ, List.setIfInBounds_toArray, List.set_cons_zero, List.set_cons_succ]
          refine wpAnyH_take (i := 7) (v := ?_) rfl (by kernel_rfl) (by kernel_rfl) (by kernel_rfl) (fun _ _ _ h => h) (Or.inl ⟨by rfl, ?_⟩) hHeld ?_
          rotate_left 1
          · (intro w hSw; (try dsimp only at hSw); go_simp; try with_reducible rfl)
          try simp only [Act.put, List.getElem_toArray, List.getElem_cons_zero, List.getElem_cons_succ, List.setIfInBounds_toArray, List.set_cons_zero, List.set_cons_succ]
          refine wpAnyH_take (i := 8) (v := ?_) rfl (by kernel_rfl) (by kernel_rfl) (by kernel_rfl) (fun _ _ _ h => h) (Or.inl ⟨by rfl, ?_⟩) hHeld ?_
          rotate_left 1
          · (intro w hSw; (try dsimp only at hSw); go_simp; try with_reducible rfl)
          try simp only [Act.put, List.getElem_toArray, List.getElem_cons_zero, List.getElem_cons_succ, List.setIfInBounds_toArray, List.set_cons_zero, List.set_cons_succ]
          refine wpAnyH_take (i := 9) (v := ?_) rfl (by kernel_rfl) (by kernel_rfl) (by kernel_rfl) (fun _ _ _ h => h) (Or.inl ⟨by rfl, ?_⟩) hHeld ?_
          rotate_left 1
          · (intro w hSw; (try dsimp only at hSw); go_simp; try with_reducible rfl)
          try simp only [Act.put, List.getElem_toArray, List.getElem_cons_zero, List.getElem_cons_succ, List.setIfInBounds_toArray, List.set_cons_zero, List.set_cons_succ]
          refine wpAnyH_take (i := 10) (v := ?_) rfl (by kernel_rfl) (by kernel_rfl) (by kernel_rfl) (fun _ _ _ h => h) (Or.inl ⟨by rfl, ?_⟩) hHeld ?_
          rotate_left 1
          · (intro w hSw; obtain ⟨q1, q2⟩ := hSw; go_simp; try with_reducible rfl)
          try simp only [Act.put, List.getElem_toArray, List.getElem_cons_zero, List.getElem_cons_succ, List.setIfInBounds_toArray, List.set_cons_zero, List.set_cons_succ]
          refine wpAnyH_ready (rs := [11]) (by kernel_rfl) (by simp) (AllReadyH.cons rfl (fun K hK => ?_) AllReadyH.nil)
          clear hHeld
          go_simp
          with_reducible refine (filled_any f _).mono ?_
          rintro e' w3 ⟨x3, rfl, hg3, hb3, hf3⟩
          have HG3 := hide (G.trans (G.drew (G.refl _)) hg3)
          have HB3 := hide hb3
          have HF3 := hide hf3
          clear hg3 hb3 hf3
          go_wp2_with fail
          refine hK.out _ _ (⟨cell_chg HK.out.1 HG3.out.chg (F := fun _ => False) (fun h => h), cell_chg HK.out.2 HG3.out.chg (F := fun _ => False) (fun h => h)⟩) (fun hHeld => ?_)
          clear hK K
          try simp only [Act.put, List.getElem_toArray, List.getElem_cons_zero, List.getElem_cons_succ, List.setIfInBounds_toArray, List.set_cons_zero, List.set_cons_succ]
          refine wpAnyH_ready (rs := [12]) (by kernel_rfl) (by simp) (AllReadyH.cons rfl (fun K hK => ?_) AllReadyH.nil)
          clear hHeld
          go_simp
          with_reducible refine (o_write q F1 (putM m (vals n E k)) (B + k) (by omega) HFW.out x3 a (flL f) (flL_lt f) _ ?_ ?_ ?_).mono ?_
          exact HS1.out.G HG3.out
          exact HB3.out
          exact (fun j hj e => by have h1 := HF3.out j hj; have h5 : j < wr.heap.size := (HU1.out j e).elim (fun x => Nat.lt_of_lt_of_le (HFL.out j x) HC1.out.size) (fun x => x.2); simp only [World.drew] at h1; omega)
          rw [HWR.out]
          rintro e' w4 ⟨rfl, hone⟩
          have HN4 := hide (hone.back HG3.out)
          clear hone
          go_wp2_with fail
          refine hK.out _ _ ((One.two HN4.out HK.out HNB.out)) (fun hHeld => ?_)
          clear hK K
          try simp only [Act.put, List.getElem_toArray, List.getElem_cons_zero, List.getElem_cons_succ, List.setIfInBounds_toArray, List.set_cons_zero, List.set_cons_succ]
          refine wpAnyH_take (i := 13) (v := ?_) rfl (by kernel_rfl) (by kernel_rfl) (by kernel_rfl) (fun _ _ _ h => h) (Or.inl ⟨by rfl, ?_⟩) hHeld ?_
          rotate_left 1
          · (intro w hSw; (try dsimp only at hSw); go_simp; try with_reducible rfl)
          try simp only [Act.put, List.getElem_toArray, List.getElem_cons_zero, List.getElem_cons_succ, List.setIfInBounds_toArray, List.set_cons_zero, List.set_cons_succ]
          refine wpAnyH_done (by kernel_rfl) ?_ _
          refine NoPanic.normal ?_
          have HOM : Hid (Om w q F (putM m (vals n E (k + 1))) (B + (k + 1)) w4) := by
            have h1 := Om.then HC1.out HU1.out (G.refl _) (HN4.out.om (B' := B + (k + 1)) ?_)
            · rw [HZ.out HIN.out]; exact h1
            · have h2 := HFW.out; exact ⟨by have := h2.w; omega, by have := h2.f; omega, by have := h2.p; omega⟩
          obtain ⟨hc1, hc2⟩ := (One.two HN4.out HK.out HNB.out)
          clear HN4 HWR HG3 HB3 HF3
          go_wp2
          go_roundw
          case rel => exact ⟨k + 1, by omega, by go_num, HOM.out⟩
          case measure => simp [RowKit.intOf]; omega
        · have HIN := hide hin
          clear hin
          obtain ⟨hc1, hc2⟩ := HK.out
          go_wp2_with fail
          clear hc1 hc2
          refine wp_region_noPanic ?_
          refine wp_region_held_drew (S := (fun W => W.cell? ⟨b, off + k * 2, none⟩ = some (I a) ∧ W.cell? ⟨b, off + k * 2 + 1, none⟩ = some (bv f))) (by kernel_rfl) (⟨HK.out.1, HK.out.2⟩) (fun hHeld => ?_)
          refine wpAnyH_take (i := 0) (v := ?_) rfl (by kernel_rfl) (by kernel_rfl) (by kernel_rfl) (fun _ _ _ h => h) (Or.inl ⟨by rfl, ?_⟩) hHeld ?_
          rotate_left 1
          · (intro w hSw; (try dsimp only at hSw); go_simp; try with_reducible rfl)
          try simp only [Act.put, List.getElem_toArray, List.getElem_cons_zero, List.setIfInBounds_toArray, List.set_cons_zero, List.set_cons_succ]
          refine wpAnyH_take (i := 1) (v := ?_) rfl (by kernel_rfl) (by kernel_rfl) (by kernel_rfl) (fun _ _ _ h => h) (Or.inl ⟨by rfl, ?_⟩) hHeld ?_
          rotate_left 1
          · (intro w hSw; (try dsimp only at hSw); go_simp; try with_reducible rfl)
          try simp only [Act.put, List.getElem_toArray, List.getElem_cons_zero, List.getElem_cons_succ, List.setIfInBounds_toArray, List.set_cons_zero, List.set_cons_succ]
          refine wpAnyH_take (i := 2) (v := ?_) rfl (by kernel_rfl) (by kernel_rfl) (by kernel_rfl) (fun _ _ _ h => h) (Or.inl ⟨by rfl, ?_⟩) hHeld ?_
          rotate_left 1
          · (intro w hSw; (try dsimp only at hSw); go_simp; try with_reducible rfl)
          try simp only [Act.put, List.getElem_toArray, List.getElem_cons_zero, List.getElem_cons_succ, List.setIfInBounds_toArray, List.set_cons_zero, List.set_cons_succ]
          refine wpAnyH_take (i := 3) (v := ?_) rfl (by kernel_rfl) (by kernel_rfl) (by kernel_rfl) (fun _ _ _ h => h) (Or.inl ⟨by rfl, ?_⟩) hHeld ?_
          rotate_left 1
          · (intro w hSw; (try dsimp only at hSw); go_simp; try with_reducible rfl)
          try simp only [Act.put, List.getElem_toArray, List.getElem_cons_zero, List.getElem_cons_succ, List.setIfInBounds_toArray, List.set_cons_zero, List.set_cons_succ]
          refine wpAnyH_take (i := 4) (v := ?_) rfl (by kernel_rfl) (by kernel_rfl) (by kernel_rfl) (fun _ _ _ h => h) (Or.inl ⟨by rfl, ?_⟩) hHeld ?_
          rotate_left 1
          · (intro w hSw; (try dsimp only at hSw); go_simp; try with_reducible rfl)
          try simp only [Act.put, List.getElem_toArray, List.getElem_cons_zero, List.getElem_cons_succ, List.setIfInBounds_toArray, List.set_cons_zero, List.set_cons_succ]
          refine wpAnyH_take (i := 5) (v := ?_) rfl (by kernel_rfl) (by kernel_rfl) (by kernel_rfl) (fun _ _ _ h => h) (Or.inl ⟨by rfl, ?_⟩) hHeld ?_
          rotate_left 1
          · (intro w hSw; obtain ⟨q1, q2⟩ := hSw; go_simp; try with_reducible rfl)
          try simp only [Act.put, List.getElem_toArray, List.getElem_cons_zero, List.getElem_cons_succ, List.setIfInBounds_toArray, List.set_cons_zero, List.set_cons_succ]
          refine wpAnyH_take (i := 6) (v := ?_) rfl (by kernel_rfl) (by kernel_rfl) (by kernel_rfl) (fun _ _ _ h => h) (Or.inl ⟨by rfl, ?_⟩) hHeld ?_
          rotate_left 1
          · (intro w hSw; (try dsimp only at hSw); go_simp; try with_reducible rfl)
          try simp only [Act.put, List.getElem_toArray, List.getElem_cons_zero, List.getElem_cons_succ, List.setIfInBounds_toArray, List.set_cons_zero, List.set_cons_succ]
          refine wpAnyH_take (i := 7) (v := ?_) rfl (by kernel_rfl) (by kernel_rfl) (by kernel_rfl) (fun _ _ _ h => h) (Or.inl ⟨by rfl, ?_⟩) hHeld ?_
          rotate_left 1
          · (intro w hSw; (try dsimp only at hSw); go_simp; try with_reducible rfl)
          try simp only [Act.put, List.getElem_toArray, List.getElem_cons_zero, List.getElem_cons_succ, List.setIfInBounds_toArray, List.set_cons_zero, List.set_cons_succ]
          refine wpAnyH_take (i := 8) (v := ?_) rfl (by kernel_rfl) (by kernel_rfl) (by kernel_rfl) (fun _ _ _ h => h) (Or.inl ⟨by rfl, ?_⟩) hHeld ?_
          rotate_left 1
          · (intro w hSw; (try dsimp only at hSw); go_simp; try with_reducible rfl)
          try simp only [Act.put, List.getElem_toArray, List.getElem_cons_zero, List.getElem_cons_succ, List.setIfInBounds_toArray, List.set_cons_zero, List.set_cons_succ]
          refine wpAnyH_take (i := 9) (v := ?_) rfl (by kernel_rfl) (by kernel_rfl) (by kernel_rfl) (fun _ _ _ h => h) (Or.inl ⟨by rfl, ?_⟩) hHeld ?_
          rotate_left 1
          · (intro w hSw; (try dsimp only at hSw); go_simp; try with_reducible rfl)
          try simp only [Act.put, List.getElem_toArray, List.getElem_cons_zero, List.getElem_cons_succ, List.setIfInBounds_toArray, List.set_cons_zero, List.set_cons_succ]
          refine wpAnyH_take (i := 10) (v := ?_) rfl (by kernel_rfl) (by kernel_rfl) (by kernel_rfl) (fun _ _ _ h => h) (Or.inl ⟨by rfl, ?_⟩) hHeld ?_
          rotate_left 1
          · (intro w hSw; obtain ⟨q1, q2⟩ := hSw; go_simp; try with_reducible rfl)
          try simp only [Act.put, List.getElem_toArray, List.getElem_cons_zero, List.getElem_cons_succ, List.setIfInBounds_toArray, List.set_cons_zero, List.set_cons_succ]
          refine wpAnyH_ready (rs := [11]) (by kernel_rfl) (by simp) (AllReadyH.cons rfl (fun K hK => ?_) AllReadyH.nil)
          clear hHeld
          go_simp
          with_reducible refine (filled_any f _).mono ?_
          rintro e' w3 ⟨x3, rfl, hg3, hb3, hf3⟩
          have HG3 := hide (G.trans (G.drew (G.refl _)) hg3)
          have HB3 := hide hb3
          have HF3 := hide hf3
          clear hg3 hb3 hf3
          go_wp2_with fail
          refine hK.out _ _ (⟨cell_chg HK.out.1 HG3.out.chg (F := fun _ => False) (fun h => h), cell_chg HK.out.2 HG3.out.chg (F := fun _ => False) (fun h => h)⟩) (fun hHeld => ?_)
          clear hK K
          try simp only [Act.put, List.getElem_toArray, List.getElem_cons_zero, List.getElem_cons_succ, List.setIfInBounds_toArray, List.set_cons_zero, List.set_cons_succ]
          refine wpAnyH_ready (rs := [12]) (by kernel_rfl) (by simp) (AllReadyH.cons rfl (fun K hK => ?_) AllReadyH.nil)
          clear hHeld
          go_simp
          with_reducible refine (o_write q F1 (putM m (vals n E k)) (B + k) (by omega) HFW.out x3 a (flL f) (flL_lt f) _ ?_ ?_ ?_).mono ?_
          exact HS1.out.G HG3.out
          exact HB3.out
          exact (fun j hj e => by have h1 := HF3.out j hj; have h5 : j < wr.heap.size := (HU1.out j e).elim (fun x => Nat.lt_of_lt_of_le (HFL.out j x) HC1.out.size) (fun x => x.2); simp only [World.drew] at h1; omega)
          rw [HWR.out]
          rintro e' w4 ⟨rfl, hone⟩
          have HN4 := hide (hone.back HG3.out)
          clear hone
          go_wp2_with fail
          refine hK.out _ _ ((One.two HN4.out HK.out HNB.out)) (fun hHeld => ?_)
          clear hK K
          try simp only [Act.put, List.getElem_toArray, List.getElem_cons_zero, List.getElem_cons_succ, List.setIfInBounds_toArray, List.set_cons_zero, List.set_cons_succ]
          refine wpAnyH_take (i := 13) (v := ?_) rfl (by kernel_rfl) (by kernel_rfl) (by kernel_rfl) (fun _ _ _ h => h) (Or.inl ⟨by rfl, ?_⟩) hHeld ?_
          rotate_left 1
          · (intro w hSw; (try dsimp only at hSw); go_simp; try with_reducible rfl)
          try simp only [Act.put, List.getElem_toArray, List.getElem_cons_zero, List.getElem_cons_succ, List.setIfInBounds_toArray, List.set_cons_zero, List.set_cons_succ]
          refine wpAnyH_done (by kernel_rfl) ?_ _
          refine NoPanic.normal ?_
          have HOM : Hid (Om w q F (putM m (vals n E (k + 1))) (B + (k + 1)) w4) := by
            have h1 := Om.then HC1.out HU1.out (G.refl _) (HN4.out.om (B' := B + (k + 1)) ?_)
            · rw [HZ.out HIN.out]; exact h1
            · have h2 := HFW.out; exact ⟨by have := h2.w; omega, by have := h2.f; omega, by have := h2.p; omega⟩
          obtain ⟨hc1, hc2⟩ := (One.two HN4.out HK.out HNB.out)
          clear HN4 HWR HG3 HB3 HF3
          go_wp2
          go_roundw
          case rel => exact ⟨k + 1, by omega, by go_num, HOM.out⟩
          case measure => simp [RowKit.intOf]; omega
    · obtain rfl : k = L := by omega
      have HOM := hide hom
      clear hom
      go_wp2
      go_ret
      exact ⟨rfl, HOM.out⟩
end Go.Proofs.Ytbjbphhcmmaaoaa
