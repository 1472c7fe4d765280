/- PathsHeap: the walk. -/
import Derived.Test.YtbhbmcgjfcgdgaaPa13
namespace Go.Proofs.Ytbhbmcgjfcgdgaa
open Go.RowKit

theorem Two.G {W wr w' : World} {h0 h1 : Nat} {f0 f1 v0 v1 : Value} {l0 l1 : List It} {t0 t1 : Int} {u0 u1 : Value} {i0 i1 : List It} {ab i : Nat} (s : Two W wr h0 h1 f0 f1 v0 v1 l0 l1 t0 t1 u0 u1 i0 i1 ab i) (g : Go.Proofs.Ytbhbmcgjfcgdgaa.G wr w') : Two W w' h0 h1 f0 f1 v0 v1 l0 l1 t0 t1 u0 u1 i0 i1 ab i := ⟨s.a.G g, s.b.G g, s.ar.G g, s.az, s.hh, s.hv, s.hu⟩
theorem neqE (p q : Int) (w : World) : (binOp .neq 26 (.agg #[I p, I q]) (.agg #[I p, I q])).run Try.prog w = .ok (.bool false) w := by
  go_simp
  try rfl
theorem smP {a n : Nat} (h : a < n) (h2 : n ≤ 1048576) : min a n + (n - (a + 1)) ≤ 1073741824 := by omega
theorem smQ {a n : Nat} (h : a < n) (h2 : n ≤ 1048576) : ([] : List (Int × Int)).length + a ≤ 1073741824 := by simp; omega
theorem smR {a n c : Nat} (h : a < n) (h2 : n ≤ c) : ¬ ((c : Int) < a) := by omega
theorem smS {a n : Nat} (h : a < n) : ¬ ((n : Int) < a + 1) := by omega
theorem smT {a n : Nat} (h : a < n) (h2 : n ≤ 1048576) : wrap64 ((a : Int) + 1) = (a : Int) + 1 := by unfold wrap64; omega
theorem smU (i : Nat) : (i : Int) ≤ ((i + 1 : Nat) : Int) := by omega
theorem smV {n i : Nat} (h : n ≤ i) : n - 1 ≤ i + 1 := by omega
theorem smI {n0 n c j : Nat} (h : c = n0 + 1) (h2 : n ≤ c) : ¬ (n0 + 1 + j < n) := by omega
theorem one_ent {w6 : World} {g : Nat} {key x : Int} (h : ∀ (j : Nat) (u : Value), ([I key, I x] : List Value)[j]? = some u → w6.cell? ((⟨g, 0, none⟩ : Addr).add j) = some u) : ∀ (j : Nat) (y : Int × Int), ([(key, x)] : List (Int × Int))[j]? = some y → w6.cell? ⟨g, 0 + j * 2, none⟩ = some (I y.1) ∧ w6.cell? ⟨g, 0 + j * 2 + 1, none⟩ = some (I y.2) := fun j y hj => by
  match j, hj with
  | 0, hj =>
    simp at hj
    subst hj
    have h0 := h 0 _ rfl
    have h1 := h 1 _ rfl
    rw [Addr.add_mid] at h0 h1
    exact ⟨h0, h1⟩
  | j + 1, hj => simp at hj
/-- What one heap turns is not the other one's. -/
theorem sep {W wr : World} {h h' : Nat} {f f' v v' : Value} {lt lt' : Int × Int → Int × Int → Bool} {l l' : List It} {t t' : Int} {u' : Value} {its' : List It} {i : Nat} (o : Own W wr h f v lt l t) (s : Sd W wr h' f' v' lt' l' t' u' its' i) (hh : h ≠ h') (hv : ∀ b, v.ownBlock = some b → v'.ownBlock ≠ some b) : ∀ b, hpB h v b → W.heap.size ≤ b ∧ ¬ hpB h' v' b ∧ u'.ownBlock ≠ some b := fun b q => by
  refine ⟨?_, ?_, fun e => s.r.hp o.hp e q⟩
  · rcases q with rfl | q
    · exact o.h
    · exact o.o b q
  · rintro (q' | q')
    · rcases q with q | q
      · exact hh (q.symm.trans q')
      · subst q'
        rcases o.hp.sl with ⟨rfl, _⟩ | ⟨g, cap, rest, rfl, hg, _⟩
        · simp [Value.ownBlock] at q
        · have e2 : g = b := Option.some.inj q
          subst e2
          exact hg.ne s.o.hp.blk (by decide) rfl
    · rcases q with q | q
      · subst q
        rcases s.o.hp.sl with ⟨rfl, _⟩ | ⟨g, cap, rest, rfl, hg, _⟩
        · simp [Value.ownBlock] at q'
        · have e2 : g = b := Option.some.inj q'
          subst e2
          exact hg.ne o.hp.blk (by decide) rfl
      · exact hv b q q'
set_option maxRecDepth 100000 in
set_option maxHeartbeats 4000000 in
theorem heap_any (vs : Option Addr) (L cs : Nat) (X : Nat → Bool × Bool × Int) (hL : L ≤ 1048576) (W : World) (hvs : L = 0 ∨ ∃ b off, vs = some ⟨b, off, none⟩ ∧ Steps W b off L X) : Calls Try.prog 5 #[.slice vs L cs] W fun e W' => e = .returned (.bool true) ∧ G W W' := by
  have HNU := hide nh_u
  have HND := hide nh_d
  have HVS := hide hvs
  have HAU := hide (ahU W)
  have HAD := hide (ahD W)
  clear hvs
  go_enter Try.func5, Try.ntmps5
  go_wp2_with fail
  refine (HNU.out _).mono ?_
  rintro e w1 ⟨h0, rfl, hp0, hg0, hh0⟩
  go_wp2_with fail
  refine (HND.out _).mono ?_
  rintro e w2 ⟨h1, rfl, hp1, hg1, hh1⟩
  go_wp2_with fail
  obtain ⟨ab, hab⟩ : ∃ ab, ab = w2.heap.size := ⟨_, rfl⟩
  have hg3 := (G.refl w2).alloc (.cells #[.slice none 0 0, .slice none 0 0] 40)
  have hb3 := Blk.new w2 [.slice none 0 0, .slice none 0 0] 40
  rw [← hab] at hb3 ⊢
  generalize hf0 : ((.func (.func 12) #[] #[]) : Value) = f0 at hp0 HAU
  generalize hf1 : ((.func (.func 13) #[] #[]) : Value) = f1 at hp1 HAD
  have HTW : Hid (Two W (w2.alloc (.cells #[.slice none 0 0, .slice none 0 0] 40)) h0 h1 f0 f1 (.slice none 0 0) (.slice none 0 0) [] [] 0 0 (.slice none 0 0) (.slice none 0 0) [] [] ab 0) :=
    ⟨⟨⟨hp0.G (hg1.trans hg3), fun _ j _ hj => by simp at hj, hg0.trans (hg1.trans hg3), fun b e => by simp [Value.ownBlock] at e, hh0⟩, ERow.nil _ _, List.Perm.refl _, List.Pairwise.nil, fun a ha => by simp at ha, Int.le_refl _, Int.le_refl _, Nat.le_refl _⟩,
     ⟨⟨hp1.G hg3, fun _ j _ hj => by simp at hj, hg0.trans (hg1.trans hg3), fun b e => by simp [Value.ownBlock] at e, Nat.le_trans hg0.size hh1⟩, ERow.nil _ _, List.Perm.refl _, List.Pairwise.nil, fun a ha => by simp at ha, Int.le_refl _, Int.le_refl _, Nat.le_refl _⟩,
     hb3, by rw [hab]; exact (hg0.trans hg1).size, fun e => by have := hp0.blk.lt; omega, fun b e => by simp [Value.ownBlock] at e, fun b e => by simp [Value.ownBlock] at e⟩
  generalize w2.alloc (.cells #[.slice none 0 0, .slice none 0 0] 40) = w3 at HTW ⊢
  clear hg3 hb3 hp0 hp1 hg0 hg1 hh0 hh1 hab hf0 hf1 HNU HND
  go_loopw [6] (fun iv wr => ∃ (i : Nat) (v0 v1 : Value) (l0 l1 : List It) (t0 t1 : Int) (u0 u1 : Value) (i0 i1 : List It), iv = I i ∧ i ≤ L ∧ Two W wr h0 h1 f0 f1 v0 v1 l0 l1 t0 t1 u0 u1 i0 i1 ab i) (fun iv _ => L - (RowKit.intOf iv).toNat)
  case atStart => exact ⟨0, _, _, _, _, _, _, _, _, _, _, rfl, Nat.zero_le _, HTW.out⟩
  case round =>
    obtain ⟨i, v0, v1, l0, l1, t0, t1, u0, u1, i0, i1, rfl, hi, htw⟩ := hrel
    have HT := hide htw
    clear htw HTW
    by_cases hlt : i < L
    · obtain ⟨b, off, rfl, hN⟩ : ∃ b off, vs = some ⟨b, off, none⟩ ∧ Steps W b off L X := HVS.out.resolve_left (by omega)
      obtain ⟨c1, c2, c3, c4⟩ := (hN.G HT.out.a.o.g) i hlt
      have hiI : (i : Int) < L := by omega
      have hw : wrap64 ((i : Int) + 1) = (i : Int) + 1 := by unfold wrap64; omega
      have hms : L - ((i : Int) + 1).toNat < L - (i : Int).toNat := meas2 hlt
      have HMS := hide hms
      clear hms hN
      obtain ⟨sb, hsb⟩ : ∃ sb, sb = wr.heap.size := ⟨_, rfl⟩
      have HG4 := hide ((G.refl wr).alloc (.cells #[.bool (X i).1, .bool (X i).2.1, I (X i).2.2] 37))
      have HS4 : Hid (Blk (wr.alloc (.cells #[.bool (X i).1, .bool (X i).2.1, I (X i).2.2] 37)) sb 37 [.bool (X i).1, .bool (X i).2.1, I (X i).2.2]) := by rw [hsb]; exact Blk.new wr [.bool (X i).1, .bool (X i).2.1, I (X i).2.2] 37
      have HT4 := hide (HT.out.G HG4.out)
      have HSB := hide hsb
      clear hsb
      obtain ⟨a0, c0q, e0⟩ := HT4.out.a.r.slice
      obtain ⟨a1, c1q, e1⟩ := HT4.out.b.r.slice
      rw [List.length_map] at e0 e1
      subst e0
      subst e1
      clear HT HG4
      cases hsec : (X i).2.1 with
      | false =>
        rw [hsec] at c2 HS4 HT4
        cases hpop : (X i).1 with
        | false =>
          rw [hpop] at c1 HS4 HT4
          generalize hkey : (X i).2.2 = key at c3 HS4 HT4
          have HPU := hide (push_any W f0 upL HAU.out h0 v0 l0 t0 key i _ HT4.out.a.o.g HT4.out.a.o.hp (by have := HT4.out.a.len; have := HT4.out.a.ln; omega) (by have := HT4.out.a.t0; omega) (by have := HT4.out.a.t1; omega) HT4.out.a.o.h HT4.out.a.o.o)
          go_wp2_with fail
          rw [← HSB.out]
          with_reducible refine HPU.out.mono ?_
          rintro e w5 ⟨rfl, v', l', hp', hperm, hhi, hch, hown⟩
          obtain ⟨ho5, hr5, hs5, har5, hv5⟩ := push_side HT4.out.a HT4.out.b HT4.out.ar HT4.out.hv hp' (fun o => hhi o (HT4.out.a.o.hi o)) hch hown (sep HT4.out.a.o HT4.out.b HT4.out.hh HT4.out.hv)
          have HS5 := hide (HS4.out.chg hch (HT4.out.a.o.off HS4.out (by decide) (by decide)))
          have HAR5 := hide har5
          have HR5 := hide hr5
          have HPM := hide (hperm.trans (HT4.out.a.pm.cons _))
          have HFW : Hid (i0.length + 1 ≤ 1073741824) := by show _ ≤ _; have := HT4.out.a.ln; omega
          have HZ5 := hide ho5.g.size
          have HO5 := hide ho5
          have HSO5 := hide hs5
          have HV5 := hide hv5
          have HFX := hide (And.intro HT4.out.a.inc (And.intro HT4.out.a.tt (And.intro HT4.out.a.t0 (And.intro HT4.out.a.t1 HT4.out.a.ln))))
          have HHU := hide HT4.out.hu
          have HAZ := hide HT4.out.az
          have HHH := hide HT4.out.hh
          clear hp' hperm hhi hch hown ho5 hr5 hs5 har5 hv5 HPU HT4 HS4 c1 c2 c3 c4
          go_wp2_with fail
          refine wp_region_noPanic ?_
          refine wp_region_L (S := (fun V => (∀ j, V.cell? ⟨ab, j, none⟩ = ([.slice a0 i0.length c0q, .slice a1 i1.length c1q] : List Value)[j]?) ∧ (∀ j, V.cell? ⟨sb, j, none⟩ = ([.bool false, .bool false, I key] : List Value)[j]?))) 11 (by kernel_rfl) (⟨(HAR5.out.G (G.drew (G.refl _))).cell, (HS5.out.G (G.drew (G.refl _))).cell⟩) (fun hHeld => ?_)
          refine wpAnyL_take (i := 0) (v := ?_) rfl (by kernel_rfl) (by kernel_rfl) (by kernel_rfl) (by kernel_rfl) (fun _ _ _ h => h) (Or.inl ⟨by rfl, ?_⟩) hHeld ?_
          rotate_left 1
          · (intro w hSw; (try dsimp only at hSw); go_simp; try with_reducible rfl)
          try simp only [Act.put, List.getElem_toArray, List.getElem_cons_zero, List.setIfInBounds_toArray, List.set_cons_zero, List.set_cons_succ]
          refine wpAnyL_take (i := 1) (v := ?_) rfl (by kernel_rfl) (by kernel_rfl) (by kernel_rfl) (by kernel_rfl) (fun _ _ _ h => h) (Or.inl ⟨by rfl, ?_⟩) hHeld ?_
          rotate_left 1
          · (intro w hSw; (try dsimp only at hSw); go_simp; try with_reducible rfl)
          try simp only [Act.put, List.getElem_toArray, List.getElem_cons_zero, List.getElem_cons_succ, List.setIfInBounds_toArray, List.set_cons_zero, List.set_cons_succ]
          refine wpAnyL_take (i := 2) (v := ?_) rfl (by kernel_rfl) (by kernel_rfl) (by kernel_rfl) (by kernel_rfl) (fun _ _ _ h => h) (Or.inl ⟨by rfl, ?_⟩) hHeld ?_
          rotate_left 1
          · (intro w hSw; (try dsimp only at hSw); go_simp; try with_reducible rfl)
          try simp only [Act.put, List.getElem_toArray, List.getElem_cons_zero, List.getElem_cons_succ, List.setIfInBounds_toArray, List.set_cons_zero, List.set_cons_succ]
          refine wpAnyL_take (i := 3) (v := ?_) rfl (by kernel_rfl) (by kernel_rfl) (by kernel_rfl) (by kernel_rfl) (fun _ _ _ h => h) (Or.inl ⟨by rfl, ?_⟩) hHeld ?_
          rotate_left 1
          · (intro w hSw; obtain ⟨q1, q2⟩ := hSw; go_simp; try with_reducible rfl)
          try simp only [Act.put, List.getElem_toArray, List.getElem_cons_zero, List.getElem_cons_succ, List.setIfInBounds_toArray, List.set_cons_zero, List.set_cons_succ]
          refine wpAnyL_take (i := 4) (v := ?_) rfl (by kernel_rfl) (by kernel_rfl) (by kernel_rfl) (by kernel_rfl) (fun _ _ _ h => h) (Or.inl ⟨by rfl, ?_⟩) hHeld ?_
          rotate_left 1
          · (intro w hSw; (try dsimp only at hSw); go_simp; try with_reducible rfl)
          try simp only [Act.put, List.getElem_toArray, List.getElem_cons_zero, List.getElem_cons_succ, List.setIfInBounds_toArray, List.set_cons_zero, List.set_cons_succ]
          refine wpAnyL_take (i := 5) (v := ?_) rfl (by kernel_rfl) (by kernel_rfl) (by kernel_rfl) (by kernel_rfl) (fun _ _ _ h => h) (Or.inl ⟨by rfl, ?_⟩) hHeld ?_
          rotate_left 1
          · (intro w hSw; obtain ⟨q1, q2⟩ := hSw; go_simp; try with_reducible rfl)
          try simp only [Act.put, List.getElem_toArray, List.getElem_cons_zero, List.getElem_cons_succ, List.setIfInBounds_toArray, List.set_cons_zero, List.set_cons_succ]
          refine wpAnyL_take (i := 6) (v := ?_) rfl (by kernel_rfl) (by kernel_rfl) (by kernel_rfl) (by kernel_rfl) (fun _ _ _ h => h) (Or.inl ⟨by rfl, ?_⟩) hHeld ?_
          rotate_left 1
          · (intro w hSw; (try dsimp only at hSw); go_simp; try with_reducible rfl)
          try simp only [Act.put, List.getElem_toArray, List.getElem_cons_zero, List.getElem_cons_succ, List.setIfInBounds_toArray, List.set_cons_zero, List.set_cons_succ]
          refine wpAnyL_take (i := 7) (v := ?_) rfl (by kernel_rfl) (by kernel_rfl) (by kernel_rfl) (by kernel_rfl) (fun _ _ _ h => h) (Or.inl ⟨by rfl, ?_⟩) hHeld ?_
          rotate_left 1
          · (intro w hSw; (try dsimp only at hSw); go_simp; try with_reducible rfl)
          try simp only [Act.put, List.getElem_toArray, List.getElem_cons_zero, List.getElem_cons_succ, List.setIfInBounds_toArray, List.set_cons_zero, List.set_cons_succ]
          refine wpAnyL_one (i := 8) (by kernel_rfl) rfl (by kernel_rfl) (fun K hK => ?_)
          clear hHeld
          go_simp
          have HG6 : Hid (G w5 (w5.alloc (.cells #[I key, I (i : Int)] 26)).drew) := ((G.refl w5).alloc _).drew
          have HC6 : Hid (∀ j u, ([I key, I (i : Int)] : List Value)[j]? = some u → (w5.alloc (.cells #[I key, I (i : Int)] 26)).drew.cell? ((⟨w5.heap.size, 0, none⟩ : Addr).add j) = some u) := cell_new w5 [I key, I (i : Int)] 26
          generalize (w5.alloc (.cells #[I key, I (i : Int)] 26)).drew = w6 at HG6 HC6 ⊢
          refine hK.out _ _ (⟨(HAR5.out.G HG6.out).cell, (HS5.out.G HG6.out).cell⟩) (fun hHeld => ?_)
          clear hK K
          try simp only [Act.put, List.getElem_toArray, List.getElem_cons_zero, List.getElem_cons_succ, List.setIfInBounds_toArray, List.set_cons_zero, List.set_cons_succ]
          refine wpAnyL_one (i := 9) (by kernel_rfl) rfl (by kernel_rfl) (fun K hK => ?_)
          clear hHeld
          obtain ⟨v7, w7, hrun, hr7, hch7, hob7⟩ := app_ents w6 W.heap.size (.slice a0 i0.length c0q) (i0.map (·.1)) (HR5.out.G HG6.out) w5.heap.size 0 1 1 [(key, (i : Int))] rfl (one_ent HC6.out) (by rw [List.length_map]; exact HFW.out) (Nat.le_trans HZ5.out HG6.out.size)
          obtain ⟨x7, y7, e7⟩ := hr7.slice
          generalize hn7 : (i0.map (·.1) ++ [(key, (i : Int))]).length = n7 at e7
          have HN7 := hide hn7
          clear hn7
          subst e7
          have HR7 := hide hr7
          have HC7 := hide hch7
          have HO7 := hide hob7
          clear hr7 hch7 hob7
          refine (if_pos rfl).mpr ?_
          refine wp_of_exec (exec_append _ _ 39 rfl (.slice a0 i0.length c0q) (.slice (some ⟨w5.heap.size, 0, none⟩) 1 1) rfl rfl 39 rfl hrun) ?_
          clear hrun
          have HNA : Hid (¬ (Value.ownBlock (.slice a0 i0.length c0q) = some ab)) := fun e => (HR5.out.G HG6.out).off (HAR5.out.G HG6.out) (by decide) e
          have HNS : Hid (¬ (Value.ownBlock (.slice a0 i0.length c0q) = some sb)) := fun e => (HR5.out.G HG6.out).off (HS5.out.G HG6.out) (by decide) e
          refine hK.out _ _ (⟨((HAR5.out.G HG6.out).chg HC7.out HNA.out).cell, ((HS5.out.G HG6.out).chg HC7.out HNS.out).cell⟩) (fun hHeld => ?_)
          clear hK K
          try simp only [Act.put, List.getElem_toArray, List.getElem_cons_zero, List.getElem_cons_succ, List.setIfInBounds_toArray, List.set_cons_zero, List.set_cons_succ]
          refine wpAnyL_take (i := 10) (v := ?_) rfl (by kernel_rfl) (by kernel_rfl) (by kernel_rfl) (by kernel_rfl) (fun _ _ _ h => h) (Or.inl ⟨by rfl, ?_⟩) hHeld ?_
          rotate_left 1
          · (intro w hSw; (try dsimp only at hSw); go_simp; try with_reducible rfl)
          try simp only [Act.put, List.getElem_toArray, List.getElem_cons_zero, List.getElem_cons_succ, List.setIfInBounds_toArray, List.set_cons_zero, List.set_cons_succ]
          refine wpAnyL_last (by kernel_rfl) rfl (by kernel_rfl) (fun K hK => ?_)
          clear hHeld
          have hc7 := ((HAR5.out.G HG6.out).chg HC7.out HNA.out).cell
          have hz7 := ((HAR5.out.G HG6.out).chg HC7.out HNA.out).frozen
          go_simp
          refine hK.out _ _ ?_
          clear hK K
          refine NoPanic.normal ?_
          have HTF : Hid (Two W (w7.setCell ⟨ab, 0, none⟩ (.slice x7 n7 y7)) h0 h1 f0 f1 v' v1 l' l1 (t0 + 1) t1 (.slice x7 n7 y7) (.slice a1 i1.length c1q) (i0 ++ [((key, (i : Int)), t0)]) i1 ab (i + 1)) := by
            obtain ⟨ho8, hr8, hs8, har8, hu8⟩ := cut_row (HO5.out.G HG6.out) (HR5.out.G HG6.out) (HSO5.out.G HG6.out) HHU.out (HAR5.out.G HG6.out) HAZ.out HR7.out HC7.out HO7.out 0
            exact ⟨⟨ho8, by rw [List.map_append]; exact hr8, HPM.out.trans (List.perm_append_singleton _ _).symm, by rw [List.pairwise_append]; exact ⟨HFX.out.1, by simp, fun a ha b hb => by simp at hb; subst hb; exact HFX.out.2.1 a ha⟩, fun a ha => by rcases List.mem_append.1 ha with q | q; (have := HFX.out.2.1 a q; omega); (simp at q; subst q; simp; omega), by have := HFX.out.2.2.1; omega, by have := HFX.out.2.2.2.1; omega, by have := HFX.out.2.2.2.2; simp; omega⟩, hs8.up, har8, HAZ.out, HHH.out, HV5.out, hu8⟩
          have hl7 : l'.length = n7 := by rw [HTF.out.a.len, ← HN7.out]; simp
          clear HN7 HR7 HC7 HO7 HNA HNS HC6 HG6 HS5 HAR5 HR5 HPM HFW HZ5 HO5 HSO5 HV5 HFX HHU HAZ HHH
          generalize w7.setCell ⟨ab, 0, none⟩ (.slice x7 n7 y7) = w8 at HTF ⊢
          have hcA := HTF.out.ar.cell
          have HK0 : Hid (∀ n, Calls Try.prog 10 #[ptr h0] (w8.drewN n) fun e w' => e = .returned (I n7) ∧ w' = w8.drewN n) := fun n => by
            have := len_eq h0 f0 _ _ _ (w8.drewN n) (HTF.out.a.o.hp.G (g_drewN _ _))
            rw [hl7] at this
            exact this
          have HK1 : Hid (∀ n, Calls Try.prog 10 #[ptr h1] (w8.drewN n) fun e w' => e = .returned (I i1.length) ∧ w' = w8.drewN n) := fun n => by
            have := len_eq h1 f1 _ _ _ (w8.drewN n) (HTF.out.b.o.hp.G (g_drewN _ _))
            rw [HTF.out.b.len] at this
            exact this
          clear hl7
          go_wp2_with fail
          clear hc7 hz7 hsec hpop hkey hi hL
          go_quiet (first | (go_at_call 10; with_reducible refine Calls.quiet_of_same (HK0.out _)) | (go_at_call 10; with_reducible refine Calls.quiet_of_same (HK1.out _)))
          go_wp2_with fail
          go_roundw
          case rel => exact ⟨i + 1, _, _, _, _, _, _, _, _, _, _, by first | (rw [hw]; simp; done) | simp, hlt, HTF.out.G (g_drewN _ _)⟩
          case measure => first | exact HMS.out | (rw [hw]; exact HMS.out)
        | true =>
          rw [hpop] at c1 HS4 HT4
          generalize hkey : (X i).2.2 = key at c3 HS4 HT4
          cases i0 with
          | nil =>
            obtain rfl : l0 = [] := List.eq_nil_of_length_eq_zero (by simpa using HT4.out.a.len)
            have HPO := hide (pop_none h0 f0 v0 t0 _ HT4.out.a.o.hp)
            have qn : ∀ w : World, (binOp .neq 26 (.agg #[I 0, I 0]) (.agg #[I 0, I 0])).run Try.prog w = .ok (.bool false) w := neqE 0 0
            go_wp2_with fail
            rw [← HSB.out]
            with_reducible refine HPO.out.mono ?_
            rintro e w5 ⟨rfl, hg5⟩
            have HT6 := hide ((HT4.out.G hg5).G ((G.refl w5).alloc (.cells #[I 0, I 0] 26)))
            obtain ⟨xb, hxb⟩ : ∃ xb, xb = w5.heap.size := ⟨_, rfl⟩
            have HX6 : Hid (Blk (w5.alloc (.cells #[I 0, I 0] 26)) xb 26 [I 0, I 0]) := by rw [hxb]; exact Blk.new w5 [I 0, I 0] 26
            have HXB := hide hxb
            clear hxb hg5 HPO HT4 HS4 c1 c2 c3 c4
            have hcA := HT6.out.ar.cell
            go_wp2_with fail
            rw [← HXB.out]
            generalize w5.alloc (.cells #[I 0, I 0] 26) = w6 at HT6 HX6 hcA ⊢
            have hpf := first_u a0 c0q W.heap.size [] (by simp) w6 HT6.out.a.r
            rw [List.length_nil] at hpf
            with_reducible refine hpf.mono ?_
            clear hpf
            rintro e w7 ⟨⟨r, rfl, hr⟩, hg7⟩
            obtain rfl : r = -1 := by
              rcases hr with ⟨_, q⟩ | ⟨a, _, y, _, q, _⟩
              · exact q
              · omega
            have HT7 := hide (HT6.out.G hg7)
            have HX7 := hide (HX6.out.G hg7)
            clear hr hg7 HT6 HX6 hcA
            have hcA := HT7.out.ar.cell
            have hcX := HX7.out.cell
            clear hsec hpop hkey hi hL
            go_wp2_with fail
            go_quiet (fail)
            generalize hw8 : World.drewN w7 _ = w8
            have HTF : Hid (Two W w8 h0 h1 f0 f1 v0 v1 [] l1 t0 t1 (.slice a0 0 c0q) (.slice a1 i1.length c1q) [] i1 ab (i + 1)) := by
              have q := HT7.out.G (show G w7 w8 from by rw [← hw8]; exact g_drewN _ _)
              exact ⟨q.a.up, q.b.up, q.ar, q.az, q.hh, q.hv, q.hu⟩
            clear hw8 HT7 HX7 hcA hcX
            have hcA := HTF.out.ar.cell
            have HK0 : Hid (∀ n, Calls Try.prog 10 #[ptr h0] (w8.drewN n) fun e w' => e = .returned (I ((0 : Nat) : Int)) ∧ w' = w8.drewN n) := fun n => by
              have := len_eq h0 f0 _ _ _ (w8.drewN n) (HTF.out.a.o.hp.G (g_drewN _ _))
              rw [HTF.out.a.len] at this
              exact this
            have HK1 : Hid (∀ n, Calls Try.prog 10 #[ptr h1] (w8.drewN n) fun e w' => e = .returned (I ((i1.length : Nat) : Int)) ∧ w' = w8.drewN n) := fun n => by
              have := len_eq h1 f1 _ _ _ (w8.drewN n) (HTF.out.b.o.hp.G (g_drewN _ _))
              rw [HTF.out.b.len] at this
              exact this
            go_wp2_with fail
            go_quiet (first | (go_at_call 10; with_reducible refine Calls.quiet_of_same (HK0.out _)) | (go_at_call 10; with_reducible refine Calls.quiet_of_same (HK1.out _)))
            go_wp2_with fail
            go_roundw
            case rel => exact ⟨i + 1, _, _, _, _, _, _, _, _, _, _, by first | (rw [hw]; simp; done) | simp, hlt, HTF.out.G (g_drewN _ _)⟩
            case measure => first | exact HMS.out | (rw [hw]; exact HMS.out)
          | cons p1 ps1 =>
            have hpos : 0 < (p1 :: ps1).length := Nat.succ_pos _
            generalize p1 :: ps1 = i0 at HT4 hpos ⊢
            cases l0 with
            | nil => exact absurd HT4.out.a.len (by simp; omega)
            | cons x l =>
              obtain ⟨⟨xk, xt⟩, xu⟩ := x
              have hll := HT4.out.a.len
              have hln := HT4.out.a.ln
              have HPO := hide (pop_some W f0 upL HAU.out h0 v0 ((xk, xt), xu) l t0 _ HT4.out.a.o.g HT4.out.a.o.hp (by simp at hll; omega) HT4.out.a.o.h HT4.out.a.o.o)
              have HLN : Hid (i0.length ≤ 1048576) := Nat.le_trans hln (Nat.le_trans hi hL)
              clear hll hln
              go_wp2_with fail
              rw [← HSB.out]
              with_reducible refine HPO.out.mono ?_
              rintro e w5 ⟨rfl, v', l', hp', hperm, hhi, hch, hob⟩
              obtain ⟨ho5, hr5, hs5, har5, hv5⟩ := push_side HT4.out.a HT4.out.b HT4.out.ar HT4.out.hv hp' (fun o => hhi o (HT4.out.a.o.hi o)) hch (.inl hob) (sep HT4.out.a.o HT4.out.b HT4.out.hh HT4.out.hv)
              have HME := hide HT4.out.a
              have HHU := hide HT4.out.hu
              have HAZ := hide HT4.out.az
              have HHH := hide HT4.out.hh
              have HPM := hide hperm
              have HV5 := hide hv5
              obtain ⟨xb, hxb⟩ : ∃ xb, xb = w5.heap.size := ⟨_, rfl⟩
              have HX6 : Hid (Blk (w5.alloc (.cells #[I xk, I xt] 26)) xb 26 [I xk, I xt]) := by rw [hxb]; exact Blk.new w5 [I xk, I xt] 26
              have HXB := hide hxb
              have hga := (G.refl w5).alloc (.cells #[I xk, I xt] 26)
              have HO6 := hide (ho5.G hga)
              have HR6 := hide (hr5.G hga)
              have HS6 := hide (hs5.G hga)
              have HA6 := hide (har5.G hga)
              have hcA := har5.cell
              have hcB := (har5.G hga).cell
              clear hxb hga hp' hperm hhi hch hob ho5 hr5 hs5 har5 hv5 HPO HT4 HS4 c1 c2 c3 c4
              go_wp2_with fail
              rw [← HXB.out]
              generalize w5.alloc (.cells #[I xk, I xt] 26) = w6 at HX6 HO6 HR6 HS6 HA6 hcB ⊢
              have hpf := first_u a0 c0q W.heap.size (i0.map (·.1)) (by rw [List.length_map]; exact HLN.out) w6 (by rw [List.length_map]; exact HR6.out)
              rw [List.length_map] at hpf
              with_reducible refine hpf.mono ?_
              clear hpf hcA hcB
              rintro e w7 ⟨⟨r, rfl, hr⟩, hg7⟩
              obtain ⟨a, rfl, hf⟩ : ∃ a : Nat, r = a ∧ IsFirst upL (i0.map (·.1)) i0.length a := by
                rcases hr with ⟨q, _⟩ | q
                · have q2 := congrArg List.length q
                  rw [List.length_map, List.length_nil] at q2
                  omega
                · exact q
              obtain ⟨hxa, hpk⟩ := HME.out.pick wo_up hf
              have hal : a < i0.length := (List.getElem?_eq_some_iff.1 hxa).1
              have HPK := hide hpk
              have HO7 := hide (HO6.out.G hg7)
              have HR7 := hide (HR6.out.G hg7)
              have HS7 := hide (HS6.out.G hg7)
              have HA7 := hide (HA6.out.G hg7)
              have HX7 := hide (HX6.out.G hg7)
              obtain ⟨g, rfl⟩ : ∃ g, a0 = some ⟨g, 0, none⟩ := by
                obtain ⟨g, cap, e⟩ := own_block HR7.out (by rw [List.length_map]; omega)
                simp only [Value.slice.injEq] at e
                exact ⟨g, e.1⟩
              have hea : (i0.map (·.1))[a]? = some (xk, xt) := by rw [List.getElem?_map, hxa]; rfl
              obtain ⟨d1, d2⟩ := HR7.out.at hea
              have hcA := HA7.out.cell
              have hcX := HX7.out.cell
              have qn : ∀ w : World, (binOp .neq 26 (.agg #[I xk, I xt]) (.agg #[I xk, I xt])).run Try.prog w = .ok (.bool false) w := neqE xk xt
              have z1 : (a : Int) < i0.length := by omega
              have z2 : ¬ ((a : Int) < 0) := by omega
              have z3 : decide ((a : Int) < 0) = false := decide_eq_false z2
              have z4 : (0 : Int) ≤ a := by omega
              clear hr hg7 hf hpk HO6 HR6 HS6 HA6 HX6 hxa hsec hpop hkey hi hL hea
              go_wp2_with fail
              go_quiet (fail)
              generalize hw8 : World.drewN w7 _ = w8
              have hg8 : G w7 w8 := by rw [← hw8]; exact g_drewN _ _
              have HO8 := hide (HO7.out.G hg8)
              have HR8 := hide (HR7.out.G hg8)
              have HS8 := hide (HS7.out.G hg8)
              have HA8 := hide (HA7.out.G hg8)
              clear hw8 hg8 HO7 HR7 HS7 HA7 HX7 hcA hcX d1 d2 qn
              have hcp := HR8.out.cap
              rw [List.length_map] at hcp
              obtain ⟨v9, w9, hrun9, hr9, hch9, hob9⟩ := app_ents w8 W.heap.size (.slice none 0 0) [] (ERow.nil _ _) g 0 a c0q ((i0.map (·.1)).take a) (by rw [List.length_take, List.length_map]; exact Nat.min_eq_left (Nat.le_of_lt hal)) (fun j y hj => by
                rw [List.getElem?_take] at hj
                rw [Nat.zero_add]
                split at hj
                · exact HR8.out.at hj
                · cases hj) (smQ hal HLN.out) HO8.out.g.size
              rw [List.nil_append] at hr9
              have HNO : ∀ b, ¬ ((Value.slice none 0 0).ownBlock = some b) := fun b q => by simp [Value.ownBlock] at q
              have HO9 := hide (HO8.out.chg hch9 (fun b q => absurd q (HNO b)))
              have HR9 := hide (HR8.out.chg hch9 (fun b _ q => HNO b q))
              have HS9 := hide (HS8.out.chg hch9 (fun b q => absurd q (HNO b)))
              have HA9 := hide (HA8.out.chg hch9 (HNO _))
              have hu9 : ∀ b, v9.ownBlock = some b → Value.ownBlock (.slice a1 i1.length c1q) ≠ some b := fun b q q' => by
                rcases hob9 with e | e
                · rw [e] at q; exact HNO b q
                · rw [e] at q
                  have e2 : w8.heap.size = b := Option.some.inj q
                  have := own_lt HS8.out.r q'
                  omega
              have g1 : ¬ ((c0q : Int) < a) := smR hal hcp
              have g2 : ¬ ((i0.length : Int) < a + 1) := smS hal
              have g3 : wrap64 ((a : Int) + 1) = (a : Int) + 1 := smT hal HLN.out
              by_cases hce : c0q = a + 1
              · subst hce
                obtain ⟨v10, w10, hrun10, hr10, hch10, hob10⟩ := app_ents w9 W.heap.size v9 ((i0.map (·.1)).take a) hr9 g 0 (i0.length - (a + 1)) 0 ((i0.map (·.1)).drop (a + 1)) (by rw [List.length_drop, List.length_map]) (fun j y hj => by
                  rw [List.getElem?_drop] at hj
                  have q1 := (List.getElem?_eq_some_iff.1 hj).1
                  rw [List.length_map] at q1
                  exact absurd q1 (smI rfl hcp)) (by rw [List.length_take, List.length_map]; exact smP hal HLN.out) HO9.out.g.size
                have hr11 : ERow w10 W.heap.size v10 ((i0.take a ++ i0.drop (a + 1)).map (·.1)) := by rw [List.map_append, List.map_take, List.map_drop]; exact hr10
                obtain ⟨ho12, hr12, hs12, har12, hu12⟩ := cut_row HO9.out hr9 HS9.out hu9 HA9.out HAZ.out hr11 hch10 hob10 0
                have har10 := HA9.out.chg hch10 (fun e => hr9.off HA9.out (by decide) e)
                obtain ⟨x7, y7, e7⟩ := hr11.slice
                rw [List.length_map, len_cut hal] at e7
                obtain ⟨x9, y9, e9⟩ := hr9.slice
                rw [List.length_take, List.length_map, Nat.min_eq_left (Nat.le_of_lt hal)] at e9
                have hcz := har10.cell
                have hc8 := HA8.out.cell
                have hc9 := HA9.out.cell
                have hcf := har10.frozen
                have HRUN9 := hide hrun9
                have HRUN10 := hide hrun10
                have HTF : Hid (Two W (w10.setCell ⟨ab, 0, none⟩ v10) h0 h1 f0 f1 v' v1 l' l1 t0 t1 v10 (.slice a1 i1.length c1q) (i0.take a ++ i0.drop (a + 1)) i1 ab (i + 1)) := ⟨⟨ho12, hr12, HPM.out.trans HPK.out, pw_cut HME.out.inc a, fun y hy => HME.out.tt y (mem_cut hy), HME.out.t0, Int.le_trans HME.out.t1 (smU i), by rw [len_cut hal]; exact smV HME.out.ln⟩, hs12.up, har12, HAZ.out, HHH.out, HV5.out, hu12⟩
                have hl7 : l'.length = i0.length - 1 := by rw [HTF.out.a.len]; exact len_cut hal
                subst e7
                subst e9
                clear hr9 hch9 hob9 hrun9 hrun10 hr10 hr11 hch10 hob10 ho12 hr12 hs12 har12 hu12 hu9 har10 HO8 HR8 HS8 HA8 HO9 HS9 HA9 HR9 HPK HPM HME HHU HHH HAZ HV5 hcp HNO
                go_wp2_with (first | (at_builtin; refine wpList_append_run rfl _ _ 39 rfl (.slice none 0 0) (.slice (some ⟨g, 0, none⟩) a (a + 1)) rfl rfl HRUN9.out ?_) | (at_builtin; refine wpList_append_run rfl _ _ 39 rfl (.slice x9 a y9) (.slice (some ⟨g, 0, none⟩) (i0.length - (a + 1)) 0) rfl rfl HRUN10.out ?_) | fail)
                clear hcz hcf hc8 hc9 HRUN9 HRUN10 HLN
                generalize w10.setCell ⟨ab, 0, none⟩ (.slice x7 (i0.length - 1) y7) = w11 at HTF ⊢
                have hcA := HTF.out.ar.cell
                have HK0 : Hid (∀ n, Calls Try.prog 10 #[ptr h0] (w11.drewN n) fun e w' => e = .returned (I (((i0.length - 1) : Nat) : Int)) ∧ w' = w11.drewN n) := fun n => by
                  have := len_eq h0 f0 _ _ _ (w11.drewN n) (HTF.out.a.o.hp.G (g_drewN _ _))
                  rw [hl7] at this
                  exact this
                have HK1 : Hid (∀ n, Calls Try.prog 10 #[ptr h1] (w11.drewN n) fun e w' => e = .returned (I ((i1.length : Nat) : Int)) ∧ w' = w11.drewN n) := fun n => by
                  have := len_eq h1 f1 _ _ _ (w11.drewN n) (HTF.out.b.o.hp.G (g_drewN _ _))
                  rw [HTF.out.b.len] at this
                  exact this
                clear hl7
                go_wp2_with fail
                go_quiet (first | (go_at_call 10; with_reducible refine Calls.quiet_of_same (HK0.out _)) | (go_at_call 10; with_reducible refine Calls.quiet_of_same (HK1.out _)))
                go_wp2_with fail
                go_roundw
                case rel => exact ⟨i + 1, _, _, _, _, _, _, _, _, _, _, by first | (rw [hw]; simp; done) | simp, hlt, HTF.out.G (g_drewN _ _)⟩
                case measure => first | exact HMS.out | (rw [hw]; exact HMS.out)
              · obtain ⟨v10, w10, hrun10, hr10, hch10, hob10⟩ := app_ents w9 W.heap.size v9 ((i0.map (·.1)).take a) hr9 g ((a + 1) * 2) (i0.length - (a + 1)) (c0q - (a + 1)) ((i0.map (·.1)).drop (a + 1)) (by rw [List.length_drop, List.length_map]) (fun j y hj => by
                  rw [List.getElem?_drop] at hj
                  have q := HR9.out.at hj
                  rw [show (a + 1) * 2 + j * 2 = (a + 1 + j) * 2 by omega]
                  exact q) (by rw [List.length_take, List.length_map]; exact smP hal HLN.out) HO9.out.g.size
                have hr11 : ERow w10 W.heap.size v10 ((i0.take a ++ i0.drop (a + 1)).map (·.1)) := by rw [List.map_append, List.map_take, List.map_drop]; exact hr10
                obtain ⟨ho12, hr12, hs12, har12, hu12⟩ := cut_row HO9.out hr9 HS9.out hu9 HA9.out HAZ.out hr11 hch10 hob10 0
                have har10 := HA9.out.chg hch10 (fun e => hr9.off HA9.out (by decide) e)
                obtain ⟨x7, y7, e7⟩ := hr11.slice
                rw [List.length_map, len_cut hal] at e7
                obtain ⟨x9, y9, e9⟩ := hr9.slice
                rw [List.length_take, List.length_map, Nat.min_eq_left (Nat.le_of_lt hal)] at e9
                have hcz := har10.cell
                have hc8 := HA8.out.cell
                have hc9 := HA9.out.cell
                have hcf := har10.frozen
                have HRUN9 := hide hrun9
                have HRUN10 := hide hrun10
                have HTF : Hid (Two W (w10.setCell ⟨ab, 0, none⟩ v10) h0 h1 f0 f1 v' v1 l' l1 t0 t1 v10 (.slice a1 i1.length c1q) (i0.take a ++ i0.drop (a + 1)) i1 ab (i + 1)) := ⟨⟨ho12, hr12, HPM.out.trans HPK.out, pw_cut HME.out.inc a, fun y hy => HME.out.tt y (mem_cut hy), HME.out.t0, Int.le_trans HME.out.t1 (smU i), by rw [len_cut hal]; exact smV HME.out.ln⟩, hs12.up, har12, HAZ.out, HHH.out, HV5.out, hu12⟩
                have hl7 : l'.length = i0.length - 1 := by rw [HTF.out.a.len]; exact len_cut hal
                subst e7
                subst e9
                clear hr9 hch9 hob9 hrun9 hrun10 hr10 hr11 hch10 hob10 ho12 hr12 hs12 har12 hu12 hu9 har10 HO8 HR8 HS8 HA8 HO9 HS9 HA9 HR9 HPK HPM HME HHU HHH HAZ HV5 hcp HNO
                go_wp2_with (first | (at_builtin; refine wpList_append_run rfl _ _ 39 rfl (.slice none 0 0) (.slice (some ⟨g, 0, none⟩) a c0q) rfl rfl HRUN9.out ?_) | (at_builtin; refine wpList_append_run rfl _ _ 39 rfl (.slice x9 a y9) (.slice (some ⟨g, ((a + 1) * 2), none⟩) (i0.length - (a + 1)) (c0q - (a + 1))) rfl rfl HRUN10.out ?_) | fail)
                clear hcz hcf hc8 hc9 HRUN9 HRUN10 HLN
                generalize w10.setCell ⟨ab, 0, none⟩ (.slice x7 (i0.length - 1) y7) = w11 at HTF ⊢
                have hcA := HTF.out.ar.cell
                have HK0 : Hid (∀ n, Calls Try.prog 10 #[ptr h0] (w11.drewN n) fun e w' => e = .returned (I (((i0.length - 1) : Nat) : Int)) ∧ w' = w11.drewN n) := fun n => by
                  have := len_eq h0 f0 _ _ _ (w11.drewN n) (HTF.out.a.o.hp.G (g_drewN _ _))
                  rw [hl7] at this
                  exact this
                have HK1 : Hid (∀ n, Calls Try.prog 10 #[ptr h1] (w11.drewN n) fun e w' => e = .returned (I ((i1.length : Nat) : Int)) ∧ w' = w11.drewN n) := fun n => by
                  have := len_eq h1 f1 _ _ _ (w11.drewN n) (HTF.out.b.o.hp.G (g_drewN _ _))
                  rw [HTF.out.b.len] at this
                  exact this
                clear hl7
                go_wp2_with fail
                go_quiet (first | (go_at_call 10; with_reducible refine Calls.quiet_of_same (HK0.out _)) | (go_at_call 10; with_reducible refine Calls.quiet_of_same (HK1.out _)))
                go_wp2_with fail
                go_roundw
                case rel => exact ⟨i + 1, _, _, _, _, _, _, _, _, _, _, by first | (rw [hw]; simp; done) | simp, hlt, HTF.out.G (g_drewN _ _)⟩
                case measure => first | exact HMS.out | (rw [hw]; exact HMS.out)
      | true =>
        rw [hsec] at c2 HS4 HT4
        cases hpop : (X i).1 with
        | false =>
          rw [hpop] at c1 HS4 HT4
          generalize hkey : (X i).2.2 = key at c3 HS4 HT4
          have HPU := hide (push_any W f1 downL HAD.out h1 v1 l1 t1 key i _ HT4.out.b.o.g HT4.out.b.o.hp (by have := HT4.out.b.len; have := HT4.out.b.ln; omega) (by have := HT4.out.b.t0; omega) (by have := HT4.out.b.t1; omega) HT4.out.b.o.h HT4.out.b.o.o)
          go_wp2_with fail
          rw [← HSB.out]
          with_reducible refine HPU.out.mono ?_
          rintro e w5 ⟨rfl, v', l', hp', hperm, hhi, hch, hown⟩
          obtain ⟨ho5, hr5, hs5, har5, hv5⟩ := push_side HT4.out.b HT4.out.a HT4.out.ar (fun b q q' => HT4.out.hv b q' q) hp' (fun o => hhi o (HT4.out.b.o.hi o)) hch hown (sep HT4.out.b.o HT4.out.a (Ne.symm HT4.out.hh) (fun b q q' => HT4.out.hv b q' q))
          have HS5 := hide (HS4.out.chg hch (HT4.out.b.o.off HS4.out (by decide) (by decide)))
          have HAR5 := hide har5
          have HR5 := hide hr5
          have HPM := hide (hperm.trans (HT4.out.b.pm.cons _))
          have HFW : Hid (i1.length + 1 ≤ 1073741824) := by show _ ≤ _; have := HT4.out.b.ln; omega
          have HZ5 := hide ho5.g.size
          have HO5 := hide ho5
          have HSO5 := hide hs5
          have HV5 := hide hv5
          have HFX := hide (And.intro HT4.out.b.inc (And.intro HT4.out.b.tt (And.intro HT4.out.b.t0 (And.intro HT4.out.b.t1 HT4.out.b.ln))))
          have HHU := hide (fun b q q' => HT4.out.hu b q' q)
          have HAZ := hide HT4.out.az
          have HHH := hide HT4.out.hh
          clear hp' hperm hhi hch hown ho5 hr5 hs5 har5 hv5 HPU HT4 HS4 c1 c2 c3 c4
          go_wp2_with fail
          refine wp_region_noPanic ?_
          refine wp_region_L (S := (fun V => (∀ j, V.cell? ⟨ab, j, none⟩ = ([.slice a0 i0.length c0q, .slice a1 i1.length c1q] : List Value)[j]?) ∧ (∀ j, V.cell? ⟨sb, j, none⟩ = ([.bool false, .bool true, I key] : List Value)[j]?))) 11 (by kernel_rfl) (⟨(HAR5.out.G (G.drew (G.refl _))).cell, (HS5.out.G (G.drew (G.refl _))).cell⟩) (fun hHeld => ?_)
          refine wpAnyL_take (i := 0) (v := ?_) rfl (by kernel_rfl) (by kernel_rfl) (by kernel_rfl) (by kernel_rfl) (fun _ _ _ h => h) (Or.inl ⟨by rfl, ?_⟩) hHeld ?_
          rotate_left 1
          · (intro w hSw; (try dsimp only at hSw); go_simp; try with_reducible rfl)
          try simp only [Act.put, List.getElem_toArray, List.getElem_cons_zero, List.setIfInBounds_toArray, List.set_cons_zero, List.set_cons_succ]
          refine wpAnyL_take (i := 1) (v := ?_) rfl (by kernel_rfl) (by kernel_rfl) (by kernel_rfl) (by kernel_rfl) (fun _ _ _ h => h) (Or.inl ⟨by rfl, ?_⟩) hHeld ?_
          rotate_left 1
          · (intro w hSw; (try dsimp only at hSw); go_simp; try with_reducible rfl)
          try simp only [Act.put, List.getElem_toArray, List.getElem_cons_zero, List.getElem_cons_succ, List.setIfInBounds_toArray, List.set_cons_zero, List.set_cons_succ]
          refine wpAnyL_take (i := 2) (v := ?_) rfl (by kernel_rfl) (by kernel_rfl) (by kernel_rfl) (by kernel_rfl) (fun _ _ _ h => h) (Or.inl ⟨by rfl, ?_⟩) hHeld ?_
          rotate_left 1
          · (intro w hSw; (try dsimp only at hSw); go_simp; try with_reducible rfl)
          try simp only [Act.put, List.getElem_toArray, List.getElem_cons_zero, List.getElem_cons_succ, List.setIfInBounds_toArray, List.set_cons_zero, List.set_cons_succ]
          refine wpAnyL_take (i := 3) (v := ?_) rfl (by kernel_rfl) (by kernel_rfl) (by kernel_rfl) (by kernel_rfl) (fun _ _ _ h => h) (Or.inl ⟨by rfl, ?_⟩) hHeld ?_
          rotate_left 1
          · (intro w hSw; obtain ⟨q1, q2⟩ := hSw; go_simp; try with_reducible rfl)
          try simp only [Act.put, List.getElem_toArray, List.getElem_cons_zero, List.getElem_cons_succ, List.setIfInBounds_toArray, List.set_cons_zero, List.set_cons_succ]
          refine wpAnyL_take (i := 4) (v := ?_) rfl (by kernel_rfl) (by kernel_rfl) (by kernel_rfl) (by kernel_rfl) (fun _ _ _ h => h) (Or.inl ⟨by rfl, ?_⟩) hHeld ?_
          rotate_left 1
          · (intro w hSw; (try dsimp only at hSw); go_simp; try with_reducible rfl)
          try simp only [Act.put, List.getElem_toArray, List.getElem_cons_zero, List.getElem_cons_succ, List.setIfInBounds_toArray, List.set_cons_zero, List.set_cons_succ]
          refine wpAnyL_take (i := 5) (v := ?_) rfl (by kernel_rfl) (by kernel_rfl) (by kernel_rfl) (by kernel_rfl) (fun _ _ _ h => h) (Or.inl ⟨by rfl, ?_⟩) hHeld ?_
          rotate_left 1
          · (intro w hSw; obtain ⟨q1, q2⟩ := hSw; go_simp; try with_reducible rfl)
          try simp only [Act.put, List.getElem_toArray, List.getElem_cons_zero, List.getElem_cons_succ, List.setIfInBounds_toArray, List.set_cons_zero, List.set_cons_succ]
          refine wpAnyL_take (i := 6) (v := ?_) rfl (by kernel_rfl) (by kernel_rfl) (by kernel_rfl) (by kernel_rfl) (fun _ _ _ h => h) (Or.inl ⟨by rfl, ?_⟩) hHeld ?_
          rotate_left 1
          · (intro w hSw; (try dsimp only at hSw); go_simp; try with_reducible rfl)
          try simp only [Act.put, List.getElem_toArray, List.getElem_cons_zero, List.getElem_cons_succ, List.setIfInBounds_toArray, List.set_cons_zero, List.set_cons_succ]
          refine wpAnyL_take (i := 7) (v := ?_) rfl (by kernel_rfl) (by kernel_rfl) (by kernel_rfl) (by kernel_rfl) (fun _ _ _ h => h) (Or.inl ⟨by rfl, ?_⟩) hHeld ?_
          rotate_left 1
          · (intro w hSw; (try dsimp only at hSw); go_simp; try with_reducible rfl)
          try simp only [Act.put, List.getElem_toArray, List.getElem_cons_zero, List.getElem_cons_succ, List.setIfInBounds_toArray, List.set_cons_zero, List.set_cons_succ]
          refine wpAnyL_one (i := 8) (by kernel_rfl) rfl (by kernel_rfl) (fun K hK => ?_)
          clear hHeld
          go_simp
          have HG6 : Hid (G w5 (w5.alloc (.cells #[I key, I (i : Int)] 26)).drew) := ((G.refl w5).alloc _).drew
          have HC6 : Hid (∀ j u, ([I key, I (i : Int)] : List Value)[j]? = some u → (w5.alloc (.cells #[I key, I (i : Int)] 26)).drew.cell? ((⟨w5.heap.size, 0, none⟩ : Addr).add j) = some u) := cell_new w5 [I key, I (i : Int)] 26
          generalize (w5.alloc (.cells #[I key, I (i : Int)] 26)).drew = w6 at HG6 HC6 ⊢
          refine hK.out _ _ (⟨(HAR5.out.G HG6.out).cell, (HS5.out.G HG6.out).cell⟩) (fun hHeld => ?_)
          clear hK K
          try simp only [Act.put, List.getElem_toArray, List.getElem_cons_zero, List.getElem_cons_succ, List.setIfInBounds_toArray, List.set_cons_zero, List.set_cons_succ]
          refine wpAnyL_one (i := 9) (by kernel_rfl) rfl (by kernel_rfl) (fun K hK => ?_)
          clear hHeld
          obtain ⟨v7, w7, hrun, hr7, hch7, hob7⟩ := app_ents w6 W.heap.size (.slice a1 i1.length c1q) (i1.map (·.1)) (HR5.out.G HG6.out) w5.heap.size 0 1 1 [(key, (i : Int))] rfl (one_ent HC6.out) (by rw [List.length_map]; exact HFW.out) (Nat.le_trans HZ5.out HG6.out.size)
          obtain ⟨x7, y7, e7⟩ := hr7.slice
          generalize hn7 : (i1.map (·.1) ++ [(key, (i : Int))]).length = n7 at e7
          have HN7 := hide hn7
          clear hn7
          subst e7
          have HR7 := hide hr7
          have HC7 := hide hch7
          have HO7 := hide hob7
          clear hr7 hch7 hob7
          refine (if_pos rfl).mpr ?_
          refine wp_of_exec (exec_append _ _ 39 rfl (.slice a1 i1.length c1q) (.slice (some ⟨w5.heap.size, 0, none⟩) 1 1) rfl rfl 39 rfl hrun) ?_
          clear hrun
          have HNA : Hid (¬ (Value.ownBlock (.slice a1 i1.length c1q) = some ab)) := fun e => (HR5.out.G HG6.out).off (HAR5.out.G HG6.out) (by decide) e
          have HNS : Hid (¬ (Value.ownBlock (.slice a1 i1.length c1q) = some sb)) := fun e => (HR5.out.G HG6.out).off (HS5.out.G HG6.out) (by decide) e
          refine hK.out _ _ (⟨((HAR5.out.G HG6.out).chg HC7.out HNA.out).cell, ((HS5.out.G HG6.out).chg HC7.out HNS.out).cell⟩) (fun hHeld => ?_)
          clear hK K
          try simp only [Act.put, List.getElem_toArray, List.getElem_cons_zero, List.getElem_cons_succ, List.setIfInBounds_toArray, List.set_cons_zero, List.set_cons_succ]
          refine wpAnyL_take (i := 10) (v := ?_) rfl (by kernel_rfl) (by kernel_rfl) (by kernel_rfl) (by kernel_rfl) (fun _ _ _ h => h) (Or.inl ⟨by rfl, ?_⟩) hHeld ?_
          rotate_left 1
          · (intro w hSw; (try dsimp only at hSw); go_simp; try with_reducible rfl)
          try simp only [Act.put, List.getElem_toArray, List.getElem_cons_zero, List.getElem_cons_succ, List.setIfInBounds_toArray, List.set_cons_zero, List.set_cons_succ]
          refine wpAnyL_last (by kernel_rfl) rfl (by kernel_rfl) (fun K hK => ?_)
          clear hHeld
          have hc7 := ((HAR5.out.G HG6.out).chg HC7.out HNA.out).cell
          have hz7 := ((HAR5.out.G HG6.out).chg HC7.out HNA.out).frozen
          go_simp
          refine hK.out _ _ ?_
          clear hK K
          refine NoPanic.normal ?_
          have HTF : Hid (Two W (w7.setCell ⟨ab, 1, none⟩ (.slice x7 n7 y7)) h0 h1 f0 f1 v0 v' l0 l' t0 (t1 + 1) (.slice a0 i0.length c0q) (.slice x7 n7 y7) i0 (i1 ++ [((key, (i : Int)), t1)]) ab (i + 1)) := by
            obtain ⟨ho8, hr8, hs8, har8, hu8⟩ := cut_row (HO5.out.G HG6.out) (HR5.out.G HG6.out) (HSO5.out.G HG6.out) HHU.out (HAR5.out.G HG6.out) HAZ.out HR7.out HC7.out HO7.out 1
            exact ⟨hs8.up, ⟨ho8, by rw [List.map_append]; exact hr8, HPM.out.trans (List.perm_append_singleton _ _).symm, by rw [List.pairwise_append]; exact ⟨HFX.out.1, by simp, fun a ha b hb => by simp at hb; subst hb; exact HFX.out.2.1 a ha⟩, fun a ha => by rcases List.mem_append.1 ha with q | q; (have := HFX.out.2.1 a q; omega); (simp at q; subst q; simp; omega), by have := HFX.out.2.2.1; omega, by have := HFX.out.2.2.2.1; omega, by have := HFX.out.2.2.2.2; simp; omega⟩, har8, HAZ.out, HHH.out, fun b q q' => HV5.out b q' q, fun b q q' => hu8 b q' q⟩
          have hl7 : l'.length = n7 := by rw [HTF.out.b.len, ← HN7.out]; simp
          clear HN7 HR7 HC7 HO7 HNA HNS HC6 HG6 HS5 HAR5 HR5 HPM HFW HZ5 HO5 HSO5 HV5 HFX HHU HAZ HHH
          generalize w7.setCell ⟨ab, 1, none⟩ (.slice x7 n7 y7) = w8 at HTF ⊢
          have hcA := HTF.out.ar.cell
          have HK0 : Hid (∀ n, Calls Try.prog 10 #[ptr h0] (w8.drewN n) fun e w' => e = .returned (I i0.length) ∧ w' = w8.drewN n) := fun n => by
            have := len_eq h0 f0 _ _ _ (w8.drewN n) (HTF.out.a.o.hp.G (g_drewN _ _))
            rw [HTF.out.a.len] at this
            exact this
          have HK1 : Hid (∀ n, Calls Try.prog 10 #[ptr h1] (w8.drewN n) fun e w' => e = .returned (I n7) ∧ w' = w8.drewN n) := fun n => by
            have := len_eq h1 f1 _ _ _ (w8.drewN n) (HTF.out.b.o.hp.G (g_drewN _ _))
            rw [hl7] at this
            exact this
          clear hl7
          go_wp2_with fail
          clear hc7 hz7 hsec hpop hkey hi hL
          go_quiet (first | (go_at_call 10; with_reducible refine Calls.quiet_of_same (HK0.out _)) | (go_at_call 10; with_reducible refine Calls.quiet_of_same (HK1.out _)))
          go_wp2_with fail
          go_roundw
          case rel => exact ⟨i + 1, _, _, _, _, _, _, _, _, _, _, by first | (rw [hw]; simp; done) | simp, hlt, HTF.out.G (g_drewN _ _)⟩
          case measure => first | exact HMS.out | (rw [hw]; exact HMS.out)
        | true =>
          rw [hpop] at c1 HS4 HT4
          generalize hkey : (X i).2.2 = key at c3 HS4 HT4
          cases i1 with
          | nil =>
            obtain rfl : l1 = [] := List.eq_nil_of_length_eq_zero (by simpa using HT4.out.b.len)
            have HPO := hide (pop_none h1 f1 v1 t1 _ HT4.out.b.o.hp)
            have qn : ∀ w : World, (binOp .neq 26 (.agg #[I 0, I 0]) (.agg #[I 0, I 0])).run Try.prog w = .ok (.bool false) w := neqE 0 0
            go_wp2_with fail
            rw [← HSB.out]
            with_reducible refine HPO.out.mono ?_
            rintro e w5 ⟨rfl, hg5⟩
            have HT6 := hide ((HT4.out.G hg5).G ((G.refl w5).alloc (.cells #[I 0, I 0] 26)))
            obtain ⟨xb, hxb⟩ : ∃ xb, xb = w5.heap.size := ⟨_, rfl⟩
            have HX6 : Hid (Blk (w5.alloc (.cells #[I 0, I 0] 26)) xb 26 [I 0, I 0]) := by rw [hxb]; exact Blk.new w5 [I 0, I 0] 26
            have HXB := hide hxb
            clear hxb hg5 HPO HT4 HS4 c1 c2 c3 c4
            have hcA := HT6.out.ar.cell
            go_wp2_with fail
            rw [← HXB.out]
            generalize w5.alloc (.cells #[I 0, I 0] 26) = w6 at HT6 HX6 hcA ⊢
            have hpf := first_d a1 c1q W.heap.size [] (by simp) w6 HT6.out.b.r
            rw [List.length_nil] at hpf
            with_reducible refine hpf.mono ?_
            clear hpf
            rintro e w7 ⟨⟨r, rfl, hr⟩, hg7⟩
            obtain rfl : r = -1 := by
              rcases hr with ⟨_, q⟩ | ⟨a, _, y, _, q, _⟩
              · exact q
              · omega
            have HT7 := hide (HT6.out.G hg7)
            have HX7 := hide (HX6.out.G hg7)
            clear hr hg7 HT6 HX6 hcA
            have hcA := HT7.out.ar.cell
            have hcX := HX7.out.cell
            clear hsec hpop hkey hi hL
            go_wp2_with fail
            go_quiet (fail)
            generalize hw8 : World.drewN w7 _ = w8
            have HTF : Hid (Two W w8 h0 h1 f0 f1 v0 v1 l0 [] t0 t1 (.slice a0 i0.length c0q) (.slice a1 0 c1q) i0 [] ab (i + 1)) := by
              have q := HT7.out.G (show G w7 w8 from by rw [← hw8]; exact g_drewN _ _)
              exact ⟨q.a.up, q.b.up, q.ar, q.az, q.hh, q.hv, q.hu⟩
            clear hw8 HT7 HX7 hcA hcX
            have hcA := HTF.out.ar.cell
            have HK0 : Hid (∀ n, Calls Try.prog 10 #[ptr h0] (w8.drewN n) fun e w' => e = .returned (I ((i0.length : Nat) : Int)) ∧ w' = w8.drewN n) := fun n => by
              have := len_eq h0 f0 _ _ _ (w8.drewN n) (HTF.out.a.o.hp.G (g_drewN _ _))
              rw [HTF.out.a.len] at this
              exact this
            have HK1 : Hid (∀ n, Calls Try.prog 10 #[ptr h1] (w8.drewN n) fun e w' => e = .returned (I ((0 : Nat) : Int)) ∧ w' = w8.drewN n) := fun n => by
              have := len_eq h1 f1 _ _ _ (w8.drewN n) (HTF.out.b.o.hp.G (g_drewN _ _))
              rw [HTF.out.b.len] at this
              exact this
            go_wp2_with fail
            go_quiet (first | (go_at_call 10; with_reducible refine Calls.quiet_of_same (HK0.out _)) | (go_at_call 10; with_reducible refine Calls.quiet_of_same (HK1.out _)))
            go_wp2_with fail
            go_roundw
            case rel => exact ⟨i + 1, _, _, _, _, _, _, _, _, _, _, by first | (rw [hw]; simp; done) | simp, hlt, HTF.out.G (g_drewN _ _)⟩
            case measure => first | exact HMS.out | (rw [hw]; exact HMS.out)
          | cons p1 ps1 =>
            have hpos : 0 < (p1 :: ps1).length := Nat.succ_pos _
            generalize p1 :: ps1 = i1 at HT4 hpos ⊢
            cases l1 with
            | nil => exact absurd HT4.out.b.len (by simp; omega)
            | cons x l =>
              obtain ⟨⟨xk, xt⟩, xu⟩ := x
              have hll := HT4.out.b.len
              have hln := HT4.out.b.ln
              have HPO := hide (pop_some W f1 downL HAD.out h1 v1 ((xk, xt), xu) l t1 _ HT4.out.b.o.g HT4.out.b.o.hp (by simp at hll; omega) HT4.out.b.o.h HT4.out.b.o.o)
              have HLN : Hid (i1.length ≤ 1048576) := Nat.le_trans hln (Nat.le_trans hi hL)
              clear hll hln
              go_wp2_with fail
              rw [← HSB.out]
              with_reducible refine HPO.out.mono ?_
              rintro e w5 ⟨rfl, v', l', hp', hperm, hhi, hch, hob⟩
              obtain ⟨ho5, hr5, hs5, har5, hv5⟩ := push_side HT4.out.b HT4.out.a HT4.out.ar (fun b q q' => HT4.out.hv b q' q) hp' (fun o => hhi o (HT4.out.b.o.hi o)) hch (.inl hob) (sep HT4.out.b.o HT4.out.a (Ne.symm HT4.out.hh) (fun b q q' => HT4.out.hv b q' q))
              have HME := hide HT4.out.b
              have HHU := hide (fun b q q' => HT4.out.hu b q' q)
              have HAZ := hide HT4.out.az
              have HHH := hide HT4.out.hh
              have HPM := hide hperm
              have HV5 := hide hv5
              obtain ⟨xb, hxb⟩ : ∃ xb, xb = w5.heap.size := ⟨_, rfl⟩
              have HX6 : Hid (Blk (w5.alloc (.cells #[I xk, I xt] 26)) xb 26 [I xk, I xt]) := by rw [hxb]; exact Blk.new w5 [I xk, I xt] 26
              have HXB := hide hxb
              have hga := (G.refl w5).alloc (.cells #[I xk, I xt] 26)
              have HO6 := hide (ho5.G hga)
              have HR6 := hide (hr5.G hga)
              have HS6 := hide (hs5.G hga)
              have HA6 := hide (har5.G hga)
              have hcA := har5.cell
              have hcB := (har5.G hga).cell
              clear hxb hga hp' hperm hhi hch hob ho5 hr5 hs5 har5 hv5 HPO HT4 HS4 c1 c2 c3 c4
              go_wp2_with fail
              rw [← HXB.out]
              generalize w5.alloc (.cells #[I xk, I xt] 26) = w6 at HX6 HO6 HR6 HS6 HA6 hcB ⊢
              have hpf := first_d a1 c1q W.heap.size (i1.map (·.1)) (by rw [List.length_map]; exact HLN.out) w6 (by rw [List.length_map]; exact HR6.out)
              rw [List.length_map] at hpf
              with_reducible refine hpf.mono ?_
              clear hpf hcA hcB
              rintro e w7 ⟨⟨r, rfl, hr⟩, hg7⟩
              obtain ⟨a, rfl, hf⟩ : ∃ a : Nat, r = a ∧ IsFirst downL (i1.map (·.1)) i1.length a := by
                rcases hr with ⟨q, _⟩ | q
                · have q2 := congrArg List.length q
                  rw [List.length_map, List.length_nil] at q2
                  omega
                · exact q
              obtain ⟨hxa, hpk⟩ := HME.out.pick wo_down hf
              have hal : a < i1.length := (List.getElem?_eq_some_iff.1 hxa).1
              have HPK := hide hpk
              have HO7 := hide (HO6.out.G hg7)
              have HR7 := hide (HR6.out.G hg7)
              have HS7 := hide (HS6.out.G hg7)
              have HA7 := hide (HA6.out.G hg7)
              have HX7 := hide (HX6.out.G hg7)
              obtain ⟨g, rfl⟩ : ∃ g, a1 = some ⟨g, 0, none⟩ := by
                obtain ⟨g, cap, e⟩ := own_block HR7.out (by rw [List.length_map]; omega)
                simp only [Value.slice.injEq] at e
                exact ⟨g, e.1⟩
              have hea : (i1.map (·.1))[a]? = some (xk, xt) := by rw [List.getElem?_map, hxa]; rfl
              obtain ⟨d1, d2⟩ := HR7.out.at hea
              have hcA := HA7.out.cell
              have hcX := HX7.out.cell
              have qn : ∀ w : World, (binOp .neq 26 (.agg #[I xk, I xt]) (.agg #[I xk, I xt])).run Try.prog w = .ok (.bool false) w := neqE xk xt
              have z1 : (a : Int) < i1.length := by omega
              have z2 : ¬ ((a : Int) < 0) := by omega
              have z3 : decide ((a : Int) < 0) = false := decide_eq_false z2
              have z4 : (0 : Int) ≤ a := by omega
              clear hr hg7 hf hpk HO6 HR6 HS6 HA6 HX6 hxa hsec hpop hkey hi hL hea
              go_wp2_with fail
              go_quiet (fail)
              generalize hw8 : World.drewN w7 _ = w8
              have hg8 : G w7 w8 := by rw [← hw8]; exact g_drewN _ _
              have HO8 := hide (HO7.out.G hg8)
              have HR8 := hide (HR7.out.G hg8)
              have HS8 := hide (HS7.out.G hg8)
              have HA8 := hide (HA7.out.G hg8)
              clear hw8 hg8 HO7 HR7 HS7 HA7 HX7 hcA hcX d1 d2 qn
              have hcp := HR8.out.cap
              rw [List.length_map] at hcp
              obtain ⟨v9, w9, hrun9, hr9, hch9, hob9⟩ := app_ents w8 W.heap.size (.slice none 0 0) [] (ERow.nil _ _) g 0 a c1q ((i1.map (·.1)).take a) (by rw [List.length_take, List.length_map]; exact Nat.min_eq_left (Nat.le_of_lt hal)) (fun j y hj => by
                rw [List.getElem?_take] at hj
                rw [Nat.zero_add]
                split at hj
                · exact HR8.out.at hj
                · cases hj) (smQ hal HLN.out) HO8.out.g.size
              rw [List.nil_append] at hr9
              have HNO : ∀ b, ¬ ((Value.slice none 0 0).ownBlock = some b) := fun b q => by simp [Value.ownBlock] at q
              have HO9 := hide (HO8.out.chg hch9 (fun b q => absurd q (HNO b)))
              have HR9 := hide (HR8.out.chg hch9 (fun b _ q => HNO b q))
              have HS9 := hide (HS8.out.chg hch9 (fun b q => absurd q (HNO b)))
              have HA9 := hide (HA8.out.chg hch9 (HNO _))
              have hu9 : ∀ b, v9.ownBlock = some b → Value.ownBlock (.slice a0 i0.length c0q) ≠ some b := fun b q q' => by
                rcases hob9 with e | e
                · rw [e] at q; exact HNO b q
                · rw [e] at q
                  have e2 : w8.heap.size = b := Option.some.inj q
                  have := own_lt HS8.out.r q'
                  omega
              have g1 : ¬ ((c1q : Int) < a) := smR hal hcp
              have g2 : ¬ ((i1.length : Int) < a + 1) := smS hal
              have g3 : wrap64 ((a : Int) + 1) = (a : Int) + 1 := smT hal HLN.out
              by_cases hce : c1q = a + 1
              · subst hce
                obtain ⟨v10, w10, hrun10, hr10, hch10, hob10⟩ := app_ents w9 W.heap.size v9 ((i1.map (·.1)).take a) hr9 g 0 (i1.length - (a + 1)) 0 ((i1.map (·.1)).drop (a + 1)) (by rw [List.length_drop, List.length_map]) (fun j y hj => by
                  rw [List.getElem?_drop] at hj
                  have q1 := (List.getElem?_eq_some_iff.1 hj).1
                  rw [List.length_map] at q1
                  exact absurd q1 (smI rfl hcp)) (by rw [List.length_take, List.length_map]; exact smP hal HLN.out) HO9.out.g.size
                have hr11 : ERow w10 W.heap.size v10 ((i1.take a ++ i1.drop (a + 1)).map (·.1)) := by rw [List.map_append, List.map_take, List.map_drop]; exact hr10
                obtain ⟨ho12, hr12, hs12, har12, hu12⟩ := cut_row HO9.out hr9 HS9.out hu9 HA9.out HAZ.out hr11 hch10 hob10 1
                have har10 := HA9.out.chg hch10 (fun e => hr9.off HA9.out (by decide) e)
                obtain ⟨x7, y7, e7⟩ := hr11.slice
                rw [List.length_map, len_cut hal] at e7
                obtain ⟨x9, y9, e9⟩ := hr9.slice
                rw [List.length_take, List.length_map, Nat.min_eq_left (Nat.le_of_lt hal)] at e9
                have hcz := har10.cell
                have hc8 := HA8.out.cell
                have hc9 := HA9.out.cell
                have hcf := har10.frozen
                have HRUN9 := hide hrun9
                have HRUN10 := hide hrun10
                have HTF : Hid (Two W (w10.setCell ⟨ab, 1, none⟩ v10) h0 h1 f0 f1 v0 v' l0 l' t0 t1 (.slice a0 i0.length c0q) v10 i0 (i1.take a ++ i1.drop (a + 1)) ab (i + 1)) := ⟨hs12.up, ⟨ho12, hr12, HPM.out.trans HPK.out, pw_cut HME.out.inc a, fun y hy => HME.out.tt y (mem_cut hy), HME.out.t0, Int.le_trans HME.out.t1 (smU i), by rw [len_cut hal]; exact smV HME.out.ln⟩, har12, HAZ.out, HHH.out, fun b q q' => HV5.out b q' q, fun b q q' => hu12 b q' q⟩
                have hl7 : l'.length = i1.length - 1 := by rw [HTF.out.b.len]; exact len_cut hal
                subst e7
                subst e9
                clear hr9 hch9 hob9 hrun9 hrun10 hr10 hr11 hch10 hob10 ho12 hr12 hs12 har12 hu12 hu9 har10 HO8 HR8 HS8 HA8 HO9 HS9 HA9 HR9 HPK HPM HME HHU HHH HAZ HV5 hcp HNO
                go_wp2_with (first | (at_builtin; refine wpList_append_run rfl _ _ 39 rfl (.slice none 0 0) (.slice (some ⟨g, 0, none⟩) a (a + 1)) rfl rfl HRUN9.out ?_) | (at_builtin; refine wpList_append_run rfl _ _ 39 rfl (.slice x9 a y9) (.slice (some ⟨g, 0, none⟩) (i1.length - (a + 1)) 0) rfl rfl HRUN10.out ?_) | fail)
                clear hcz hcf hc8 hc9 HRUN9 HRUN10 HLN
                generalize w10.setCell ⟨ab, 1, none⟩ (.slice x7 (i1.length - 1) y7) = w11 at HTF ⊢
                have hcA := HTF.out.ar.cell
                have HK0 : Hid (∀ n, Calls Try.prog 10 #[ptr h0] (w11.drewN n) fun e w' => e = .returned (I ((i0.length : Nat) : Int)) ∧ w' = w11.drewN n) := fun n => by
                  have := len_eq h0 f0 _ _ _ (w11.drewN n) (HTF.out.a.o.hp.G (g_drewN _ _))
                  rw [HTF.out.a.len] at this
                  exact this
                have HK1 : Hid (∀ n, Calls Try.prog 10 #[ptr h1] (w11.drewN n) fun e w' => e = .returned (I (((i1.length - 1) : Nat) : Int)) ∧ w' = w11.drewN n) := fun n => by
                  have := len_eq h1 f1 _ _ _ (w11.drewN n) (HTF.out.b.o.hp.G (g_drewN _ _))
                  rw [hl7] at this
                  exact this
                clear hl7
                go_wp2_with fail
                go_quiet (first | (go_at_call 10; with_reducible refine Calls.quiet_of_same (HK0.out _)) | (go_at_call 10; with_reducible refine Calls.quiet_of_same (HK1.out _)))
                go_wp2_with fail
                go_roundw
                case rel => exact ⟨i + 1, _, _, _, _, _, _, _, _, _, _, by first | (rw [hw]; simp; done) | simp, hlt, HTF.out.G (g_drewN _ _)⟩
                case measure => first | exact HMS.out | (rw [hw]; exact HMS.out)
              · obtain ⟨v10, w10, hrun10, hr10, hch10, hob10⟩ := app_ents w9 W.heap.size v9 ((i1.map (·.1)).take a) hr9 g ((a + 1) * 2) (i1.length - (a + 1)) (c1q - (a + 1)) ((i1.map (·.1)).drop (a + 1)) (by rw [List.length_drop, List.length_map]) (fun j y hj => by
                  rw [List.getElem?_drop] at hj
                  have q := HR9.out.at hj
                  rw [show (a + 1) * 2 + j * 2 = (a + 1 + j) * 2 by omega]
                  exact q) (by rw [List.length_take, List.length_map]; exact smP hal HLN.out) HO9.out.g.size
                have hr11 : ERow w10 W.heap.size v10 ((i1.take a ++ i1.drop (a + 1)).map (·.1)) := by rw [List.map_append, List.map_take, List.map_drop]; exact hr10
                obtain ⟨ho12, hr12, hs12, har12, hu12⟩ := cut_row HO9.out hr9 HS9.out hu9 HA9.out HAZ.out hr11 hch10 hob10 1
                have har10 := HA9.out.chg hch10 (fun e => hr9.off HA9.out (by decide) e)
                obtain ⟨x7, y7, e7⟩ := hr11.slice
                rw [List.length_map, len_cut hal] at e7
                obtain ⟨x9, y9, e9⟩ := hr9.slice
                rw [List.length_take, List.length_map, Nat.min_eq_left (Nat.le_of_lt hal)] at e9
                have hcz := har10.cell
                have hc8 := HA8.out.cell
                have hc9 := HA9.out.cell
                have hcf := har10.frozen
                have HRUN9 := hide hrun9
                have HRUN10 := hide hrun10
                have HTF : Hid (Two W (w10.setCell ⟨ab, 1, none⟩ v10) h0 h1 f0 f1 v0 v' l0 l' t0 t1 (.slice a0 i0.length c0q) v10 i0 (i1.take a ++ i1.drop (a + 1)) ab (i + 1)) := ⟨hs12.up, ⟨ho12, hr12, HPM.out.trans HPK.out, pw_cut HME.out.inc a, fun y hy => HME.out.tt y (mem_cut hy), HME.out.t0, Int.le_trans HME.out.t1 (smU i), by rw [len_cut hal]; exact smV HME.out.ln⟩, har12, HAZ.out, HHH.out, fun b q q' => HV5.out b q' q, fun b q q' => hu12 b q' q⟩
                have hl7 : l'.length = i1.length - 1 := by rw [HTF.out.b.len]; exact len_cut hal
                subst e7
                subst e9
                clear hr9 hch9 hob9 hrun9 hrun10 hr10 hr11 hch10 hob10 ho12 hr12 hs12 har12 hu12 hu9 har10 HO8 HR8 HS8 HA8 HO9 HS9 HA9 HR9 HPK HPM HME HHU HHH HAZ HV5 hcp HNO
                go_wp2_with (first | (at_builtin; refine wpList_append_run rfl _ _ 39 rfl (.slice none 0 0) (.slice (some ⟨g, 0, none⟩) a c1q) rfl rfl HRUN9.out ?_) | (at_builtin; refine wpList_append_run rfl _ _ 39 rfl (.slice x9 a y9) (.slice (some ⟨g, ((a + 1) * 2), none⟩) (i1.length - (a + 1)) (c1q - (a + 1))) rfl rfl HRUN10.out ?_) | fail)
                clear hcz hcf hc8 hc9 HRUN9 HRUN10 HLN
                generalize w10.setCell ⟨ab, 1, none⟩ (.slice x7 (i1.length - 1) y7) = w11 at HTF ⊢
                have hcA := HTF.out.ar.cell
                have HK0 : Hid (∀ n, Calls Try.prog 10 #[ptr h0] (w11.drewN n) fun e w' => e = .returned (I ((i0.length : Nat) : Int)) ∧ w' = w11.drewN n) := fun n => by
                  have := len_eq h0 f0 _ _ _ (w11.drewN n) (HTF.out.a.o.hp.G (g_drewN _ _))
                  rw [HTF.out.a.len] at this
                  exact this
                have HK1 : Hid (∀ n, Calls Try.prog 10 #[ptr h1] (w11.drewN n) fun e w' => e = .returned (I (((i1.length - 1) : Nat) : Int)) ∧ w' = w11.drewN n) := fun n => by
                  have := len_eq h1 f1 _ _ _ (w11.drewN n) (HTF.out.b.o.hp.G (g_drewN _ _))
                  rw [hl7] at this
                  exact this
                clear hl7
                go_wp2_with fail
                go_quiet (first | (go_at_call 10; with_reducible refine Calls.quiet_of_same (HK0.out _)) | (go_at_call 10; with_reducible refine Calls.quiet_of_same (HK1.out _)))
                go_wp2_with fail
                go_roundw
                case rel => exact ⟨i + 1, _, _, _, _, _, _, _, _, _, _, by first | (rw [hw]; simp; done) | simp, hlt, HTF.out.G (g_drewN _ _)⟩
                case measure => first | exact HMS.out | (rw [hw]; exact HMS.out)
    · obtain rfl : i = L := by omega
      have hiI : ¬ ((i : Int) < i) := by omega
      have HG := hide HT.out.a.o.g
      clear HT
      go_wp2_with fail
      go_ret
      exact ⟨rfl, HG.out⟩
theorem heap_law (u : Value) (L : Nat) (X : Nat → Bool × Bool × Int) (hL : L ≤ 1048576) (W : World) (hu : ∃ a cap, u = .slice a L cap ∧ (L = 0 ∨ ∃ b off, a = some ⟨b, off, none⟩ ∧ Steps W b off L X)) : Calls Try.prog 5 #[u] W fun e W' => e = .returned (.bool true) ∧ G W W' := by
  obtain ⟨a, cap, rfl, h⟩ := hu
  exact heap_any a L cap X hL W h
end Go.Proofs.Ytbhbmcgjfcgdgaa
