/- crashes: the choice that is handed in comes back untouched. -/
import Derived.Test.YtbjbphhcmmaaoaaOw11
namespace Go.Proofs.Ytbjbphhcmmaaoaa
open Go.RowKit

/-- 'append([]bool(nil), keep...)', as a row of one's own. -/
theorem app_ownK (ty : TypeId) {w : World} {kv : Value} {ks : List Bool} (hkl : ks.length ≤ 1073741824) (hk : Keeps w kv ks) (hv : kv = .slice none 0 0 ∨ ∃ ad n c, kv = .slice (some ad) n c) :
    ∃ v' w', (Builtin.append_ #[23, 23] ty #[.slice none 0 0, kv]).run Try.prog w = .ok v' w' ∧ G w w' ∧ w'.ownsRow w.heap.size 4 1 v' ks.length (ks.map .bool) := by
  obtain ⟨i, hi, hz0, hz1, hz2⟩ := info_bool
  obtain ⟨ka, kc, rfl, hkc, hcs⟩ := hk
  rcases hv with hv | ⟨ad, n, c, hv⟩
  · simp only [Value.slice.injEq] at hv
    obtain ⟨rfl, hl0, rfl⟩ := hv
    have hk0 : ks = [] := List.eq_nil_of_length_eq_zero hl0
    subst hk0
    exact ⟨.slice none 0 0, w, run_append_owned_none (P := Try.prog) w 0 23 ty 4 i 1 Try.underlying23 hi (.slice none 0 0) 0 [] (World.ownsRow_nil _ _ _ _), G.refl _, World.ownsRow_nil _ _ _ _⟩
  · simp only [Value.slice.injEq] at hv
    obtain ⟨rfl, _, _⟩ := hv
    obtain ⟨v', w', hr, q2, q3, _, q5⟩ := run_append_own_at (P := Try.prog) w w.heap.size 23 ty 4 i _ 1 1 Try.underlying23 hi hz0 hz1 hz2 rfl (by decide) (.slice none 0 0) 0 [] (World.ownsRow_nil _ _ _ _) ad ks.length kc (ks.map .bool) (by simp) (fun j u hj => by
      rcases hcs with h | ⟨kb, ko, h, hc⟩
      · rw [h] at hj; simp at hj
      · cases h
        rw [List.getElem?_map, Option.map_eq_some_iff] at hj
        obtain ⟨b, hb, rfl⟩ := hj
        rw [Addr.add_mid]
        exact hc j b hb) (fun u hu => by obtain ⟨b, _, rfl⟩ := List.mem_map.1 hu; rfl) (by unfold maxLen; omega) (by omega) (Nat.le_refl _)
    rw [Nat.zero_add, List.nil_append] at q2
    exact ⟨v', w', hr, ⟨q3.os, q3.tape, q3.output, q3.size, fun k hk => q3.block k hk (by simp [Value.ownBlock])⟩, q2⟩
theorem StepA.turn {w wb w' w'' : World} {t s g : Nat} {cs : List Value} {FP FR : Nat → Prop} {B : Nat} (h : StepA wb t s cs FP FR B w') (gb : G w wb) (k : Chg (fun j => j = g) w' w'') (h1 : w.heap.size ≤ g) (h2 : g < wb.heap.size) (hF : ∀ j, FP j ∨ FR j ∨ j = t → j < w.heap.size) : StepA w t s cs FP FR B w'' := by
  obtain ⟨cs', pv', rv', FP', FR', mo', s1, c1, n1, o1, f1⟩ := h
  refine ⟨cs', pv', rv', FP', FR', mo', s1.chg k (fun j hj e => ?_), (gb.chg.trans c1).more k (fun j hj e => by omega), fun k hk => (n1 k hk).imp id (fun x => x.imp id (fun y => Nat.le_trans gb.size y)), o1, f1⟩
  subst e
  have hn : ¬ (FP' j ∨ FR' j) := fun hk => by
    rcases n1 j hk with e | e | e
    · have := hF j (.inl e); omega
    · have := hF j (.inr (.inl e)); omega
    · omega
  rcases hj with hj | hj | hj
  · exact hn (.inl hj)
  · exact hn (.inr hj)
  · have := hF j (.inr (.inr hj)); omega
set_option maxRecDepth 100000 in
set_option maxHeartbeats 8000000 in
theorem crashes_any (who n : Int) (dv kv : Value) (t s : Nat) (cs : List Value) (pv rv : Value) (FP FR : Nat → Prop) (mo : Option DM) (B : Nat) (hw : bits BinOp.and IntKind.i64 who 1 = (s : Int)) (hBB : B ≤ 549755813888) (ks : List Bool) (hkl : ks.length ≤ 1073741824) (w : World) (hkv : Keeps w kv ks) (hks : kv = .slice none 0 0 ∨ ∃ ad n c, kv = .slice (some ad) n c) (hkF : ∀ j, Value.blk kv j → ¬ FP j ∧ ¬ FR j) (hB : fewO mo B) (h : SS w t s cs pv rv FP FR mo) : Calls Try.prog 20 #[.pointer (some ⟨t, 0, none⟩), .agg #[I 8, I who, I n, dv, kv]] w fun e w' => e = .returned (.bool true) ∧ StepA w t s cs FP FR B w' := by
  have hBf : fewO mo 549755813888 := fun m e => by obtain ⟨h1, h2, h3⟩ := hB m e; exact ⟨by omega, by omega, by omega⟩
  have HRD := hide (fun W v (hW : SlP W FP pv mo) (hk : Keeps W v ks) (hF : ∀ j, Value.blk v j → ¬ FP j) => uP_crash FP mo pv v ks hBf (by omega) W hW hk hF)
  have HRR := hide (fun W v (hW : SlR W FR rv mo) (hk : Keeps W v ks) (hF : ∀ j, Value.blk v j → ¬ FR j) => uR_crash FR mo rv v ks hBf (by omega) W hW hk hF)
  have HKV := hide hkv
  have HKS := hide hks
  have HKF := hide hkF
  have HKL := hide hkl
  obtain ⟨ka, kc, ek, hkc, _⟩ := hkv
  subst ek
  clear hBf hks hkF
  have HS0 := hide h
  have hs2 := h.s2
  have HO1 := hide (Blk.new w [I 8, I who, I n, dv, (.slice ka ks.length kc)] 39)
  have HG1 := hide ((G.refl w).alloc (.cells #[I 8, I who, I n, dv, (.slice ka ks.length kc)] 39))
  have HB := hide hB
  have hsI : (s : Int) < 2 := by omega
  have hsw : IntKind.i64.wrap (s : Int) = s := by rw [IntKind.wrap_i64]; omega
  have HNP : Hid (¬ FP t) := fun e => (HS0.out.d2 t (.inl e)).1 rfl
  have HNR : Hid (¬ FR t) := fun e => (HS0.out.d2 t (.inr e)).1 rfl
  have HOP : Hid (¬ FP w.heap.size) := fun e => by have := (HS0.out.d2 _ (.inl e)).2; omega
  have HOR : Hid (¬ FR w.heap.size) := fun e => by have := (HS0.out.d2 _ (.inr e)).2; omega
  have HFL : Hid (∀ j, FP j ∨ FR j ∨ j = t → j < w.heap.size) := fun j hj => by
    rcases hj with e | e | e
    · exact (HS0.out.d2 j (.inl e)).2
    · exact (HS0.out.d2 j (.inr e)).2
    · exact e ▸ HS0.out.bt.lt
  have hlI : (ks.length : Int) ≤ 1073741824 := by omega
  clear h hB
  have hs1 : w.heap.size < (w.alloc (.cells #[I 8, I who, I n, dv, (.slice ka ks.length kc)] 39)).heap.size := by simp
  have hco := HO1.out.cell
  obtain ⟨v2, w2, hrun, hg2, ho2⟩ := app_ownK 23 HKL.out (HKV.out.G HG1.out) HKS.out
  have HRUN := hide hrun
  obtain ⟨i0, hi0, hz0, hz1, hz2⟩ := info_bool
  obtain ⟨v3, wb, hrun3, hrow3, hap3⟩ := app_stayN (P := Try.prog) (w2.alloc (.cells #[.bool true, .bool false, .bool true] 4)) (w.alloc (.cells #[I 8, I who, I n, dv, (.slice ka ks.length kc)] 39)).heap.size 23 23 4 i0 _ 1 1 Try.underlying23 hi0 hz0 hz1 hz2 rfl (by decide) v2 ks.length (ks.map .bool) (own_G ho2 ((G.refl _).alloc _)) ⟨w2.heap.size, 0, none⟩ 3 3 (by decide) [.bool true, .bool false, .bool true] rfl (fun j u hj => by rw [Addr.add_mid, Nat.zero_add, (Blk.new w2 [.bool true, .bool false, .bool true] 4).cell]; exact hj) (fun u hu => by simp at hu; rcases hu with rfl | rfl | rfl <;> rfl) (by unfold maxLen; omega) (by omega) (by have := hg2.size; simp; omega)
  have HRUN3 := hide hrun3
  obtain ⟨g, gc, rfl⟩ := own_block hrow3 (by omega)
  have HROW := hide hrow3
  have HGB : Hid (G (w.alloc (.cells #[I 8, I who, I n, dv, (.slice ka ks.length kc)] 39)) wb) := by
    have g1 := hg2.alloc (.cells #[.bool true, .bool false, .bool true] 4)
    rcases hap3 with ⟨_, _, c7⟩ | ⟨_, g7⟩
    · exact ((g1.chg (F := fun j => (w.alloc (.cells #[I 8, I who, I n, dv, (.slice ka ks.length kc)] 39)).heap.size ≤ j)).more c7 (fun j hj e => (World.ownsRow.lt ho2 j e).1)).G (fun j hj => hj)
    · exact g1.trans g7
  have HGL : Hid ((w.alloc (.cells #[I 8, I who, I n, dv, (.slice ka ks.length kc)] 39)).heap.size ≤ g ∧ g < wb.heap.size) := World.ownsRow.lt hrow3 g rfl
  have hgc : (ks.length : Int) + 3 ≤ (gc : Int) := by
    rcases hrow3.2 with ⟨h0, _⟩ | ⟨_, _, _, h0, _, _, hc, _⟩
    · cases h0
    · cases h0; omega
  have hcw2 := (HO1.out.G hg2).cell
  have hco2 := (HO1.out.G HGB.out).cell
  obtain ⟨v2a, v2n, v2c, ev2⟩ : ∃ a n c, v2 = .slice a n c := by
    rcases ho2.2 with ⟨rfl, _⟩ | ⟨_, _, _, rfl, _⟩
    · exact ⟨_, _, _, rfl⟩
    · exact ⟨_, _, _, rfl⟩
  subst ev2
  clear hrun hg2 ho2 hi0 hz0 hz1 hz2 hrun3 hrow3 hap3
  have HSB := hide (HS0.out.G (HG1.out.trans HGB.out))
  have HKB := hide (HKV.out.G (HG1.out.trans HGB.out))
  have HHB := hide (HSB.out.hd (HO1.out.G HGB.out))
  obtain ⟨hp0, hr0, _⟩ := HHB.out
  go_enter Try.func20, Try.ntmps20
  go_wp2_with (first | (at_builtin; refine wpList_append_run rfl _ _ 23 rfl (.slice none 0 0) (.slice ka ks.length kc) rfl rfl HRUN.out ?_) | (at_builtin; refine wpList_append_run rfl _ _ 23 rfl (.slice v2a v2n v2c) (.slice (some ⟨w2.heap.size, 0, none⟩) 3 3) rfl rfl HRUN3.out ?_) | fail)
  generalize w.alloc (.cells #[I 8, I who, I n, dv, (.slice ka ks.length kc)] 39) = w1 at *
  clear HRUN HRUN3 hco hcw2
  have HKK : Hid (∀ W, W.ownsRow w1.heap.size 4 1 (.slice (some ⟨g, 0, none⟩) (ks.length + 3) gc) (ks.length + 3) (ks.map .bool ++ [.bool true, .bool false, .bool true]) → Keeps W (.slice (some ⟨g, 0, none⟩) ks.length gc) ks) := fun W ho => ⟨_, _, rfl, by omega, .inr ⟨g, 0, rfl, fun i b hi => by
    have := World.ownsRow.cells ho (g := g) rfl i (.bool b) (by rw [List.getElem?_append_left (by rw [List.length_map]; exact (List.getElem?_eq_some_iff.1 hi).1), List.getElem?_map, hi]; rfl)
    rw [Addr.add_mid] at this
    exact this⟩⟩
  have HNG : Hid (¬ FP g ∧ ¬ FR g ∧ g ≠ t ∧ g ≠ w.heap.size) := by
    have h1 := HGL.out
    refine ⟨fun e => ?_, fun e => ?_, fun e => ?_, fun e => ?_⟩
    · have := HFL.out g (.inl e); omega
    · have := HFL.out g (.inr (.inl e)); omega
    · have := HFL.out g (.inr (.inr e)); omega
    · omega
  refine (HRD.out wb (.slice (some ⟨g, 0, none⟩) ks.length gc) HSB.out.sp (HKK.out _ HROW.out) (fun j hj e => ?_)).mono ?_
  · have := blk_own hj
    simp [Value.ownBlock] at this
    exact HNG.out.1 (this ▸ e)
  rintro e' w3 ⟨rfl, hsl, hch⟩
  have HL3 := hide hsl
  have HC3 := hide hch
  clear hsl hch hp0 hr0 hco2
  go_wp2_with fail
  refine wp_region_noPanic ?_
  refine wp_region_held_drew (S := (fun W => Hd W t s w.heap.size pv rv [I 8, I who, I n, dv, (.slice ka ks.length kc)])) (by kernel_rfl) (((HHB.out.chg HC3.out (by simp) HNP.out HOP.out).G (G.drew (G.refl _)) (by simp))) (fun hHeld => ?_)
  refine wpAnyH_take (i := 0) (v := ?_) rfl (by kernel_rfl) (by kernel_rfl) (by kernel_rfl) (fun _ _ _ h => h) (Or.inl ⟨by rfl, ?_⟩) hHeld ?_
  rotate_left 1
  · (intro w hSw; (try dsimp only at hSw); go_simp; try with_reducible rfl)
  try simp only [Act.put, List.getElem_toArray, List.getElem_cons_zero, List.setIfInBounds_toArray, List.set_cons_zero, List.set_cons_succ]
  refine wpAnyH_take (i := 1) (v := ?_) rfl (by kernel_rfl) (by kernel_rfl) (by kernel_rfl) (fun _ _ _ h => h) (Or.inl ⟨by rfl, ?_⟩) hHeld ?_
  rotate_left 1
  · (intro w hSw; (try dsimp only at hSw); go_simp; try with_reducible rfl)
  try simp only [Act.put, List.getElem_toArray, List.getElem_cons_zero, List.getElem_cons_succ, List.setIfInBounds_toArray, List.set_cons_zero, List.set_cons_succ]
  refine wpAnyH_take (i := 2) (v := ?_) rfl (by kernel_rfl) (by kernel_rfl) (by kernel_rfl) (fun _ _ _ h => h) (Or.inl ⟨by rfl, ?_⟩) hHeld ?_
  rotate_left 1
  · (intro w hSw; (try dsimp only at hSw); go_simp; try with_reducible rfl)
  try simp only [Act.put, List.getElem_toArray, List.getElem_cons_zero, List.getElem_cons_succ, List.setIfInBounds_toArray, List.set_cons_zero, List.set_cons_succ]
  refine wpAnyH_take (i := 3) (v := ?_) rfl (by kernel_rfl) (by kernel_rfl) (by kernel_rfl) (fun _ _ _ h => h) (Or.inl ⟨by rfl, ?_⟩) hHeld ?_
  rotate_left 1
  · (intro w hSw; (try dsimp only at hSw); go_simp; try with_reducible rfl)
  try simp only [Act.put, List.getElem_toArray, List.getElem_cons_zero, List.getElem_cons_succ, List.setIfInBounds_toArray, List.set_cons_zero, List.set_cons_succ]
  refine wpAnyH_take (i := 4) (v := ?_) rfl (by kernel_rfl) (by kernel_rfl) (by kernel_rfl) (fun _ _ _ h => h) (Or.inl ⟨by rfl, ?_⟩) hHeld ?_
  rotate_left 1
  · (intro w hSw; (try dsimp only at hSw); go_simp; try with_reducible rfl)
  try simp only [Act.put, List.getElem_toArray, List.getElem_cons_zero, List.getElem_cons_succ, List.setIfInBounds_toArray, List.set_cons_zero, List.set_cons_succ]
  refine wpAnyH_take (i := 5) (v := ?_) rfl (by kernel_rfl) (by kernel_rfl) (by kernel_rfl) (fun _ _ _ h => h) (Or.inl ⟨by rfl, ?_⟩) hHeld ?_
  rotate_left 1
  · (intro w hSw; obtain ⟨q1, q2, q3⟩ := hSw; go_simp; try with_reducible rfl)
  try simp only [Act.put, List.getElem_toArray, List.getElem_cons_zero, List.getElem_cons_succ, List.setIfInBounds_toArray, List.set_cons_zero, List.set_cons_succ]
  refine wpAnyH_take (i := 6) (v := ?_) rfl (by kernel_rfl) (by kernel_rfl) (by kernel_rfl) (fun _ _ _ h => h) (Or.inl ⟨by rfl, ?_⟩) hHeld ?_
  rotate_left 1
  · (intro w hSw; (try dsimp only at hSw); go_simp; try with_reducible rfl)
  try simp only [Act.put, List.getElem_toArray, List.getElem_cons_zero, List.getElem_cons_succ, List.setIfInBounds_toArray, List.set_cons_zero, List.set_cons_succ]
  refine wpAnyH_take (i := 7) (v := ?_) rfl (by kernel_rfl) (by kernel_rfl) (by kernel_rfl) (fun _ _ _ h => h) (Or.inl ⟨by rfl, ?_⟩) hHeld ?_
  rotate_left 1
  · (intro w hSw; obtain ⟨q1, q2, q3⟩ := hSw; go_simp; try with_reducible rfl)
  try simp only [Act.put, List.getElem_toArray, List.getElem_cons_zero, List.getElem_cons_succ, List.setIfInBounds_toArray, List.set_cons_zero, List.set_cons_succ]
  refine wpAnyH_ready (rs := [8]) (by kernel_rfl) (by simp) (AllReadyH.cons rfl (fun K hK => ?_) AllReadyH.nil)
  clear hHeld
  go_simp
  with_reducible refine (HRR.out _ (.slice ka ks.length kc) ?_ ?_ ?_).mono ?_
  exact (HSB.out.sr.chg HC3.out (fun j hj e => HSB.out.d1 j e hj)).G (G.drew (G.refl _))
  exact (HKB.out.chg HC3.out (fun j hj e => (HKF.out j hj).1 e)).G (G.drew (G.refl _))
  exact (fun j hj e => (HKF.out j hj).2 e)
  rintro e' w4 ⟨rfl, hsl, hch⟩
  have HL4 := hide hsl
  have HC4 : Hid (Chg FR w3 w4) := ((G.drew (G.refl w3)).chg).trans hch
  clear hsl hch
  go_wp2_with fail
  refine hK.out _ _ ((((HHB.out.chg HC3.out (by simp) HNP.out HOP.out)).chg HC4.out (by simp) HNR.out HOR.out)) (fun hHeld => ?_)
  clear hK K
  try simp only [Act.put, List.getElem_toArray, List.getElem_cons_zero, List.getElem_cons_succ, List.setIfInBounds_toArray, List.set_cons_zero, List.set_cons_succ]
  refine wpAnyH_take (i := 9) (v := ?_) rfl (by kernel_rfl) (by kernel_rfl) (by kernel_rfl) (fun _ _ _ h => h) (Or.inl ⟨by rfl, ?_⟩) hHeld ?_
  rotate_left 1
  · (intro w hSw; (try dsimp only at hSw); go_simp; try with_reducible rfl)
  try simp only [Act.put, List.getElem_toArray, List.getElem_cons_zero, List.getElem_cons_succ, List.setIfInBounds_toArray, List.set_cons_zero, List.set_cons_succ]
  refine wpAnyH_take (i := 10) (v := ?_) rfl (by kernel_rfl) (by kernel_rfl) (by kernel_rfl) (fun _ _ _ h => h) (Or.inl ⟨by rfl, ?_⟩) hHeld ?_
  rotate_left 1
  · (intro w hSw; (try dsimp only at hSw); go_simp; try with_reducible rfl)
  try simp only [Act.put, List.getElem_toArray, List.getElem_cons_zero, List.getElem_cons_succ, List.setIfInBounds_toArray, List.set_cons_zero, List.set_cons_succ]
  refine wpAnyH_take (i := 11) (v := ?_) rfl (by kernel_rfl) (by kernel_rfl) (by kernel_rfl) (fun _ _ _ h => h) (Or.inl ⟨by rfl, ?_⟩) hHeld ?_
  rotate_left 1
  · (intro w hSw; (try dsimp only at hSw); go_simp; try with_reducible rfl)
  try simp only [Act.put, List.getElem_toArray, List.getElem_cons_zero, List.getElem_cons_succ, List.setIfInBounds_toArray, List.set_cons_zero, List.set_cons_succ]
  refine wpAnyH_take (i := 12) (v := ?_) rfl (by kernel_rfl) (by kernel_rfl) (by kernel_rfl) (fun _ _ _ h => h) (Or.inl ⟨by rfl, ?_⟩) hHeld ?_
  rotate_left 1
  · (intro w hSw; (try dsimp only at hSw); go_simp; try with_reducible rfl)
  try simp only [Act.put, List.getElem_toArray, List.getElem_cons_zero, List.getElem_cons_succ, List.setIfInBounds_toArray, List.set_cons_zero, List.set_cons_succ]
  refine wpAnyH_take (i := 13) (v := ?_) rfl (by kernel_rfl) (by kernel_rfl) (by kernel_rfl) (fun _ _ _ h => h) (Or.inl ⟨by rfl, ?_⟩) hHeld ?_
  rotate_left 1
  · (intro w hSw; (try dsimp only at hSw); go_simp; try with_reducible rfl)
  try simp only [Act.put, List.getElem_toArray, List.getElem_cons_zero, List.getElem_cons_succ, List.setIfInBounds_toArray, List.set_cons_zero, List.set_cons_succ]
  refine wpAnyH_done (by kernel_rfl) ?_ _
  refine NoPanic.normal ?_
  have HO3 := hide (own_chg (own_chg HROW.out HC3.out (fun x hx e => by simp [Value.ownBlock] at hx; exact HNG.out.1 (hx ▸ e))) HC4.out (fun x hx e => by simp [Value.ownBlock] at hx; exact HNG.out.2.1 (hx ▸ e)))
  have HK4 := hide (((HKB.out.chg HC3.out (fun j hj e => (HKF.out j hj).1 e))).chg HC4.out (fun j hj e => (HKF.out j hj).2 e))
  have HST := hide (HSB.out.both HC3.out HL3.out HC4.out HL4.out (fun k hk => .inl hk) (fun k hk => .inl hk) (few_cr HB.out ks))
  have HOB4 := hide (((HO1.out.G HGB.out).chg HC3.out HOP.out).chg HC4.out HOR.out)
  have ht0 : w4.cell? ⟨g, ks.length, none⟩ = some (.bool true) := by
    have := World.ownsRow.cells HO3.out (g := g) rfl ks.length (.bool true) (by rw [List.getElem?_append_right (by simp), List.length_map, Nat.sub_self]; rfl)
    rw [Addr.add_mid, Nat.zero_add] at this
    exact this
  have ht1 : w4.cell? ⟨g, ks.length + 1, none⟩ = some (.bool false) := by
    have := World.ownsRow.cells HO3.out (g := g) rfl (ks.length + 1) (.bool false) (by rw [List.getElem?_append_right (by simp), List.length_map, Nat.add_sub_cancel_left]; rfl)
    rw [Addr.add_mid, Nat.zero_add] at this
    exact this
  have ht2 : w4.cell? ⟨g, ks.length + 2, none⟩ = some (.bool true) := by
    have := World.ownsRow.cells HO3.out (g := g) rfl (ks.length + 2) (.bool true) (by rw [List.getElem?_append_right (by simp), List.length_map, Nat.add_sub_cancel_left]; rfl)
    rw [Addr.add_mid, Nat.zero_add] at this
    exact this
  go_wp2_with fail
  clear ht0 ht1 ht2
  go_loopw [12] (fun c W => ∃ i : Nat, i ≤ ks.length ∧ c = .int .i64 i ∧ Chg (fun j => j = g) w4 W ∧ ∃ xs, W.ownsRow w1.heap.size 4 1 (.slice (some ⟨g, 0, none⟩) (ks.length + 3) gc) (ks.length + 3) xs ∧ ∀ j b, i ≤ j → ks[j]? = some b → xs[j]? = some (.bool b)) (fun c _ => ks.length - (RowKit.intOf c).toNat)
  case atStart => exact ⟨0, by omega, rfl, Chg.refl _ _, _, HO3.out, fun j b _ hj => by rw [List.getElem?_append_left (by rw [List.length_map]; exact (List.getElem?_eq_some_iff.1 hj).1), List.getElem?_map, hj]; rfl⟩
  case round =>
    obtain ⟨i, hi, rfl, hch, xs, hox, hxs⟩ := hrel
    have HCH := hide hch
    have HOX := hide hox
    have HXS := hide hxs
    clear hch hox hxs
    by_cases hlt : i < ks.length
    · have hiI : (i : Int) < (ks.length : Int) := by omega
      have hki : ks[i]? = some ks[i] := List.getElem?_eq_getElem hlt
      generalize ks[i] = b at hki
      have hcg : wr.cell? ⟨g, i, none⟩ = some (.bool b) := by
        have := World.ownsRow.cells HOX.out (g := g) rfl i (.bool b) (HXS.out i b (Nat.le_refl _) hki)
        rw [Addr.add_mid, Nat.zero_add] at this
        exact this
      obtain ⟨_, hfz⟩ : True ∧ wr.frozen? ⟨g, i, none⟩ = false := ⟨trivial, (own_cellAt HOX.out (j := i) (by omega)).choose_spec.2⟩
      obtain ⟨ka', kc', ek, _, hkk⟩ := HK4.out.chg HCH.out (fun j hj e => by
        subst e
        obtain ⟨a, n', c, ha, hn', hb'⟩ := hj
        cases ha
        have h1 := HGL.out
        obtain ⟨_, _, ek', _, hcs⟩ := HKV.out
        cases ek'
        rcases hcs with hcs | ⟨kb, ko, ea, hc⟩
        · rw [hcs] at hn'; simp at hn'
        · cases ea
          obtain ⟨b0, hb0⟩ : ∃ b0, ks[0]? = some b0 := ⟨_, List.getElem?_eq_getElem hn'⟩
          have h5 := World.block_lt_of_cell? _ _ (hc 0 b0 hb0)
          simp at hb' h5
          omega)
      cases ek
      obtain ⟨kb, ko, ea, hck⟩ := hkk.resolve_left (fun e => by rw [e] at hlt; simp at hlt)
      cases ea
      have hck2 := hck i b hki
      have HKI := hide hki
      clear hck hkk hki
      have hcb := (HOB4.out.chg HCH.out (fun e => HNG.out.2.2.2 e.symm)).cell
      have HSE : Hid (∀ k, ((wr.drewN k).setCell ⟨g, i, none⟩ (.bool !b)).ownsRow w1.heap.size 4 1 (.slice (some ⟨g, 0, none⟩) (ks.length + 3) gc) (ks.length + 3) (xs.set i (.bool !b)) ∧ Chg (fun j => j = g) w4 ((wr.drewN k).setCell ⟨g, i, none⟩ (.bool !b))) := fun k => ⟨own_set (own_G HOX.out ((G.refl _).drewN k)), (HCH.out.trans (((G.refl wr).drewN k).chg)).trans (chg_setCell _ _ (.inl rfl))⟩
      go_wp2_with fail
      go_quiet (fail)
      clear hck2 hcb
      go_wp2
      go_roundw
      case rel =>
        refine ⟨i + 1, by omega, by go_num, (HSE.out _).2, _, (HSE.out _).1, fun j b' hj hb' => ?_⟩
        rw [List.getElem?_set_ne (by omega)]
        exact HXS.out j b' (by omega) hb'
      case measure => simp [RowKit.intOf]; omega
    · obtain rfl : i = ks.length := by omega
      go_wp2
      go_ret
      exact ⟨rfl, HST.out.turn (HG1.out.trans HGB.out) HCH.out (by have := HGL.out; have := HG1.out.size; omega) HGL.out.2 HFL.out⟩
end Go.Proofs.Ytbjbphhcmmaaoaa
