/- A step: Flush, Cut, Write, Crash, no call. -/
import Derived.Test.YtbjbphhcmmaaoaaLwB
namespace Go.Proofs.Ytbjbphhcmmaaoaa
open Go.RowKit

theorem StepA.back {w w1 w' : World} {t s : Nat} {cs : List Value} {FP FR : Nat → Prop} {B : Nat} (h : StepA w1 t s cs FP FR B w') (g : G w w1) : StepA w t s cs FP FR B w' := by
  obtain ⟨cs', pv', rv', FP', FR', mo', h1, h2, h3, h4, h5⟩ := h
  exact ⟨cs', pv', rv', FP', FR', mo', h1, g.chg.trans h2, fun k hk => (h3 k hk).imp id (fun x => x.imp id (fun y => Nat.le_trans g.size y)), h4, h5⟩
theorem StepA.on {w w1 w' : World} {t s : Nat} {cs : List Value} {FP FR : Nat → Prop} {B : Nat} (h : StepA w t s cs FP FR B w1) (g : G w1 w') : StepA w t s cs FP FR B w' := by
  obtain ⟨cs', pv', rv', FP', FR', mo', h1, h2, h3, h4, h5⟩ := h
  exact ⟨cs', pv', rv', FP', FR', mo', h1.G g, h2.trans g.chg, h3, h4, h5⟩
theorem few_fl {mo : Option DM} {B : Nat} (h : fewO mo B) : fewO (flM mo) (B + 1) := fun m e => by
  cases mo with
  | none => simp [flM] at e
  | some m0 =>
    simp only [flM, Option.map_some, Option.some.injEq] at e
    obtain ⟨h1, h2, h3⟩ := h m0 rfl
    obtain ⟨s1, s2, s3, s4, s5⟩ := spent_same m0
    subst e
    unfold DM.flush
    split
    · exact ⟨by simp only; omega, by simp only; omega, by simp⟩
    · exact ⟨by simp only; omega, by simp only; omega, by simp only [s3]; omega⟩
theorem few_wr {mo : Option DM} {B : Nat} (h : fewO mo B) (n : Int) (xs : List Nat) : fewO (wrM mo n xs) (B + 1) := fun m e => by
  cases mo with
  | none => simp [wrM] at e
  | some m0 =>
    simp only [wrM, Option.map_some, Option.some.injEq] at e
    obtain ⟨h1, h2, h3⟩ := h m0 rfl
    obtain ⟨s1, s2, s3, s4, s5⟩ := spent_same m0
    subst e
    unfold DM.write
    repeat' split
    · exact ⟨by simp only; omega, by simp only; omega, by simp only; omega⟩
    · exact ⟨by simp only; omega, by simp only; omega, by simp only; omega⟩
    · exact ⟨by simp only; omega, by simp only; omega, by simp only [s3, List.length_append, List.length_cons, List.length_nil]; omega⟩
    · exact ⟨by simp only; omega, by simp only; omega, by simp only [s3]; omega⟩
theorem few_cu {mo : Option DM} {B : Nat} (h : fewO mo B) (n : Int) : fewO (cuM mo n) (B + 1) := fun m e => by
  cases mo with
  | none => simp [cuM] at e
  | some m0 =>
    simp only [cuM, Option.map_some, Option.some.injEq] at e
    obtain ⟨h1, h2, h3⟩ := h m0 rfl
    subst e
    unfold DM.cut
    repeat' split
    all_goals exact ⟨by simp only; omega, by simp only; omega, by simp only; omega⟩
theorem few_cr {mo : Option DM} {B : Nat} (h : fewO mo B) (ks : List Bool) : fewO (crM mo ks) (B + 1) := fun m e => by
  cases mo with
  | none => simp [crM] at e
  | some m0 =>
    simp only [crM, Option.map_some, Option.some.injEq] at e
    obtain ⟨h1, h2, h3⟩ := h m0 rfl
    subst e
    exact ⟨by simp only [DM.crash]; omega, by simp only [DM.crash]; omega, by simp [DM.crash]⟩
theorem info_bool : ∃ i, Try.prog.info? 4 = some i ∧ i.zero = some (.bool false) ∧ i.size = 1 ∧ i.bytes = 1 := info_parts (by kernel_rfl)
/-- 'append([]bool(nil), keep...)'. -/
theorem app_keep (ty : TypeId) {w : World} {kv : Value} {ks : List Bool} (hkl : ks.length ≤ 1073741824) (hk : Keeps w kv ks) (hv : kv = .slice none 0 0 ∨ ∃ ad n c, kv = .slice (some ad) n c) :
    ∃ v' w', (Builtin.append_ #[23, 23] ty #[.slice none 0 0, kv]).run Try.prog w = .ok v' w' ∧ G w w' ∧ Keeps w' v' ks ∧ ∀ j, Value.blk v' j → w.heap.size ≤ j := by
  obtain ⟨i, hi, hz0, hz1, hz2⟩ := info_bool
  obtain ⟨ka, kc, rfl, hkc, hcs⟩ := hk
  rcases hv with hv | ⟨ad, n, c, hv⟩
  · simp only [Value.slice.injEq] at hv
    obtain ⟨rfl, hl0, rfl⟩ := hv
    have hk0 : ks = [] := List.eq_nil_of_length_eq_zero hl0
    subst hk0
    exact ⟨.slice none 0 0, w, run_append_owned_none (P := Try.prog) w 0 23 ty 4 i 1 Try.underlying23 hi (.slice none 0 0) 0 [] (World.ownsRow_nil _ _ _ _), G.refl _, ⟨none, 0, rfl, Nat.le_refl _, .inl rfl⟩, fun j hj => by obtain ⟨a, n, c, h, _⟩ := hj; cases h⟩
  · simp only [Value.slice.injEq] at hv
    obtain ⟨rfl, _, _⟩ := hv
    obtain ⟨v', w', hr, q2, q3, _, q5⟩ := run_append_own_at (P := Try.prog) w 0 23 ty 4 i _ 1 1 Try.underlying23 hi hz0 hz1 hz2 rfl (by decide) (.slice none 0 0) 0 [] (World.ownsRow_nil _ _ _ _) ad ks.length kc (ks.map .bool) (by simp) (fun j u hj => by
      rcases hcs with h | ⟨kb, ko, h, hc⟩
      · rw [h] at hj; simp at hj
      · cases h
        rw [List.getElem?_map, Option.map_eq_some_iff] at hj
        obtain ⟨b, hb, rfl⟩ := hj
        rw [Addr.add_mid]
        exact hc j b hb) (fun u hu => by obtain ⟨b, _, rfl⟩ := List.mem_map.1 hu; rfl) (by unfold maxLen; omega) (by omega) (Nat.zero_le _)
    rw [Nat.zero_add, List.nil_append] at q2
    have hg : G w w' := ⟨q3.os, q3.tape, q3.output, q3.size, fun k hk => q3.block k hk (by simp [Value.ownBlock])⟩
    refine ⟨v', w', hr, hg, ?_, fun j hj => ?_⟩
    · rcases q2.2 with ⟨rfl, hn⟩ | ⟨g, cap, cur, rfl, _, _, hc, _⟩
      · exact ⟨none, 0, by rw [hn], by omega, .inl (List.eq_nil_of_length_eq_zero hn)⟩
      · refine ⟨_, _, rfl, hc, .inr ⟨g, 0, rfl, fun j b hb => ?_⟩⟩
        have := q2.cells (g := g) rfl j (.bool b) (by rw [List.getElem?_map, hb]; rfl)
        rw [Addr.add_mid] at this
        exact this
    · obtain ⟨a, n, c, rfl, _, rfl⟩ := hj
      rcases q5 with q5 | q5
      · simp [Value.ownBlock] at q5
      · simp [Value.ownBlock] at q5; omega
set_option maxRecDepth 100000 in
set_option maxHeartbeats 4000000 in
theorem step_cut (who n : Int) (dv kv : Value) (t s : Nat) (cs : List Value) (pv rv : Value) (FP FR : Nat → Prop) (mo : Option DM) (B : Nat) (hw : bits BinOp.and IntKind.i64 who 1 = (s : Int)) (hBB : B ≤ 549755813888) (hn : n ≤ 9223372036854775807) (w : World) (hB : fewO mo B) (h : SS w t s cs pv rv FP FR mo) : Calls Try.prog 21 #[.pointer (some ⟨t, 0, none⟩), .agg #[I 7, I who, I n, dv, kv]] w fun e w' => e = .returned (.bool true) ∧ StepA w t s cs FP FR B w' := by
  have hBf : fewO mo 549755813888 := fun m e => by obtain ⟨h1, h2, h3⟩ := hB m e; exact ⟨by omega, by omega, by omega⟩
  have HRD := hide (fun W (hW : SlP W FP pv mo) => uP_cut FP mo pv n hn W hW)
  have HRR := hide (fun W (hW : SlR W FR rv mo) => uR_cut FR mo rv n hn W hW)
  clear hBf
  have HS0 := hide h
  have hs2 := h.s2
  have HO1 := hide (Blk.new w [I 7, I who, I n, dv, kv] 39)
  have HG1 := hide ((G.refl w).alloc (.cells #[I 7, I who, I n, dv, kv] 39))
  have HB := hide hB
  have hsI : (s : Int) < 2 := by omega
  have hsw : IntKind.i64.wrap (s : Int) = s := by rw [IntKind.wrap_i64]; omega
  have HNP : Hid (¬ FP t) := fun e => (HS0.out.d2 t (.inl e)).1 rfl
  have HNR : Hid (¬ FR t) := fun e => (HS0.out.d2 t (.inr e)).1 rfl
  have HOP : Hid (¬ FP w.heap.size) := fun e => by have := (HS0.out.d2 _ (.inl e)).2; omega
  have HOR : Hid (¬ FR w.heap.size) := fun e => by have := (HS0.out.d2 _ (.inr e)).2; omega
  have HDIS : Hid (∀ k, FR k → ¬ FP k) := fun k hr hp => HS0.out.d1 k hp hr
  clear h hB
  go_enter Try.func21, Try.ntmps21
  go_wp2_with fail
  generalize w.alloc (.cells #[I 7, I who, I n, dv, kv] 39) = w1 at HO1 HG1 ⊢
  have HS1 := hide (HS0.out.G HG1.out)
  have HH1 := hide (HS1.out.hd HO1.out)
  refine wp_region_noPanic ?_
  refine wp_region_held_drew (S := (fun W => Hd W t s w.heap.size pv rv [I 7, I who, I n, dv, kv])) (by kernel_rfl) (HH1.out.G (G.drew (G.refl _)) (by simp)) (fun hHeld => ?_)
  refine wpAnyH_take (i := 0) (v := ?_) rfl (by kernel_rfl) (by kernel_rfl) (by kernel_rfl) (fun _ _ _ h => h) (Or.inl ⟨by rfl, ?_⟩) hHeld ?_
  rotate_left 1
  · (intro w hSw; (try dsimp only at hSw); go_simp; try with_reducible rfl)
  try simp only [Act.put, List.getElem_toArray, List.getElem_cons_zero, List.setIfInBounds_toArray, List.set_cons_zero, List.set_cons_succ]
  refine wpAnyH_take (i := 1) (v := ?_) rfl (by kernel_rfl) (by kernel_rfl) (by kernel_rfl) (fun _ _ _ h => h) (Or.inl ⟨by rfl, ?_⟩) hHeld ?_
  rotate_left 1
  · (intro w hSw; (try dsimp only at hSw); go_simp; try with_reducible rfl)
  try simp only [Act.put, List.getElem_toArray, List.getElem_cons_zero, List.getElem_cons_succ, List.setIfInBounds_toArray, List.set_cons_zero, List.set_cons_succ]
  refine wpAnyH_take (i := 2) (v := ?_) rfl (by kernel_rfl) (by kernel_rfl) (by kernel_rfl) (fun _ _ _ h => h) (Or.inl ⟨by rfl, ?_⟩) hHeld ?_
  rotate_left 1
  · (intro w hSw; (try dsimp only at hSw); go_simp; try with_reducible rfl)
  try simp only [Act.put, List.getElem_toArray, List.getElem_cons_zero, List.getElem_cons_succ, List.setIfInBounds_toArray, List.set_cons_zero, List.set_cons_succ]
  refine wpAnyH_take (i := 3) (v := ?_) rfl (by kernel_rfl) (by kernel_rfl) (by kernel_rfl) (fun _ _ _ h => h) (Or.inl ⟨by rfl, ?_⟩) hHeld ?_
  rotate_left 1
  · (intro w hSw; (try dsimp only at hSw); go_simp; try with_reducible rfl)
  try simp only [Act.put, List.getElem_toArray, List.getElem_cons_zero, List.getElem_cons_succ, List.setIfInBounds_toArray, List.set_cons_zero, List.set_cons_succ]
  refine wpAnyH_take (i := 4) (v := ?_) rfl (by kernel_rfl) (by kernel_rfl) (by kernel_rfl) (fun _ _ _ h => h) (Or.inl ⟨by rfl, ?_⟩) hHeld ?_
  rotate_left 1
  · (intro w hSw; (try dsimp only at hSw); go_simp; try with_reducible rfl)
  try simp only [Act.put, List.getElem_toArray, List.getElem_cons_zero, List.getElem_cons_succ, List.setIfInBounds_toArray, List.set_cons_zero, List.set_cons_succ]
  refine wpAnyH_take (i := 5) (v := ?_) rfl (by kernel_rfl) (by kernel_rfl) (by kernel_rfl) (fun _ _ _ h => h) (Or.inl ⟨by rfl, ?_⟩) hHeld ?_
  rotate_left 1
  · (intro w hSw; obtain ⟨q1, q2, q3⟩ := hSw; go_simp; try with_reducible rfl)
  try simp only [Act.put, List.getElem_toArray, List.getElem_cons_zero, List.getElem_cons_succ, List.setIfInBounds_toArray, List.set_cons_zero, List.set_cons_succ]
  refine wpAnyH_take (i := 6) (v := ?_) rfl (by kernel_rfl) (by kernel_rfl) (by kernel_rfl) (fun _ _ _ h => h) (Or.inl ⟨by rfl, ?_⟩) hHeld ?_
  rotate_left 1
  · (intro w hSw; (try dsimp only at hSw); go_simp; try with_reducible rfl)
  try simp only [Act.put, List.getElem_toArray, List.getElem_cons_zero, List.getElem_cons_succ, List.setIfInBounds_toArray, List.set_cons_zero, List.set_cons_succ]
  refine wpAnyH_take (i := 7) (v := ?_) rfl (by kernel_rfl) (by kernel_rfl) (by kernel_rfl) (fun _ _ _ h => h) (Or.inl ⟨by rfl, ?_⟩) hHeld ?_
  rotate_left 1
  · (intro w hSw; obtain ⟨q1, q2, q3⟩ := hSw; go_simp; try with_reducible rfl)
  try simp only [Act.put, List.getElem_toArray, List.getElem_cons_zero, List.getElem_cons_succ, List.setIfInBounds_toArray, List.set_cons_zero, List.set_cons_succ]
  refine wpAnyH_ready (rs := [8]) (by kernel_rfl) (by simp) (AllReadyH.cons rfl (fun K hK => ?_) AllReadyH.nil)
  clear hHeld
  go_simp
  with_reducible refine (HRD.out _ ?_).mono ?_
  exact HS1.out.sp.G (G.drew (G.refl _))
  rintro e' w2 ⟨rfl, hsl, hch⟩
  have HLw2 := hide hsl
  have HCw2 := hide (Chg.trans (G.drew (G.refl _)).chg hch)
  clear hsl hch
  go_wp2_with fail
  refine hK.out _ _ (HH1.out.chg HCw2.out (by simp) HNP.out HOP.out) (fun hHeld => ?_)
  clear hK K
  try simp only [Act.put, List.getElem_toArray, List.getElem_cons_zero, List.getElem_cons_succ, List.setIfInBounds_toArray, List.set_cons_zero, List.set_cons_succ]
  refine wpAnyH_take (i := 9) (v := ?_) rfl (by kernel_rfl) (by kernel_rfl) (by kernel_rfl) (fun _ _ _ h => h) (Or.inl ⟨by rfl, ?_⟩) hHeld ?_
  rotate_left 1
  · (intro w hSw; (try dsimp only at hSw); go_simp; try with_reducible rfl)
  try simp only [Act.put, List.getElem_toArray, List.getElem_cons_zero, List.getElem_cons_succ, List.setIfInBounds_toArray, List.set_cons_zero, List.set_cons_succ]
  refine wpAnyH_done (by kernel_rfl) ?_ _
  refine NoPanic.normal ?_
  go_wp2_with fail
  refine wp_region_noPanic ?_
  refine wp_region_held_drew (S := (fun W => Hd W t s w.heap.size pv rv [I 7, I who, I n, dv, kv])) (by kernel_rfl) ((HH1.out.chg HCw2.out (by simp) HNP.out HOP.out).G (G.drew (G.refl _)) (by simp)) (fun hHeld => ?_)
  refine wpAnyH_take (i := 0) (v := ?_) rfl (by kernel_rfl) (by kernel_rfl) (by kernel_rfl) (fun _ _ _ h => h) (Or.inl ⟨by rfl, ?_⟩) hHeld ?_
  rotate_left 1
  · (intro w hSw; (try dsimp only at hSw); go_simp; try with_reducible rfl)
  try simp only [Act.put, List.getElem_toArray, List.getElem_cons_zero, List.setIfInBounds_toArray, List.set_cons_zero, List.set_cons_succ]
  refine wpAnyH_take (i := 1) (v := ?_) rfl (by kernel_rfl) (by kernel_rfl) (by kernel_rfl) (fun _ _ _ h => h) (Or.inl ⟨by rfl, ?_⟩) hHeld ?_
  rotate_left 1
  · (intro w hSw; (try dsimp only at hSw); go_simp; try with_reducible rfl)
  try simp only [Act.put, List.getElem_toArray, List.getElem_cons_zero, List.getElem_cons_succ, List.setIfInBounds_toArray, List.set_cons_zero, List.set_cons_succ]
  refine wpAnyH_take (i := 2) (v := ?_) rfl (by kernel_rfl) (by kernel_rfl) (by kernel_rfl) (fun _ _ _ h => h) (Or.inl ⟨by rfl, ?_⟩) hHeld ?_
  rotate_left 1
  · (intro w hSw; (try dsimp only at hSw); go_simp; try with_reducible rfl)
  try simp only [Act.put, List.getElem_toArray, List.getElem_cons_zero, List.getElem_cons_succ, List.setIfInBounds_toArray, List.set_cons_zero, List.set_cons_succ]
  refine wpAnyH_take (i := 3) (v := ?_) rfl (by kernel_rfl) (by kernel_rfl) (by kernel_rfl) (fun _ _ _ h => h) (Or.inl ⟨by rfl, ?_⟩) hHeld ?_
  rotate_left 1
  · (intro w hSw; (try dsimp only at hSw); go_simp; try with_reducible rfl)
  try simp only [Act.put, List.getElem_toArray, List.getElem_cons_zero, List.getElem_cons_succ, List.setIfInBounds_toArray, List.set_cons_zero, List.set_cons_succ]
  refine wpAnyH_take (i := 4) (v := ?_) rfl (by kernel_rfl) (by kernel_rfl) (by kernel_rfl) (fun _ _ _ h => h) (Or.inl ⟨by rfl, ?_⟩) hHeld ?_
  rotate_left 1
  · (intro w hSw; (try dsimp only at hSw); go_simp; try with_reducible rfl)
  try simp only [Act.put, List.getElem_toArray, List.getElem_cons_zero, List.getElem_cons_succ, List.setIfInBounds_toArray, List.set_cons_zero, List.set_cons_succ]
  refine wpAnyH_take (i := 5) (v := ?_) rfl (by kernel_rfl) (by kernel_rfl) (by kernel_rfl) (fun _ _ _ h => h) (Or.inl ⟨by rfl, ?_⟩) hHeld ?_
  rotate_left 1
  · (intro w hSw; obtain ⟨q1, q2, q3⟩ := hSw; go_simp; try with_reducible rfl)
  try simp only [Act.put, List.getElem_toArray, List.getElem_cons_zero, List.getElem_cons_succ, List.setIfInBounds_toArray, List.set_cons_zero, List.set_cons_succ]
  refine wpAnyH_take (i := 6) (v := ?_) rfl (by kernel_rfl) (by kernel_rfl) (by kernel_rfl) (fun _ _ _ h => h) (Or.inl ⟨by rfl, ?_⟩) hHeld ?_
  rotate_left 1
  · (intro w hSw; (try dsimp only at hSw); go_simp; try with_reducible rfl)
  try simp only [Act.put, List.getElem_toArray, List.getElem_cons_zero, List.getElem_cons_succ, List.setIfInBounds_toArray, List.set_cons_zero, List.set_cons_succ]
  refine wpAnyH_take (i := 7) (v := ?_) rfl (by kernel_rfl) (by kernel_rfl) (by kernel_rfl) (fun _ _ _ h => h) (Or.inl ⟨by rfl, ?_⟩) hHeld ?_
  rotate_left 1
  · (intro w hSw; obtain ⟨q1, q2, q3⟩ := hSw; go_simp; try with_reducible rfl)
  try simp only [Act.put, List.getElem_toArray, List.getElem_cons_zero, List.getElem_cons_succ, List.setIfInBounds_toArray, List.set_cons_zero, List.set_cons_succ]
  refine wpAnyH_ready (rs := [8]) (by kernel_rfl) (by simp) (AllReadyH.cons rfl (fun K hK => ?_) AllReadyH.nil)
  clear hHeld
  go_simp
  with_reducible refine (HRR.out _ ?_).mono ?_
  exact (HS1.out.sr.chg HCw2.out HDIS.out).G (G.drew (G.refl _))
  rintro e' w3 ⟨rfl, hsl, hch⟩
  have HLw3 := hide hsl
  have HCw3 := hide (Chg.trans (G.drew (G.refl _)).chg hch)
  clear hsl hch
  go_wp2_with fail
  refine hK.out _ _ ((HH1.out.chg HCw2.out (by simp) HNP.out HOP.out).chg HCw3.out (by simp) HNR.out HOR.out) (fun hHeld => ?_)
  clear hK K
  try simp only [Act.put, List.getElem_toArray, List.getElem_cons_zero, List.getElem_cons_succ, List.setIfInBounds_toArray, List.set_cons_zero, List.set_cons_succ]
  refine wpAnyH_take (i := 9) (v := ?_) rfl (by kernel_rfl) (by kernel_rfl) (by kernel_rfl) (fun _ _ _ h => h) (Or.inl ⟨by rfl, ?_⟩) hHeld ?_
  rotate_left 1
  · (intro w hSw; (try dsimp only at hSw); go_simp; try with_reducible rfl)
  try simp only [Act.put, List.getElem_toArray, List.getElem_cons_zero, List.getElem_cons_succ, List.setIfInBounds_toArray, List.set_cons_zero, List.set_cons_succ]
  refine wpAnyH_done (by kernel_rfl) ?_ _
  refine NoPanic.normal ?_
  go_wp2
  go_ret
  exact ⟨rfl, (HS1.out.both HCw2.out HLw2.out HCw3.out HLw3.out (fun k hk => .inl hk) (fun k hk => .inl hk) (few_cu HB.out n)).back HG1.out⟩
set_option maxRecDepth 100000 in
set_option maxHeartbeats 4000000 in
theorem step_flush (who n : Int) (dv kv : Value) (t s : Nat) (cs : List Value) (pv rv : Value) (FP FR : Nat → Prop) (mo : Option DM) (B : Nat) (hw : bits BinOp.and IntKind.i64 who 1 = (s : Int)) (hBB : B ≤ 549755813888) (w : World) (hB : fewO mo B) (h : SS w t s cs pv rv FP FR mo) : Calls Try.prog 21 #[.pointer (some ⟨t, 0, none⟩), .agg #[I 6, I who, I n, dv, kv]] w fun e w' => e = .returned (.bool true) ∧ StepA w t s cs FP FR B w' := by
  have hBf : fewO mo 549755813888 := fun m e => by obtain ⟨h1, h2, h3⟩ := hB m e; exact ⟨by omega, by omega, by omega⟩
  have HRD := hide (fun W (hW : SlP W FP pv mo) => uP_flush FP mo pv W hBf hW)
  have HRR := hide (fun W (hW : SlR W FR rv mo) => uR_flush FR mo rv W hBf hW)
  clear hBf
  have hc1 : w.cell? ⟨t, s, none⟩ = some pv := by rw [h.bt.cell, h.cp]
  have hc2 : w.cell? ⟨t, 2 + s, none⟩ = some rv := by rw [h.bt.cell, h.cr]
  have htl := h.bt.lt
  have HS0 := hide h
  have hs2 := h.s2
  have HO1 := hide (Blk.new w [I 6, I who, I n, dv, kv] 39)
  have HG1 := hide ((G.refl w).alloc (.cells #[I 6, I who, I n, dv, kv] 39))
  have HB := hide hB
  have hsI : (s : Int) < 2 := by omega
  have hsw : IntKind.i64.wrap (s : Int) = s := by rw [IntKind.wrap_i64]; omega
  have HNP : Hid (¬ FP t) := fun e => (HS0.out.d2 t (.inl e)).1 rfl
  have HNR : Hid (¬ FR t) := fun e => (HS0.out.d2 t (.inr e)).1 rfl
  have HOP : Hid (¬ FP w.heap.size) := fun e => by have := (HS0.out.d2 _ (.inl e)).2; omega
  have HOR : Hid (¬ FR w.heap.size) := fun e => by have := (HS0.out.d2 _ (.inr e)).2; omega
  have HDIS : Hid (∀ k, FR k → ¬ FP k) := fun k hr hp => HS0.out.d1 k hp hr
  clear h hB
  go_enter Try.func21, Try.ntmps21
  go_wp2_with fail
  generalize w.alloc (.cells #[I 6, I who, I n, dv, kv] 39) = w1 at HO1 HG1 ⊢
  have HS1 := hide (HS0.out.G HG1.out)
  have HH1 := hide (HS1.out.hd HO1.out)
  refine (HRD.out _ HS1.out.sp).mono ?_
  rintro e' w2 ⟨rfl, hsl, hch⟩
  have HLw2 := hide hsl
  have HCw2 := hide hch
  clear hsl hch hc1 hc2 htl
  have hc2 := (HH1.out.chg HCw2.out (by simp) HNP.out HOP.out).2.1
  go_wp2_with fail
  refine (HRR.out _ (HS1.out.sr.chg HCw2.out HDIS.out)).mono ?_
  rintro e' w3 ⟨rfl, hsl, hch⟩
  have HLw3 := hide hsl
  have HCw3 := hide hch
  clear hsl hch hc2
  go_wp2
  go_ret
  exact ⟨rfl, (HS1.out.both HCw2.out HLw2.out HCw3.out HLw3.out (fun k hk => .inl hk) (fun k hk => .inl hk) (few_fl HB.out)).back HG1.out⟩
set_option maxRecDepth 100000 in
set_option maxHeartbeats 4000000 in
theorem step_crash (who n : Int) (dv kv : Value) (t s : Nat) (cs : List Value) (pv rv : Value) (FP FR : Nat → Prop) (mo : Option DM) (B : Nat) (hw : bits BinOp.and IntKind.i64 who 1 = (s : Int)) (hBB : B ≤ 549755813888) (ks : List Bool) (hkl : ks.length ≤ 1073741824) (w : World) (hkv : Keeps w kv ks) (hks : kv = .slice none 0 0 ∨ ∃ ad n c, kv = .slice (some ad) n c) (hkF : ∀ j, Value.blk kv j → ¬ FP j ∧ ¬ FR j) (hB : fewO mo B) (h : SS w t s cs pv rv FP FR mo) : Calls Try.prog 21 #[.pointer (some ⟨t, 0, none⟩), .agg #[I 8, I who, I n, dv, kv]] w fun e w' => e = .returned (.bool true) ∧ StepA w t s cs FP FR B w' := by
  have hBf : fewO mo 549755813888 := fun m e => by obtain ⟨h1, h2, h3⟩ := hB m e; exact ⟨by omega, by omega, by omega⟩
  have HRD := hide (fun W v (hW : SlP W FP pv mo) (hk : Keeps W v ks) (hF : ∀ j, Value.blk v j → ¬ FP j) => uP_crash FP mo pv v ks hBf (by omega) W hW hk hF)
  have HRR := hide (fun W v (hW : SlR W FR rv mo) (hk : Keeps W v ks) (hF : ∀ j, Value.blk v j → ¬ FR j) => uR_crash FR mo rv v ks hBf (by omega) W hW hk hF)
  have HKV := hide hkv
  have HKS := hide hks
  have HKF := hide hkF
  have HKL := hide hkl
  clear hBf hkv hks hkF
  have HS0 := hide h
  have hs2 := h.s2
  have HO1 := hide (Blk.new w [I 8, I who, I n, dv, kv] 39)
  have HG1 := hide ((G.refl w).alloc (.cells #[I 8, I who, I n, dv, kv] 39))
  have HB := hide hB
  have hsI : (s : Int) < 2 := by omega
  have hsw : IntKind.i64.wrap (s : Int) = s := by rw [IntKind.wrap_i64]; omega
  have HNP : Hid (¬ FP t) := fun e => (HS0.out.d2 t (.inl e)).1 rfl
  have HNR : Hid (¬ FR t) := fun e => (HS0.out.d2 t (.inr e)).1 rfl
  have HOP : Hid (¬ FP w.heap.size) := fun e => by have := (HS0.out.d2 _ (.inl e)).2; omega
  have HOR : Hid (¬ FR w.heap.size) := fun e => by have := (HS0.out.d2 _ (.inr e)).2; omega
  have HDIS : Hid (∀ k, FR k → ¬ FP k) := fun k hr hp => HS0.out.d1 k hp hr
  clear h hB
  go_enter Try.func21, Try.ntmps21
  go_wp2_with fail
  generalize w.alloc (.cells #[I 8, I who, I n, dv, kv] 39) = w1 at HO1 HG1 ⊢
  have HS1 := hide (HS0.out.G HG1.out)
  have HH1 := hide (HS1.out.hd HO1.out)
  refine wp_region_noPanic ?_
  refine wp_region_held_drew (S := (fun W => Hd W t s w.heap.size pv rv [I 8, I who, I n, dv, kv])) (by kernel_rfl) (HH1.out.G (G.drew (G.refl _)) (by simp)) (fun hHeld => ?_)
  refine wpAnyH_take (i := 0) (v := ?_) rfl (by kernel_rfl) (by kernel_rfl) (by kernel_rfl) (fun _ _ _ h => h) (Or.inl ⟨by rfl, ?_⟩) hHeld ?_
  rotate_left 1
  · (intro w hSw; (try dsimp only at hSw); go_simp; try with_reducible rfl)
  try simp only [Act.put, List.getElem_toArray, List.getElem_cons_zero, List.setIfInBounds_toArray, List.set_cons_zero, List.set_cons_succ]
  refine wpAnyH_take (i := 1) (v := ?_) rfl (by kernel_rfl) (by kernel_rfl) (by kernel_rfl) (fun _ _ _ h => h) (Or.inl ⟨by rfl, ?_⟩) hHeld ?_
  rotate_left 1
  · (intro w hSw; (try dsimp only at hSw); go_simp; try with_reducible rfl)
  try simp only [Act.put, List.getElem_toArray, List.getElem_cons_zero, List.getElem_cons_succ, List.setIfInBounds_toArray, List.set_cons_zero, List.set_cons_succ]
  refine wpAnyH_take (i := 2) (v := ?_) rfl (by kernel_rfl) (by kernel_rfl) (by kernel_rfl) (fun _ _ _ h => h) (Or.inl ⟨by rfl, ?_⟩) hHeld ?_
  rotate_left 1
  · (intro w hSw; (try dsimp only at hSw); go_simp; try with_reducible rfl)
  try simp only [Act.put, List.getElem_toArray, List.getElem_cons_zero, List.getElem_cons_succ, List.setIfInBounds_toArray, List.set_cons_zero, List.set_cons_succ]
  refine wpAnyH_take (i := 3) (v := ?_) rfl (by kernel_rfl) (by kernel_rfl) (by kernel_rfl) (fun _ _ _ h => h) (Or.inl ⟨by rfl, ?_⟩) hHeld ?_
  rotate_left 1
  · (intro w hSw; (try dsimp only at hSw); go_simp; try with_reducible rfl)
  try simp only [Act.put, List.getElem_toArray, List.getElem_cons_zero, List.getElem_cons_succ, List.setIfInBounds_toArray, List.set_cons_zero, List.set_cons_succ]
  refine wpAnyH_take (i := 4) (v := ?_) rfl (by kernel_rfl) (by kernel_rfl) (by kernel_rfl) (fun _ _ _ h => h) (Or.inl ⟨by rfl, ?_⟩) hHeld ?_
  rotate_left 1
  · (intro w hSw; (try dsimp only at hSw); go_simp; try with_reducible rfl)
  try simp only [Act.put, List.getElem_toArray, List.getElem_cons_zero, List.getElem_cons_succ, List.setIfInBounds_toArray, List.set_cons_zero, List.set_cons_succ]
  refine wpAnyH_take (i := 5) (v := ?_) rfl (by kernel_rfl) (by kernel_rfl) (by kernel_rfl) (fun _ _ _ h => h) (Or.inl ⟨by rfl, ?_⟩) hHeld ?_
  rotate_left 1
  · (intro w hSw; obtain ⟨q1, q2, q3⟩ := hSw; go_simp; try with_reducible rfl)
  try simp only [Act.put, List.getElem_toArray, List.getElem_cons_zero, List.getElem_cons_succ, List.setIfInBounds_toArray, List.set_cons_zero, List.set_cons_succ]
  refine wpAnyH_take (i := 6) (v := ?_) rfl (by kernel_rfl) (by kernel_rfl) (by kernel_rfl) (fun _ _ _ h => h) (Or.inl ⟨by rfl, ?_⟩) hHeld ?_
  rotate_left 1
  · (intro w hSw; (try dsimp only at hSw); go_simp; try with_reducible rfl)
  try simp only [Act.put, List.getElem_toArray, List.getElem_cons_zero, List.getElem_cons_succ, List.setIfInBounds_toArray, List.set_cons_zero, List.set_cons_succ]
  refine wpAnyH_take (i := 7) (v := ?_) rfl (by kernel_rfl) (by kernel_rfl) (by kernel_rfl) (fun _ _ _ h => h) (Or.inl ⟨by rfl, ?_⟩) hHeld ?_
  rotate_left 1
  · (intro w hSw; obtain ⟨q1, q2, q3⟩ := hSw; go_simp; try with_reducible rfl)
  try simp only [Act.put, List.getElem_toArray, List.getElem_cons_zero, List.getElem_cons_succ, List.setIfInBounds_toArray, List.set_cons_zero, List.set_cons_succ]
  refine wpAnyH_ready (rs := [8]) (by kernel_rfl) (by simp) (AllReadyH.cons rfl (fun K hK => ?_) AllReadyH.nil)
  clear hHeld
  obtain ⟨v2, w2, hrun, hg2, hk2, hb2⟩ := app_keep 23 HKL.out (HKV.out.G (HG1.out.trans (G.drew (G.refl _)))) HKS.out
  have HG2 := hide (G.trans (G.drew (G.refl _)) hg2)
  have HK2 := hide hk2
  have HB2 := hide hb2
  clear hg2 hk2 hb2
  refine (if_pos rfl).mpr ?_
  refine wp_of_exec (exec_append _ _ 23 rfl (.slice none 0 0) kv rfl rfl 23 rfl hrun) ?_
  clear hrun
  refine hK.out _ _ (HH1.out.G HG2.out (by simp)) (fun hHeld => ?_)
  clear hK K
  try simp only [Act.put, List.getElem_toArray, List.getElem_cons_zero, List.getElem_cons_succ, List.setIfInBounds_toArray, List.set_cons_zero, List.set_cons_succ]
  refine wpAnyH_ready (rs := [9]) (by kernel_rfl) (by simp) (AllReadyH.cons rfl (fun K hK => ?_) AllReadyH.nil)
  clear hHeld
  go_simp
  with_reducible refine (HRD.out _ v2 ?_ ?_ ?_).mono ?_
  exact HS1.out.sp.G HG2.out
  exact HK2.out
  exact (fun j hj e => by have h1 := HB2.out j hj; have h2 := (HS1.out.d2 j (.inl e)).2; simp only [World.drew] at h1; omega)
  rintro e' w3 ⟨rfl, hsl, hch⟩
  have HLw3 := hide hsl
  have HCw3 := hide hch
  clear hsl hch
  go_wp2_with fail
  refine hK.out _ _ ((HH1.out.G HG2.out (by simp)).chg HCw3.out (by simp) HNP.out HOP.out) (fun hHeld => ?_)
  clear hK K
  try simp only [Act.put, List.getElem_toArray, List.getElem_cons_zero, List.getElem_cons_succ, List.setIfInBounds_toArray, List.set_cons_zero, List.set_cons_succ]
  refine wpAnyH_take (i := 10) (v := ?_) rfl (by kernel_rfl) (by kernel_rfl) (by kernel_rfl) (fun _ _ _ h => h) (Or.inl ⟨by rfl, ?_⟩) hHeld ?_
  rotate_left 1
  · (intro w hSw; (try dsimp only at hSw); go_simp; try with_reducible rfl)
  try simp only [Act.put, List.getElem_toArray, List.getElem_cons_zero, List.getElem_cons_succ, List.setIfInBounds_toArray, List.set_cons_zero, List.set_cons_succ]
  refine wpAnyH_take (i := 11) (v := ?_) rfl (by kernel_rfl) (by kernel_rfl) (by kernel_rfl) (fun _ _ _ h => h) (Or.inl ⟨by rfl, ?_⟩) hHeld ?_
  rotate_left 1
  · (intro w hSw; (try dsimp only at hSw); go_simp; try with_reducible rfl)
  try simp only [Act.put, List.getElem_toArray, List.getElem_cons_zero, List.getElem_cons_succ, List.setIfInBounds_toArray, List.set_cons_zero, List.set_cons_succ]
  refine wpAnyH_take (i := 12) (v := ?_) rfl (by kernel_rfl) (by kernel_rfl) (by kernel_rfl) (fun _ _ _ h => h) (Or.inl ⟨by rfl, ?_⟩) hHeld ?_
  rotate_left 1
  · (intro w hSw; (try dsimp only at hSw); go_simp; try with_reducible rfl)
  try simp only [Act.put, List.getElem_toArray, List.getElem_cons_zero, List.getElem_cons_succ, List.setIfInBounds_toArray, List.set_cons_zero, List.set_cons_succ]
  refine wpAnyH_take (i := 13) (v := ?_) rfl (by kernel_rfl) (by kernel_rfl) (by kernel_rfl) (fun _ _ _ h => h) (Or.inl ⟨by rfl, ?_⟩) hHeld ?_
  rotate_left 1
  · (intro w hSw; (try dsimp only at hSw); go_simp; try with_reducible rfl)
  try simp only [Act.put, List.getElem_toArray, List.getElem_cons_zero, List.getElem_cons_succ, List.setIfInBounds_toArray, List.set_cons_zero, List.set_cons_succ]
  refine wpAnyH_take (i := 14) (v := ?_) rfl (by kernel_rfl) (by kernel_rfl) (by kernel_rfl) (fun _ _ _ h => h) (Or.inl ⟨by rfl, ?_⟩) hHeld ?_
  rotate_left 1
  · (intro w hSw; (try dsimp only at hSw); go_simp; try with_reducible rfl)
  try simp only [Act.put, List.getElem_toArray, List.getElem_cons_zero, List.getElem_cons_succ, List.setIfInBounds_toArray, List.set_cons_zero, List.set_cons_succ]
  refine wpAnyH_done (by kernel_rfl) ?_ _
  refine NoPanic.normal ?_
  go_wp2_with fail
  refine wp_region_noPanic ?_
  refine wp_region_held_drew (S := (fun W => Hd W t s w.heap.size pv rv [I 8, I who, I n, dv, kv])) (by kernel_rfl) (((HH1.out.G HG2.out (by simp)).chg HCw3.out (by simp) HNP.out HOP.out).G (G.drew (G.refl _)) (by simp)) (fun hHeld => ?_)
  refine wpAnyH_take (i := 0) (v := ?_) rfl (by kernel_rfl) (by kernel_rfl) (by kernel_rfl) (fun _ _ _ h => h) (Or.inl ⟨by rfl, ?_⟩) hHeld ?_
  rotate_left 1
  · (intro w hSw; (try dsimp only at hSw); go_simp; try with_reducible rfl)
  try simp only [Act.put, List.getElem_toArray, List.getElem_cons_zero, List.setIfInBounds_toArray, List.set_cons_zero, List.set_cons_succ]
  refine wpAnyH_take (i := 1) (v := ?_) rfl (by kernel_rfl) (by kernel_rfl) (by kernel_rfl) (fun _ _ _ h => h) (Or.inl ⟨by rfl, ?_⟩) hHeld ?_
  rotate_left 1
  · (intro w hSw; (try dsimp only at hSw); go_simp; try with_reducible rfl)
  try simp only [Act.put, List.getElem_toArray, List.getElem_cons_zero, List.getElem_cons_succ, List.setIfInBounds_toArray, List.set_cons_zero, List.set_cons_succ]
  refine wpAnyH_take (i := 2) (v := ?_) rfl (by kernel_rfl) (by kernel_rfl) (by kernel_rfl) (fun _ _ _ h => h) (Or.inl ⟨by rfl, ?_⟩) hHeld ?_
  rotate_left 1
  · (intro w hSw; (try dsimp only at hSw); go_simp; try with_reducible rfl)
  try simp only [Act.put, List.getElem_toArray, List.getElem_cons_zero, List.getElem_cons_succ, List.setIfInBounds_toArray, List.set_cons_zero, List.set_cons_succ]
  refine wpAnyH_take (i := 3) (v := ?_) rfl (by kernel_rfl) (by kernel_rfl) (by kernel_rfl) (fun _ _ _ h => h) (Or.inl ⟨by rfl, ?_⟩) hHeld ?_
  rotate_left 1
  · (intro w hSw; (try dsimp only at hSw); go_simp; try with_reducible rfl)
  try simp only [Act.put, List.getElem_toArray, List.getElem_cons_zero, List.getElem_cons_succ, List.setIfInBounds_toArray, List.set_cons_zero, List.set_cons_succ]
  refine wpAnyH_take (i := 4) (v := ?_) rfl (by kernel_rfl) (by kernel_rfl) (by kernel_rfl) (fun _ _ _ h => h) (Or.inl ⟨by rfl, ?_⟩) hHeld ?_
  rotate_left 1
  · (intro w hSw; (try dsimp only at hSw); go_simp; try with_reducible rfl)
  try simp only [Act.put, List.getElem_toArray, List.getElem_cons_zero, List.getElem_cons_succ, List.setIfInBounds_toArray, List.set_cons_zero, List.set_cons_succ]
  refine wpAnyH_take (i := 5) (v := ?_) rfl (by kernel_rfl) (by kernel_rfl) (by kernel_rfl) (fun _ _ _ h => h) (Or.inl ⟨by rfl, ?_⟩) hHeld ?_
  rotate_left 1
  · (intro w hSw; obtain ⟨q1, q2, q3⟩ := hSw; go_simp; try with_reducible rfl)
  try simp only [Act.put, List.getElem_toArray, List.getElem_cons_zero, List.getElem_cons_succ, List.setIfInBounds_toArray, List.set_cons_zero, List.set_cons_succ]
  refine wpAnyH_take (i := 6) (v := ?_) rfl (by kernel_rfl) (by kernel_rfl) (by kernel_rfl) (fun _ _ _ h => h) (Or.inl ⟨by rfl, ?_⟩) hHeld ?_
  rotate_left 1
  · (intro w hSw; (try dsimp only at hSw); go_simp; try with_reducible rfl)
  try simp only [Act.put, List.getElem_toArray, List.getElem_cons_zero, List.getElem_cons_succ, List.setIfInBounds_toArray, List.set_cons_zero, List.set_cons_succ]
  refine wpAnyH_take (i := 7) (v := ?_) rfl (by kernel_rfl) (by kernel_rfl) (by kernel_rfl) (fun _ _ _ h => h) (Or.inl ⟨by rfl, ?_⟩) hHeld ?_
  rotate_left 1
  · (intro w hSw; obtain ⟨q1, q2, q3⟩ := hSw; go_simp; try with_reducible rfl)
  try simp only [Act.put, List.getElem_toArray, List.getElem_cons_zero, List.getElem_cons_succ, List.setIfInBounds_toArray, List.set_cons_zero, List.set_cons_succ]
  refine wpAnyH_ready (rs := [8]) (by kernel_rfl) (by simp) (AllReadyH.cons rfl (fun K hK => ?_) AllReadyH.nil)
  clear hHeld
  go_simp
  with_reducible refine (HRR.out _ kv ?_ ?_ ?_).mono ?_
  exact ((HS1.out.sr.G HG2.out).chg HCw3.out HDIS.out).G (G.drew (G.refl _))
  exact (((HKV.out.G (HG1.out.trans HG2.out)).chg HCw3.out (fun j hj => (HKF.out j hj).1))).G (G.drew (G.refl _))
  exact (fun j hj => (HKF.out j hj).2)
  rintro e' w4 ⟨rfl, hsl, hch⟩
  have HLw4 := hide hsl
  have HCw4 := hide (Chg.trans (G.drew (G.refl _)).chg hch)
  clear hsl hch
  go_wp2_with fail
  refine hK.out _ _ (((HH1.out.G HG2.out (by simp)).chg HCw3.out (by simp) HNP.out HOP.out).chg HCw4.out (by simp) HNR.out HOR.out) (fun hHeld => ?_)
  clear hK K
  try simp only [Act.put, List.getElem_toArray, List.getElem_cons_zero, List.getElem_cons_succ, List.setIfInBounds_toArray, List.set_cons_zero, List.set_cons_succ]
  refine wpAnyH_take (i := 9) (v := ?_) rfl (by kernel_rfl) (by kernel_rfl) (by kernel_rfl) (fun _ _ _ h => h) (Or.inl ⟨by rfl, ?_⟩) hHeld ?_
  rotate_left 1
  · (intro w hSw; (try dsimp only at hSw); go_simp; try with_reducible rfl)
  try simp only [Act.put, List.getElem_toArray, List.getElem_cons_zero, List.getElem_cons_succ, List.setIfInBounds_toArray, List.set_cons_zero, List.set_cons_succ]
  refine wpAnyH_take (i := 10) (v := ?_) rfl (by kernel_rfl) (by kernel_rfl) (by kernel_rfl) (fun _ _ _ h => h) (Or.inl ⟨by rfl, ?_⟩) hHeld ?_
  rotate_left 1
  · (intro w hSw; (try dsimp only at hSw); go_simp; try with_reducible rfl)
  try simp only [Act.put, List.getElem_toArray, List.getElem_cons_zero, List.getElem_cons_succ, List.setIfInBounds_toArray, List.set_cons_zero, List.set_cons_succ]
  refine wpAnyH_take (i := 11) (v := ?_) rfl (by kernel_rfl) (by kernel_rfl) (by kernel_rfl) (fun _ _ _ h => h) (Or.inl ⟨by rfl, ?_⟩) hHeld ?_
  rotate_left 1
  · (intro w hSw; (try dsimp only at hSw); go_simp; try with_reducible rfl)
  try simp only [Act.put, List.getElem_toArray, List.getElem_cons_zero, List.getElem_cons_succ, List.setIfInBounds_toArray, List.set_cons_zero, List.set_cons_succ]
  refine wpAnyH_take (i := 12) (v := ?_) rfl (by kernel_rfl) (by kernel_rfl) (by kernel_rfl) (fun _ _ _ h => h) (Or.inl ⟨by rfl, ?_⟩) hHeld ?_
  rotate_left 1
  · (intro w hSw; (try dsimp only at hSw); go_simp; try with_reducible rfl)
  try simp only [Act.put, List.getElem_toArray, List.getElem_cons_zero, List.getElem_cons_succ, List.setIfInBounds_toArray, List.set_cons_zero, List.set_cons_succ]
  refine wpAnyH_take (i := 13) (v := ?_) rfl (by kernel_rfl) (by kernel_rfl) (by kernel_rfl) (fun _ _ _ h => h) (Or.inl ⟨by rfl, ?_⟩) hHeld ?_
  rotate_left 1
  · (intro w hSw; (try dsimp only at hSw); go_simp; try with_reducible rfl)
  try simp only [Act.put, List.getElem_toArray, List.getElem_cons_zero, List.getElem_cons_succ, List.setIfInBounds_toArray, List.set_cons_zero, List.set_cons_succ]
  refine wpAnyH_done (by kernel_rfl) ?_ _
  refine NoPanic.normal ?_
  go_wp2
  go_ret
  exact ⟨rfl, ((HS1.out.G HG2.out).both HCw3.out HLw3.out HCw4.out HLw4.out (fun k hk => .inl hk) (fun k hk => .inl hk) (few_cr HB.out ks)).back (HG1.out.trans HG2.out)⟩
end Go.Proofs.Ytbjbphhcmmaaoaa
