/- Wire: the document's GetRequest. -/
import Derived.Test.YtnjeingpjoadjaaDoorW34
import Derived.Test.YtnjeingpjoadjaaDoorW17
namespace Go.Proofs.YtnjeingpjoadjaaDoor
open Go.RowKit

theorem ret_r (tmps : Array Value) (W : World) (rb : Nat) (cs : List Value) (c : Int) (hp : tmps.getD 2 undef = .pointer (some ⟨rb, 0, none⟩)) (hc : tmps.getD 3 undef = I c) (hr : Blk W rb 25 cs) (hl : cs.length = 4) :
    (results Tryd.f13 tmps).run Tryd.prog W = .ok (.tuple #[.agg cs.toArray, I c]) W := by
  rw [results_cell_tmp Tryd.results13, hp, hc]
  have h := run_loadVar_mid (P := Tryd.prog) W rb 0 25 cs _ (by have := hr.range 0 4; rw [List.drop_zero, List.take_of_length_le (by omega)] at this; exact this) Tryd.underlying25 rfl (by rw [hl]; kernel_rfl)
  simp only [asAddr, Sem.run_pure, Result.andThen_ok, h]
theorem G.far {w w4 w5 : World} (hg : Go.Proofs.YtnjeingpjoadjaaDoor.G w w4) (hc : Chg (fun k => w.heap.size ≤ k) w4 w5) : Go.Proofs.YtnjeingpjoadjaaDoor.G w w5 :=
  ⟨hc.os.trans hg.os, hc.tape.trans hg.tape, hc.output.trans hg.output, Nat.le_trans hg.size hc.size, fun i hi => (hc.block i (Nat.lt_of_lt_of_le hi hg.size) (by omega)).trans (hg.block i hi)⟩
theorem pq_rest (k : Int) (s : Option (List Nat)) : (((((s.bind (pl pz)).map (·.2)).bind pt).map (·.2)).bind pb).map (·.2) = (s.bind (pq k)).map (·.2) := by
  rw [pq_eq]
  cases s.bind (pl pz) with
  | none => rfl
  | some x =>
    show (((pt x.2).map (·.2)).bind pb).map (·.2) = ((pt x.2).bind fun y => ((some y.2).bind pb).bind fun z => some ((⟨k, x.1, y.1, z.1⟩ : Rq), z.2)).map (·.2)
    cases pt x.2 with
    | none => rfl
    | some y =>
      show (pb y.2).map (·.2) = ((pb y.2).bind fun z => some ((⟨k, x.1, y.1, z.1⟩ : Rq), z.2)).map (·.2)
      cases pb y.2 with
      | none => rfl
      | some z => rfl
set_option maxRecDepth 100000 in
set_option maxHeartbeats 1000000 in
theorem rgetq_any (c k : Int) (l : List Nat) (v : Value) (w : World) (hr : Rb w v l) (hb : By l) (hn : l.length ≤ 140737488351232) :
    Calls Tryd.prog 13 #[.agg #[I c, I k, v]] w (GqP c k l w) := by
  obtain ⟨p, cap, rfl⟩ := hr.form
  obtain ⟨w2, hw2⟩ : ∃ w2, w2 = (w.alloc (.cells #[I c, I k, .slice p l.length cap] 35)).alloc (.cells #[I 0, .slice none 0 0, .string { data := #[] }, .slice none 0 0] 25) := ⟨_, rfl⟩
  have hA2 : G w w2 := by rw [hw2]; exact ((G.refl w).alloc _).alloc _
  have hB2 : Blk w2 w.heap.size 35 [I c, I k, .slice p l.length cap] := by rw [hw2]; exact (Blk.new w [I c, I k, .slice p l.length cap] 35).G ((G.refl _).alloc _)
  have hC2 : Blk w2 (w.heap.size + 1) 25 [I 0, .slice none 0 0, .string { data := #[] }, .slice none 0 0] := by
    have := Blk.new (w.alloc (.cells #[I c, I k, .slice p l.length cap] 35)) [I 0, .slice none 0 0, .string { data := #[] }, .slice none 0 0] 25
    rw [hw2]
    simpa using this
  have HA := hide hA2
  have HW2 := hide hw2
  have HB := hide (And.intro hB2 hC2)
  have b2 := hB2.cell
  have b3 := hC2.cell
  have b4 := hC2.frozen
  have EW : (w.alloc (.cells #[I c, I k, .slice p l.length cap] 35)).alloc (.cells #[I 0, .slice none 0 0, .string { data := #[] }, .slice none 0 0] 25) = w2 := hw2.symm
  have HEW := hide EW
  have hbx := b2
  rw [hw2] at hbx
  by_cases c0 : c ≠ 0
  · have d0 : (c != 0) = true := bne_iff_ne.2 c0
    have HC : Hid (gqC c k l = c) := by show _ = _; unfold gqC; rw [if_pos c0]
    have HN0 := hide c0
    clear hr hb hn hA2 hB2 hC2 hw2 c0 EW
    go_enter Tryd.func13, Tryd.ntmps13
    go_wp2_with fail
    rw [HEW.out]
    clear hbx
    refine wp_region_noPanic ?_
    refine wp_region_held_drew (S := (fun V => ∀ o, V.cell? ⟨w.heap.size, o, none⟩ = ([I c, I k, .slice p l.length cap] : List Value)[o]?)) (by kernel_rfl) (HB.out.1.drew.cell) (fun hHeld => ?_)
    refine wpAnyH_take (i := 0) (v := ?_) rfl (by kernel_rfl) (by kernel_rfl) (by kernel_rfl) (fun _ _ _ h => h) (Or.inl ⟨by rfl, ?_⟩) hHeld ?_
    rotate_left 1
    · (intro w hSw; (try dsimp only at hSw); go_simp; try with_reducible rfl)
    try simp only [Act.put, List.getElem_toArray, List.getElem_cons_zero, List.setIfInBounds_toArray, List.set_cons_zero, List.set_cons_succ]
    refine wpAnyH_take (i := 1) (v := ?_) rfl (by kernel_rfl) (by kernel_rfl) (by kernel_rfl) (fun _ _ _ h => h) (Or.inl ⟨by rfl, ?_⟩) hHeld ?_
    rotate_left 1
    · (intro w hSw; (try dsimp only at hSw); go_simp; try with_reducible rfl)
    try simp only [Act.put, List.getElem_toArray, List.getElem_cons_zero, List.getElem_cons_succ, List.setIfInBounds_toArray, List.set_cons_zero, List.set_cons_succ]
    refine wpAnyH_take (i := 2) (v := ?_) rfl (by kernel_rfl) (by kernel_rfl) (by kernel_rfl) (fun _ _ _ h => h) (Or.inl ⟨by rfl, ?_⟩) hHeld ?_
    rotate_left 1
    · (intro w hSw; have q1 := hSw; go_simp; try with_reducible rfl)
    try simp only [Act.put, List.getElem_toArray, List.getElem_cons_zero, List.getElem_cons_succ, List.setIfInBounds_toArray, List.set_cons_zero, List.set_cons_succ]
    refine wpAnyH_ready (rs := [3]) (by kernel_rfl) (by simp) (AllReadyH.cons rfl (fun K hK => ?_) AllReadyH.nil)
    clear hHeld
    have hcR : ∀ o, w2.drew.cell? ⟨w.heap.size + 1, o, none⟩ = _ := HB.out.2.drew.cell
    have hzR := HB.out.2.drew.frozen
    go_simp
    have HQ : Hid (Blk (WS w2 (w.heap.size + 1) (I 0) (.slice none 0 0) (.string { data := #[] }) (.slice none 0 0)).drew w.heap.size 35 [I c, I k, .slice p l.length cap] ∧ Blk (WS w2 (w.heap.size + 1) (I 0) (.slice none 0 0) (.string { data := #[] }) (.slice none 0 0)).drew (w.heap.size + 1) 25 [I 0, .slice none 0 0, .string { data := #[] }, .slice none 0 0] ∧ G w (WS w2 (w.heap.size + 1) (I 0) (.slice none 0 0) (.string { data := #[] }) (.slice none 0 0)).drew) := by
      obtain ⟨q1, q2, q3, _⟩ := ws_set (I 0) (.slice none 0 0) (.string { data := #[] }) (.slice none 0 0) HB.out.1 HB.out.2 HA.out (Nat.le_succ _)
      exact ⟨q1.drew, q2.drew, q3.drew⟩
    clear hcR hzR
    generalize (WS w2 (w.heap.size + 1) (I 0) (.slice none 0 0) (.string { data := #[] }) (.slice none 0 0)).drew = x9 at HQ ⊢
    refine hK.out _ _ (HQ.out.1.cell) (fun hHeld => ?_)
    clear hK K
    try simp only [Act.put, List.getElem_toArray, List.getElem_cons_zero, List.getElem_cons_succ, List.setIfInBounds_toArray, List.set_cons_zero, List.set_cons_succ]
    refine wpAnyH_take (i := 4) (v := ?_) rfl (by kernel_rfl) (by kernel_rfl) (by kernel_rfl) (fun _ _ _ h => h) (Or.inl ⟨by rfl, ?_⟩) hHeld ?_
    rotate_left 1
    · (intro w hSw; (try dsimp only at hSw); go_simp; try with_reducible rfl)
    try simp only [Act.put, List.getElem_toArray, List.getElem_cons_zero, List.getElem_cons_succ, List.setIfInBounds_toArray, List.set_cons_zero, List.set_cons_succ]
    refine wpAnyH_done (by kernel_rfl) ?_ _
    refine NoPanic.normal ?_
    go_wp2_with fail
    exact bodyPost_ret_by (v := .tuple #[.agg #[I 0, .slice none 0 0, .string { data := #[] }, .slice none 0 0], I c]) (ret_r _ _ (w.heap.size + 1) [I 0, .slice none 0 0, .string { data := #[] }, .slice none 0 0] c rfl rfl HQ.out.2.1 rfl) rfl (GqP.bad c k l w x9 c HC.out HN0.out HQ.out.2.2)
  · have hc0 : c = 0 := Classical.not_not.1 c0
    subst hc0
    have HZ : ∀ (x : World), Blk x w.heap.size 35 [I 0, I k, .slice p l.length cap] → Blk x (w.heap.size + 1) 25 [I 0, .slice none 0 0, .string { data := #[] }, .slice none 0 0] → G w x → ∀ y : Int, gqC 0 k l = y → y ≠ 0 → Hid (Blk (WS x (w.heap.size + 1) (I 0) (.slice none 0 0) (.string { data := #[] }) (.slice none 0 0)) (w.heap.size + 1) 25 [I 0, .slice none 0 0, .string { data := #[] }, .slice none 0 0] ∧ GqP 0 k l w (.returned (.tuple #[.agg #[I 0, .slice none 0 0, .string { data := #[] }, .slice none 0 0], I y])) (WS x (w.heap.size + 1) (I 0) (.slice none 0 0) (.string { data := #[] }) (.slice none 0 0))) := fun x h1 h2 h3 y h4 h5 => by
      obtain ⟨_, q2, q3, _⟩ := ws_set (I 0) (.slice none 0 0) (.string { data := #[] }) (.slice none 0 0) h1 h2 h3 (Nat.le_succ _)
      exact ⟨q2, GqP.bad 0 k l w _ y h4 h5 q3⟩
    by_cases cK : 1 ≤ k ∧ k ≤ 12
    · have i6 : ¬ k < 1 := by omega
      have i7 : ¬ (12 : Int) < k := by omega
      by_cases cl : 2097152 < l.length
      · have i1 : (2097152 : Int) < (l.length : Int) := by omega
        have HF := hide (And.intro HB.out.2 (GqP.bad 0 k l w w2 163 (by unfold gqC; rw [if_neg (by simp), if_neg (not_not_intro cK), if_pos cl]) (by decide) HA.out))
        clear hr hb hn hA2 hB2 hC2 hw2 c0 EW HZ cK cl
        go_enter Tryd.func13, Tryd.ntmps13
        go_wp2_with fail
        rw [HEW.out]
        clear hbx
        go_wp2_with fail
        exact bodyPost_ret_by (v := .tuple #[.agg #[I 0, .slice none 0 0, .string { data := #[] }, .slice none 0 0], I 163]) (ret_r _ _ (w.heap.size + 1) [I 0, .slice none 0 0, .string { data := #[] }, .slice none 0 0] 163 rfl rfl HF.out.1 rfl) rfl HF.out.2
      · have i1 : ¬ (2097152 : Int) < (l.length : Int) := by omega
        have hsz : w2.heap.size = w.heap.size + 1 + 1 := by rw [hw2]; simp
        obtain ⟨w4, hw4⟩ : ∃ w4, w4 = (w2.alloc (.cells #[.slice p l.length cap, .bool false] 67)).alloc (.cells #[I k, .slice none 0 0, .string { data := #[] }, .slice none 0 0] 25) := ⟨_, rfl⟩
        have hA4 : G w2 w4 := by rw [hw4]; exact ((G.refl w2).alloc _).alloc _
        have hS4 : Blk w4 w2.heap.size 67 [.slice p l.length cap, .bool false] := by rw [hw4]; exact (Blk.new w2 [.slice p l.length cap, .bool false] 67).G ((G.refl _).alloc _)
        have hQ4 : Blk w4 (w2.heap.size + 1) 25 [I k, .slice none 0 0, .string { data := #[] }, .slice none 0 0] := by
          have := Blk.new (w2.alloc (.cells #[.slice p l.length cap, .bool false] 67)) [I k, .slice none 0 0, .string { data := #[] }, .slice none 0 0] 25
          rw [hw4]
          simpa using this
        have hs4 : Rc w2.heap.size w4 w2.heap.size (some l) :=
          ⟨_, false, l, hS4, (hr.G hA2).G hA4, hb, by omega, .inr ⟨rfl, rfl⟩, fun g o n c2 e q => by
            cases e
            obtain ⟨cs, q1, q2⟩ := (hr.G hA2).at (List.getElem?_eq_getElem (List.length_pos_iff.2 q))
            have q1 : cs = [bv _] := q1
            rw [q1] at q2
            exact cell_lt (q2 0 _ rfl)⟩
        have hN4 := hA4.size
        have h4sz := hQ4.lt
        rw [hsz] at hs4 hQ4 hN4 h4sz
        have K1 := hide (nums3_any (w.heap.size + 1 + 1) w4 (w.heap.size + 1 + 1) (some l) hs4 hN4)
        have H0L : Hid (∀ x l', (some l).bind (pl pz) = some (x, l') → x.length ≤ 2097152) := fun x l' e => by
          have h2 := pl_len pz (show pl pz l = some (x, l') from e); omega
        have hz4 := Blk.new w2 [.slice none 0 0, .bool false] 67
        have z4 := hz4.cell
        have z5 := hz4.frozen
        have hz6 := Blk.new (w2.alloc (.cells #[.slice p l.length cap, .bool false] 67)) [I 0, .slice none 0 0, .string { data := #[] }, .slice none 0 0] 25
        have z6 := hz6.cell
        have z7 := hz6.frozen
        simp at z6 z7
        have hB4 := HB.out.1.G hA4
        have hC4 := HB.out.2.G hA4
        have H4 := hide (And.intro hB4 (And.intro hC4 (And.intro (HA.out.trans hA4) (And.intro hQ4 hs4))))
        have HW4 := hide hw4
        have HK := hide (And.intro cK cl)
        have HL4 := hide h4sz
        clear hr hb hn hA2 hB2 hC2 hw2 c0 EW cK cl hs4 hA4 hz4 hz6 hB4 hC4 hS4 hQ4 hw4 hN4 h4sz hsz
        go_enter Tryd.func13, Tryd.ntmps13
        go_wp2_with fail
        rw [HEW.out, show (w2.alloc (.cells #[.slice p l.length cap, .bool false] 67)).alloc (.cells #[I k, .slice none 0 0, .string { data := #[] }, .slice none 0 0] 25) = w4 from HW4.out.symm]
        clear hbx z4 z5 z6 z7 b2 b3 b4
        refine K1.out.mono ?_
        intro e w5 hg
        obtain ⟨v5, rfl, hc5, hs5, hr5, hj5⟩ := hg.sc
        clear hg K1
        obtain ⟨a5, n5, c5, rfl⟩ : ∃ a n c, v5 = .slice a n c := by
          cases e : (some l).bind (pl pz) with
          | none => exact hj5 e
          | some x => obtain ⟨q, _⟩ := hr5 x.1 x.2 e; obtain ⟨a, c, q⟩ := q.form; exact ⟨_, _, _, q⟩
        obtain ⟨hB4, hC4, hg4, hQ4, hs4⟩ := H4.out
        have hB5 := hB4.chg hc5 (F := fun k => k = (w.heap.size + 1 + 1)) (by omega)
        have hC5 := hC4.chg hc5 (F := fun k => k = (w.heap.size + 1 + 1)) (by omega)
        have hQ5 := hQ4.chg hc5 (F := fun k => k = (w.heap.size + 1 + 1)) (by omega)
        have k5 := hQ5.cell
        have f5 := hQ5.frozen
        have hch6 : Chg (fun k => k = (w.heap.size + 1 + 1 + 1)) w5 (w5.setCell ⟨(w.heap.size + 1 + 1 + 1), 1, none⟩ (.slice a5 n5 c5)) := chg_setCell w5 _ (.inl rfl)
        have hs6 := hs5.far (F := fun k => k = (w.heap.size + 1 + 1 + 1)) (fun k hk => by omega) hch6
        have hv6 : ∀ x l', (some l).bind (pl pz) = some (x, l') → Sw eI 2 (w5.setCell ⟨(w.heap.size + 1 + 1 + 1), 1, none⟩ (.slice a5 n5 c5)) (.slice a5 n5 c5) x ∧ (∀ y ∈ x, R64 y) ∧ Fresh w4 (.slice a5 n5 c5) := fun x l' e => by
          obtain ⟨q1, q2, q3⟩ := hr5 x l' e
          exact ⟨q1.off (q1.ne hQ5 (by decide)), q3, q2⟩
        have K2 := hide (text3_any (w.heap.size + 1 + 1) _ (w.heap.size + 1 + 1) _ hs6)
        have H6 := hide (And.intro (hB5.off (b := (w.heap.size + 1 + 1 + 1)) (o := 1) (v := .slice a5 n5 c5) (by omega)) (And.intro (hC5.off (b := (w.heap.size + 1 + 1 + 1)) (o := 1) (v := .slice a5 n5 c5) (by omega)) (And.intro (hQ5.set 1 (.slice a5 n5 c5)) (And.intro (hg4.far ((hc5.mono (F' := fun k => w.heap.size ≤ k) (fun i hi => by omega)).trans (hch6.mono (F' := fun k => w.heap.size ≤ k) (fun i hi => by omega)))) (And.intro (Nat.le_trans hc5.size hch6.size) (And.intro hs6 hv6))))))
        clear hc5 hs5 hr5 hj5 hB4 hC4 hg4 hQ4 hs4 hB5 hC5 hQ5 hch6 hs6 hv6 H4
        go_wp2_with fail
        generalize w5.setCell ⟨(w.heap.size + 1 + 1 + 1), 1, none⟩ (.slice a5 n5 c5) = w6 at K2 H6 ⊢
        clear k5 f5
        refine K2.out.mono ?_
        intro e w7 hg
        obtain ⟨v7, rfl, hc7, hs7, hr7, hj7⟩ := hg.sc
        clear hg K2
        obtain ⟨t7, rfl⟩ : ∃ t, v7 = .string t := by
          cases e : (((some l).bind (pl pz)).map (·.2)).bind pt with
          | none => exact hj7 e
          | some x => exact ⟨_, hr7 x.1 x.2 e⟩
        obtain ⟨hB6, hC6, hQ6, hg6, hz6, hs6, hv6⟩ := H6.out
        obtain ⟨_, _, _, bb6⟩ := hs6.bad
        have hB7 := hB6.chg hc7 (F := fun k => k = (w.heap.size + 1 + 1)) (by omega)
        have hC7 := hC6.chg hc7 (F := fun k => k = (w.heap.size + 1 + 1)) (by omega)
        have hQ7 := hQ6.chg hc7 (F := fun k => k = (w.heap.size + 1 + 1)) (by omega)
        have k7 := hQ7.cell
        have f7 := hQ7.frozen
        have hch8 : Chg (fun k => k = (w.heap.size + 1 + 1 + 1)) w7 (w7.setCell ⟨(w.heap.size + 1 + 1 + 1), 2, none⟩ (.string t7)) := chg_setCell w7 _ (.inl rfl)
        have hs8 := hs7.far (F := fun k => k = (w.heap.size + 1 + 1 + 1)) (fun k hk => by omega) hch8
        have hv8 : ∀ x l', (some l).bind (pl pz) = some (x, l') → Sw eI 2 (w7.setCell ⟨(w.heap.size + 1 + 1 + 1), 2, none⟩ (.string t7)) (.slice a5 n5 c5) x ∧ (∀ y ∈ x, R64 y) ∧ Fresh w4 (.slice a5 n5 c5) := fun x l' e => by
          obtain ⟨q1, q2, q3⟩ := hv6 x l' e
          have q4 := q1.cr bb6 (by decide) hc7
          exact ⟨q4.off (q4.ne hQ7 (by decide)), q2, q3⟩
        have hL7 : ∀ x l', (some l).bind (pl pz) = some (x, l') → l'.length ≤ 2097152 := fun x l' e => by
          rw [e] at hs6
          exact rc_len hs6
        have K3 := hide (bits3_any (w.heap.size + 1 + 1) _ (w.heap.size + 1 + 1) _ hs8 (Nat.le_trans (Nat.le_of_lt (Nat.lt_of_succ_lt HL4.out)) (Nat.le_trans hz6 (Nat.le_trans hc7.size hch8.size))))
        have H8 := hide (And.intro (hB7.off (b := (w.heap.size + 1 + 1 + 1)) (o := 2) (v := .string t7) (by omega)) (And.intro (hC7.off (b := (w.heap.size + 1 + 1 + 1)) (o := 2) (v := .string t7) (by omega)) (And.intro (hQ7.set 2 (.string t7)) (And.intro (hg6.far ((hc7.mono (F' := fun k => w.heap.size ≤ k) (fun i hi => by omega)).trans (hch8.mono (F' := fun k => w.heap.size ≤ k) (fun i hi => by omega)))) (And.intro (Nat.le_trans hz6 (Nat.le_trans hc7.size hch8.size)) (And.intro hs8 (And.intro hv8 (And.intro hr7 hL7))))))))
        clear hc7 hs7 hr7 hj7 hB6 hC6 hQ6 hg6 hz6 hs6 hv6 hB7 hC7 hQ7 hch8 hs8 hv8 hL7 bb6 H6
        go_wp2_with fail
        generalize w7.setCell ⟨(w.heap.size + 1 + 1 + 1), 2, none⟩ (.string t7) = w8 at K3 H8 ⊢
        clear k7 f7
        refine K3.out.mono ?_
        intro e w9 hg
        obtain ⟨v9, rfl, hc9, hs9, hr9, hj9⟩ := hg.sc
        clear hg K3
        obtain ⟨a9, n9, c9, rfl⟩ : ∃ a n c, v9 = .slice a n c := by
          cases e : (((((some l).bind (pl pz)).map (·.2)).bind pt).map (·.2)).bind pb with
          | none => exact hj9 e
          | some x => obtain ⟨a, c, q⟩ := (hr9 x.1 x.2 e).1.form; exact ⟨_, _, _, q⟩
        obtain ⟨hB8, hC8, hQ8, hg8, hz8, hs8, hv8, hr7, hL7⟩ := H8.out
        obtain ⟨_, _, _, bb8⟩ := hs8.bad
        have hB9 := hB8.chg hc9 (F := fun k => k = (w.heap.size + 1 + 1)) (by omega)
        have hC9 := hC8.chg hc9 (F := fun k => k = (w.heap.size + 1 + 1)) (by omega)
        have hQ9 := hQ8.chg hc9 (F := fun k => k = (w.heap.size + 1 + 1)) (by omega)
        have k9 := hQ9.cell
        have f9 := hQ9.frozen
        have hch10 : Chg (fun k => k = (w.heap.size + 1 + 1 + 1)) w9 (w9.setCell ⟨(w.heap.size + 1 + 1 + 1), 3, none⟩ (.slice a9 n9 c9)) := chg_setCell w9 _ (.inl rfl)
        have hs10 := hs9.far (F := fun k => k = (w.heap.size + 1 + 1 + 1)) (fun k hk => by omega) hch10
        rw [pq_rest k] at hs10
        have hQ10 : Blk (w9.setCell ⟨(w.heap.size + 1 + 1 + 1), 3, none⟩ (.slice a9 n9 c9)) (w.heap.size + 1 + 1 + 1) 25 [I k, .slice a5 n5 c5, .string t7, .slice a9 n9 c9] := hQ9.set 3 (.slice a9 n9 c9)
        have hv10 : ∀ q l', (some l).bind (pq k) = some (q, l') → ∀ (F : Nat → Prop) w11, (∀ k, F k → k < w4.heap.size) → Chg F (w9.setCell ⟨(w.heap.size + 1 + 1 + 1), 3, none⟩ (.slice a9 n9 c9)) w11 → RqV w11 (.agg #[I k, .slice a5 n5 c5, .string t7, .slice a9 n9 c9]) q := fun q l' e F w11 hF hch11 => by
          rw [pq_eq] at e
          cases e1 : (some l).bind (pl pz) with
          | none => rw [e1] at e; cases e
          | some x =>
            rw [e1] at e hr7 hr9
            have e : ((pt x.2).bind fun y => ((some y.2).bind pb).bind fun z => some ((⟨k, x.1, y.1, z.1⟩ : Rq), z.2)) = some (q, l') := e
            cases e2 : pt x.2 with
            | none => rw [e2] at e; cases e
            | some y =>
              rw [e2] at e
              have e : ((pb y.2).bind fun z => some ((⟨k, x.1, y.1, z.1⟩ : Rq), z.2)) = some (q, l') := e
              cases e3 : pb y.2 with
              | none => rw [e3] at e; cases e
              | some z =>
                rw [e3] at e
                have e : some ((⟨k, x.1, y.1, z.1⟩ : Rq), z.2) = some (q, l') := e
                cases e
                have ht : t7 = y.1 := by
                  have := hr7 y.1 y.2 (show (pt x.2) = _ by rw [e2])
                  cases this; rfl
                obtain ⟨hz, hzf⟩ := hr9 z.1 z.2 (show (((pt x.2).map (·.2)).bind pb) = _ by rw [e2]; exact e3)
                obtain ⟨hx1, hx2, hxf⟩ := hv8 x.1 x.2 e1
                have hx9 := hx1.cr bb8 (by decide) hc9
                have hx10 := hx9.off (b := (w.heap.size + 1 + 1 + 1)) (o := 3) (u := .slice a9 n9 c9) (hx9.ne hQ9 (by decide))
                have hz10 := hz.off (b := (w.heap.size + 1 + 1 + 1)) (o := 3) (u := .slice a9 n9 c9) (hz.ne hQ9 (by decide))
                have hx11 := hx10.chg hch11 (fun k hk q => by have h1 := hF k q; have h2 := hxf k hk; omega)
                have hz11 := hz10.chg hch11 (fun k hk q => by have h1 := hF k q; have h2 := hzf k hk; omega)
                have l1 := H0L.out x.1 x.2 e1
                have l2 := hL7 x.1 x.2 e1
                refine ⟨⟨_, _, by rw [ht], hx11.toRow, hz11.toRow⟩, hx2, ?_, ?_, ?_⟩
                · show x.1.length ≤ _; omega
                · show y.1.size ≤ _; have := pt_len e2; omega
                · show z.1.length ≤ _; have := pb_len e3; omega
        have H10 := hide (And.intro (hB9.off (b := (w.heap.size + 1 + 1 + 1)) (o := 3) (v := .slice a9 n9 c9) (by omega)) (And.intro (hC9.off (b := (w.heap.size + 1 + 1 + 1)) (o := 3) (v := .slice a9 n9 c9) (by omega)) (And.intro hQ10 (And.intro (hg8.far ((hc9.mono (F' := fun k => w.heap.size ≤ k) (fun i hi => by omega)).trans (hch10.mono (F' := fun k => w.heap.size ≤ k) (fun i hi => by omega)))) (And.intro hs10 hv10)))))
        obtain ⟨w10, hw10⟩ : ∃ w10, w10 = w9.setCell ⟨(w.heap.size + 1 + 1 + 1), 3, none⟩ (.slice a9 n9 c9) := ⟨_, rfl⟩
        have HW10 := hide hw10
        rw [← hw10] at H10
        have s10 := H10.out.2.2.2.2.1
        obtain ⟨pB, cB, badB, lB, b10, _, _, _, h5B, _⟩ := s10.form
        have e10 := b10.cell
        have q10 := H10.out.2.2.1.cell
        have r10 := H10.out.2.1.cell
        have rf10 := H10.out.2.1.frozen
        rw [hw10] at e10 q10 r10 rf10
        have HH5 := hide h5B
        clear hc9 hs9 hr9 hj9 hB8 hC8 hQ8 hg8 hz8 hs8 hv8 hr7 hL7 bb8 hB9 hC9 hQ9 hch10 hs10 hQ10 hv10 H8 s10 b10 hw10 h5B
        have HGB : Hid (∀ q, pq k l = some (q, []) → gqB k l = if q.may then some q else none) := fun q hq => by unfold gqB; rw [hq]
        have HBAD : Hid (((some l).bind (pq k)).map (·.2) ≠ some [] → gqC 0 k l = 163) := fun cU => by
          have hgB : gqB k l = none := by
            unfold gqB
            cases e : pq k l with
            | none => rfl
            | some x =>
              obtain ⟨x1, x2⟩ := x
              cases x2 with
              | nil => exact absurd (by rw [show (some l).bind (pq k) = pq k l from rfl, e]; rfl) cU
              | cons a r => rfl
          unfold gqC
          rw [if_neg (by simp), if_neg (not_not_intro HK.out.1), if_neg HK.out.2, hgB]; rfl
        cases badB with
        | true =>
          have hcd : gqC 0 k l = 163 := HBAD.out (by
            rcases HH5.out with ⟨_, q⟩ | ⟨q, _⟩
            · rw [q]; exact fun x => by cases x
            · cases q)
          have HF := HZ w10 H10.out.1 H10.out.2.1 H10.out.2.2.2.1 163 hcd (by decide)
          rw [HW10.out] at HF
          clear hcd HZ HBAD HGB H10 HH5
          go_wp2_with fail
          exact bodyPost_ret_by (v := .tuple #[.agg #[I 0, .slice none 0 0, .string { data := #[] }, .slice none 0 0], I 163]) (ret_r _ _ (w.heap.size + 1) [I 0, .slice none 0 0, .string { data := #[] }, .slice none 0 0] 163 rfl rfl HF.out.1 rfl) rfl HF.out.2
        | false =>
          have hst : ((some l).bind (pq k)).map (·.2) = some lB := by
            rcases HH5.out with ⟨q, _⟩ | ⟨_, q⟩
            · cases q
            · exact q
          cases lB with
          | cons z zs =>
            have hcd : gqC 0 k l = 163 := HBAD.out (by rw [hst]; exact fun x => by cases x)
            have HF := HZ w10 H10.out.1 H10.out.2.1 H10.out.2.2.2.1 163 hcd (by decide)
            rw [HW10.out] at HF
            have i8 : (0 : Int) < ((z :: zs).length : Int) := by rw [List.length_cons]; omega
            generalize (z :: zs).length = m at e10 i8
            clear hcd HZ HBAD HGB H10 HH5 hst
            go_wp2_with fail
            exact bodyPost_ret_by (v := .tuple #[.agg #[I 0, .slice none 0 0, .string { data := #[] }, .slice none 0 0], I 163]) (ret_r _ _ (w.heap.size + 1) [I 0, .slice none 0 0, .string { data := #[] }, .slice none 0 0] 163 rfl rfl HF.out.1 rfl) rfl HF.out.2
          | nil =>
            obtain ⟨q, hq⟩ : ∃ q, pq k l = some (q, []) := by
              cases e : pq k l with
              | none => rw [show (some l).bind (pq k) = pq k l from rfl, e] at hst; cases hst
              | some x =>
                rw [show (some l).bind (pq k) = pq k l from rfl, e] at hst
                have : x.2 = [] := Option.some.inj hst
                exact ⟨x.1, by rw [← this]⟩
            obtain ⟨hB10, hC10, hg10, hQ10, hv10⟩ : Blk w10 w.heap.size 35 [I 0, I k, .slice p l.length cap] ∧ Blk w10 (w.heap.size + 1) 25 [I 0, .slice none 0 0, .string { data := #[] }, .slice none 0 0] ∧ G w w10 ∧ Blk w10 (w.heap.size + 1 + 1 + 1) 25 [I k, .slice a5 n5 c5, .string t7, .slice a9 n9 c9] ∧ ∀ (F : Nat → Prop) w11, (∀ k, F k → k < w4.heap.size) → Chg F w10 w11 → RqV w11 (.agg #[I k, .slice a5 n5 c5, .string t7, .slice a9 n9 c9]) q := by
              obtain ⟨q1, q2, q3, q4, _, q6⟩ := H10.out
              exact ⟨q1, q2, q4, q3, q6 q [] hq⟩
            have hqv := hv10 (fun _ => False) w10 (fun _ h => h.elim) (Chg.refl _ _)
            have hqk : q.k = k := pq_k hq
            have KM := hide (rmay_any w10 _ q hqv (by rw [hqk]; exact HK.out.1))
            have hgB := HGB.out q hq
            have hEW10 := HW10.out
            have HEW10 : Hid (w9.setCell ⟨(w.heap.size + 1 + 1 + 1), 3, none⟩ (.slice a9 n9 c9) = w10) := hEW10.symm
            clear hEW10
            cases hm : q.may with
            | false =>
              rw [hm] at KM hgB
              have hcd : gqC 0 k l = 163 := by unfold gqC; rw [if_neg (by simp), if_neg (not_not_intro HK.out.1), if_neg HK.out.2, hgB]; rfl
              have HZZ := hide (fun (w8 : World) (g : G w10 w8) => (HZ w8 (hB10.G g) (hC10.G g) (hg10.trans g) 163 hcd (by decide)).out)
              have HBC := hide (And.intro hC10 hQ10)
              clear hB10 hC10 hg10 hQ10 hv10 hqv hqk hgB hm hcd HZ H10 HBAD HGB hst HH5
              go_wp2_with fail
              rw [HEW10.out]
              refine KM.out.mono ?_
              rintro e w12 ⟨rfl, g12⟩
              have HF := hide (HZZ.out w12 g12)
              have hC12 := HBC.out.1.G g12
              have r8 := hC12.cell
              have r9 := hC12.frozen
              clear g12 KM HZZ hC12 k9 f9 e10 q10 r10 rf10
              go_wp2_with fail
              exact bodyPost_ret_by (v := .tuple #[.agg #[I 0, .slice none 0 0, .string { data := #[] }, .slice none 0 0], I 163]) (ret_r _ _ (w.heap.size + 1) [I 0, .slice none 0 0, .string { data := #[] }, .slice none 0 0] 163 rfl rfl HF.out.1 rfl) rfl HF.out.2
            | true =>
              rw [hm] at KM hgB
              have hcd : gqC 0 k l = 0 := by unfold gqC; rw [if_neg (by simp), if_neg (not_not_intro HK.out.1), if_neg HK.out.2, hgB]; rfl
              have hqq : gqQ 0 k l = q := by unfold gqQ; rw [hcd, if_pos rfl, hgB]; rfl
              have HZZ : Hid (∀ w8, G w10 w8 → Blk (WS w8 (w.heap.size + 1) (I k) (.slice a5 n5 c5) (.string t7) (.slice a9 n9 c9)) (w.heap.size + 1) 25 [I k, .slice a5 n5 c5, .string t7, .slice a9 n9 c9] ∧ GqP 0 k l w (.returned (.tuple #[.agg #[I k, .slice a5 n5 c5, .string t7, .slice a9 n9 c9], I 0])) (WS w8 (w.heap.size + 1) (I k) (.slice a5 n5 c5) (.string t7) (.slice a9 n9 c9))) := fun w8 g => by
                obtain ⟨_, q2, q3, q4⟩ := ws_set (I k) (.slice a5 n5 c5) (.string t7) (.slice a9 n9 c9) (hB10.G g) (hC10.G g) (hg10.trans g) (Nat.le_succ _)
                refine ⟨q2, _, by rw [hcd], fun F w9 hF hch => ?_, q3⟩
                rw [hqq]
                exact hv10 (fun k => k = w.heap.size + 1 ∨ F k) _ (fun k hk => by
                  have h4 := HL4.out
                  rcases hk with hk | hk
                  · omega
                  · have := hF k hk; omega) (((g.chg).trans (q4.mono (fun _ h => .inl h))).trans (hch.mono (fun _ h => .inr h)))
              have HBC := hide (And.intro hC10 hQ10)
              clear hB10 hC10 hg10 hQ10 hv10 hqv hqk hgB hm hcd hqq HZ H10 HBAD HGB hst HH5
              go_wp2_with fail
              rw [HEW10.out]
              refine KM.out.mono ?_
              rintro e w12 ⟨rfl, g12⟩
              have HF := hide (HZZ.out w12 g12)
              have hC12 := HBC.out.1.G g12
              have r8 := hC12.cell
              have r9 := hC12.frozen
              have hQ12 := HBC.out.2.G g12
              have t8 := hQ12.cell
              clear g12 KM HZZ hC12 hQ12 k9 f9 e10 q10 r10 rf10
              go_wp2_with fail
              exact bodyPost_ret_by (v := .tuple #[.agg #[I k, .slice a5 n5 c5, .string t7, .slice a9 n9 c9], I 0]) (ret_r _ _ (w.heap.size + 1) [I k, .slice a5 n5 c5, .string t7, .slice a9 n9 c9] 0 rfl rfl HF.out.1 rfl) rfl HF.out.2
    · have HF := hide (And.intro HB.out.2 (GqP.bad 0 k l w w2 162 (by unfold gqC; rw [if_neg (by simp), if_pos cK]) (by decide) HA.out))
      clear hr hb hn hA2 hB2 hC2 hw2 c0 EW HZ
      by_cases i6 : k < 1
      · clear cK
        go_enter Tryd.func13, Tryd.ntmps13
        go_wp2_with fail
        rw [HEW.out]
        clear hbx
        go_wp2_with fail
        exact bodyPost_ret_by (v := .tuple #[.agg #[I 0, .slice none 0 0, .string { data := #[] }, .slice none 0 0], I 162]) (ret_r _ _ (w.heap.size + 1) [I 0, .slice none 0 0, .string { data := #[] }, .slice none 0 0] 162 rfl rfl HF.out.1 rfl) rfl HF.out.2
      · have i7 : (12 : Int) < k := by omega
        clear cK
        go_enter Tryd.func13, Tryd.ntmps13
        go_wp2_with fail
        rw [HEW.out]
        clear hbx
        go_wp2_with fail
        exact bodyPost_ret_by (v := .tuple #[.agg #[I 0, .slice none 0 0, .string { data := #[] }, .slice none 0 0], I 162]) (ret_r _ _ (w.heap.size + 1) [I 0, .slice none 0 0, .string { data := #[] }, .slice none 0 0] 162 rfl rfl HF.out.1 rfl) rfl HF.out.2
end Go.Proofs.YtnjeingpjoadjaaDoor
