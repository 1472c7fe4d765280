/- Wire: the document's GetReply. -/
import Derived.Test.YtcdjjmjhdoanlaaDoorW51
import Derived.Test.YtcdjjmjhdoanlaaDoorW53
import Derived.Test.YtcdjjmjhdoanlaaDoorW47
import Derived.Test.YtcdjjmjhdoanlaaDoorW35
namespace Go.Proofs.YtcdjjmjhdoanlaaDoor
open Go.RowKit

theorem ret_p3 (tmps : Array Value) (W : World) (rb : Nat) (cs : List Value) (c : Int) (hp : tmps.getD 2 undef = .pointer (some ⟨rb, 0, none⟩)) (hc : tmps.getD 3 undef = I c) (hr : Blk W rb 35 cs) (hl : cs.length = 7) :
    (results Tryd.f6 tmps).run Tryd.prog W = .ok (.tuple #[.agg cs.toArray, I c]) W := by
  rw [results_cell_tmp Tryd.results6, hp, hc]
  have h := run_loadVar_mid (P := Tryd.prog) W rb 0 35 cs _ (by have := hr.range 0 7; rw [List.drop_zero, List.take_of_length_le (by omega)] at this; exact this) Tryd.underlying35 rfl (by rw [hl]; kernel_rfl)
  simp only [asAddr, Sem.run_pure, Result.andThen_ok, h]
/-- A reply's last part. -/
def KB (k a : Int) (b : List Int) (c : List ByteArray) (d : List Tb) (r : List Nat) : Option (Rp × List Nat) := (pgr r).bind fun z => some (⟨k, a, b, c, d, z.1.1, z.1.2⟩, z.2)
theorem prp_eq (k : Int) (l : List Nat) : prp k l = (pz l).bind fun a => (pl pz a.2).bind fun b => (pl pt b.2).bind fun c => (pl ptb c.2).bind fun d => KB k a.1 b.1 c.1 d.1 d.2 := by
  unfold prp KB pgr
  simp [Option.bind_assoc]
/-- Behind the tables. -/
def TFin (k cd : Int) (wo : World) (va vb vc : Value) (S : Option (Rp × List Nat)) (s' : Option (List Nat)) : Prop := (s' = none ∧ S = none) ∨ ∃ (r : List Nat) (xs : List Tb) (K : List Tb → List Nat → Option (Rp × List Nat)), s' = some r ∧ NRow dT 56 wo vc xs ∧ (∃ nums texts, Sw eI 2 wo va nums ∧ Sw eS 9 wo vb texts ∧ K = KB k cd nums texts) ∧ S = K xs r
/-- Behind the graph. -/
theorem kb_fin {k cd : Int} {w10 : World} {S : Option (Rp × List Nat)} {s' : Option (List Nat)} {wo : World} {va vb vc vd ve : Value} (hfin : TFin k cd wo va vb vc S s')
    (kx : Kx [49, 35] wo w10) (hg : ∀ x l', s'.bind pgr = some (x, l') → NRow dN 74 w10 vd x.1 ∧ NRow dE 79 w10 ve x.2) : (s'.bind pgr).map (·.2) = S.map (·.2) ∧ ∀ q l', S = some (q, l') → dQ.r w10 [I k, I cd, va, vb, vc, vd, ve] q := by
  rcases hfin with ⟨rfl, rfl⟩ | ⟨r, xs, K, rfl, h1, ⟨ns, tx, h2, h3, rfl⟩, rfl⟩
  · exact ⟨rfl, fun q l' e => by cases e⟩
  · have hg : ∀ x l', pgr r = some (x, l') → _ := hg
    show ((pgr r).map (·.2)) = _ ∧ _
    unfold KB
    cases e : pgr r with
    | none => exact ⟨rfl, fun q l' e => by cases e⟩
    | some z =>
      obtain ⟨g1, g2⟩ := hg z.1 z.2 e
      refine ⟨rfl, fun q l' e => ?_⟩
      cases e
      exact ⟨_, _, _, _, _, rfl, h2.kx kx (by decide), h3.kx kx (by decide), h1.kx kx (by decide) (by decide), g1, g2⟩
set_option maxRecDepth 100000 in
set_option maxHeartbeats 4000000 in
theorem getr3_any (c k : Int) (l : List Nat) (v : Value) (w : World) (hr : Rb w v l) (hb : By l) (hT : Tabs w) (hk : R64 k) :
    Calls Tryd.prog 6 #[.agg #[I c, I k, v]] w (GrP c k l w) := by
  obtain ⟨p, cap, rfl⟩ := hr.form
  obtain ⟨w2, hw2⟩ : ∃ w2, w2 = (w.alloc (.cells #[I c, I k, .slice p l.length cap] 25)).alloc (.cells #[I 0, I 0, .slice none 0 0, .slice none 0 0, .slice none 0 0, .slice none 0 0, .slice none 0 0] 35) := ⟨_, rfl⟩
  have hA2 : G w w2 := by rw [hw2]; exact ((G.refl w).alloc _).alloc _
  have hB2 : Blk w2 w.heap.size 25 [I c, I k, .slice p l.length cap] := by rw [hw2]; exact (Blk.new w [I c, I k, .slice p l.length cap] 25).G ((G.refl _).alloc _)
  have hC2 : Blk w2 (w.heap.size + 1) 35 [I 0, I 0, .slice none 0 0, .slice none 0 0, .slice none 0 0, .slice none 0 0, .slice none 0 0] := by
    have := Blk.new (w.alloc (.cells #[I c, I k, .slice p l.length cap] 25)) [I 0, I 0, .slice none 0 0, .slice none 0 0, .slice none 0 0, .slice none 0 0, .slice none 0 0] 35
    rw [hw2]
    simpa using this
  have HA := hide hA2
  have HB := hide (And.intro hB2 hC2)
  have b2 := hB2.cell
  have b3 := hC2.cell
  have b4 := hC2.frozen
  have HEW : Hid ((w.alloc (.cells #[I c, I k, .slice p l.length cap] 25)).alloc (.cells #[I 0, I 0, .slice none 0 0, .slice none 0 0, .slice none 0 0, .slice none 0 0, .slice none 0 0] 35) = w2) := hw2.symm
  have hbx := b2
  rw [hw2] at hbx
  by_cases c0 : c ≠ 0
  · have d0 : (c != 0) = true := bne_iff_ne.2 c0
    have HC : Hid (grC c k l = c) := by show _ = _; unfold grC; rw [if_pos c0]
    have HN0 := hide c0
    clear hr hb hT hk hA2 hB2 hC2 hw2 c0
    go_enter Tryd.func6, Tryd.ntmps6
    go_wp2_with fail
    rw [HEW.out]
    clear hbx
    refine wp_region_noPanic ?_
    refine wp_region_held_drew (S := (fun V => ∀ o, V.cell? ⟨w.heap.size, o, none⟩ = ([I c, I k, .slice p l.length cap] : List Value)[o]?)) (by kernel_rfl) (HB.out.1.drew.cell) (fun hHeld => ?_)
    refine wpAnyH_take (i := 0) (v := ?_) rfl (by kernel_rfl) (by kernel_rfl) (by kernel_rfl) (fun _ _ _ h => h) (Or.inl ⟨by rfl, ?_⟩) hHeld ?_
    rotate_left 1
    · (intro w hSw; (try dsimp only at hSw); go_simp; try with_reducible rfl)
    try simp only [Act.put, List.getElem_toArray, List.getElem_cons_zero, List.setIfInBounds_toArray, List.set_cons_zero, List.set_cons_succ]
    refine wpAnyH_take (i := 1) (v := ?_) rfl (by kernel_rfl) (by kernel_rfl) (by kernel_rfl) (fun _ _ _ h => h) (Or.inl ⟨by rfl, ?_⟩) hHeld ?_
    rotate_left 1
    · (intro w hSw; (try dsimp only at hSw); go_simp; try with_reducible rfl)
    try simp only [Act.put, List.getElem_toArray, List.getElem_cons_zero, List.getElem_cons_succ, List.setIfInBounds_toArray, List.set_cons_zero, List.set_cons_succ]
    refine wpAnyH_take (i := 2) (v := ?_) rfl (by kernel_rfl) (by kernel_rfl) (by kernel_rfl) (fun _ _ _ h => h) (Or.inl ⟨by rfl, ?_⟩) hHeld ?_
    rotate_left 1
    · (intro w hSw; have q1 := hSw; go_simp; try with_reducible rfl)
    try simp only [Act.put, List.getElem_toArray, List.getElem_cons_zero, List.getElem_cons_succ, List.setIfInBounds_toArray, List.set_cons_zero, List.set_cons_succ]
    refine wpAnyH_ready (rs := [3]) (by kernel_rfl) (by simp) (AllReadyH.cons rfl (fun K hK => ?_) AllReadyH.nil)
    clear hHeld
    have hcR : ∀ o, w2.drew.cell? ⟨w.heap.size + 1, o, none⟩ = _ := HB.out.2.drew.cell
    have hzR := HB.out.2.drew.frozen
    go_simp
    have HQ : Hid (Blk (WR w2 (w.heap.size + 1) (I 0) (I 0) (.slice none 0 0) (.slice none 0 0) (.slice none 0 0) (.slice none 0 0) (.slice none 0 0)).drew w.heap.size 25 [I c, I k, .slice p l.length cap] ∧ Blk (WR w2 (w.heap.size + 1) (I 0) (I 0) (.slice none 0 0) (.slice none 0 0) (.slice none 0 0) (.slice none 0 0) (.slice none 0 0)).drew (w.heap.size + 1) 35 [I 0, I 0, .slice none 0 0, .slice none 0 0, .slice none 0 0, .slice none 0 0, .slice none 0 0] ∧ G w (WR w2 (w.heap.size + 1) (I 0) (I 0) (.slice none 0 0) (.slice none 0 0) (.slice none 0 0) (.slice none 0 0) (.slice none 0 0)).drew) := by
      obtain ⟨q1, q2, q3, _⟩ := wr_set (I 0) (I 0) (.slice none 0 0) (.slice none 0 0) (.slice none 0 0) (.slice none 0 0) (.slice none 0 0) HB.out.1 (by decide) HB.out.2 HA.out (Nat.le_succ _)
      exact ⟨q1.drew, q2.drew, q3.drew⟩
    clear hcR hzR
    generalize (WR w2 (w.heap.size + 1) (I 0) (I 0) (.slice none 0 0) (.slice none 0 0) (.slice none 0 0) (.slice none 0 0) (.slice none 0 0)).drew = x9 at HQ ⊢
    refine hK.out _ _ (HQ.out.1.cell) (fun hHeld => ?_)
    clear hK K
    try simp only [Act.put, List.getElem_toArray, List.getElem_cons_zero, List.getElem_cons_succ, List.setIfInBounds_toArray, List.set_cons_zero, List.set_cons_succ]
    refine wpAnyH_take (i := 4) (v := ?_) rfl (by kernel_rfl) (by kernel_rfl) (by kernel_rfl) (fun _ _ _ h => h) (Or.inl ⟨by rfl, ?_⟩) hHeld ?_
    rotate_left 1
    · (intro w hSw; (try dsimp only at hSw); go_simp; try with_reducible rfl)
    try simp only [Act.put, List.getElem_toArray, List.getElem_cons_zero, List.getElem_cons_succ, List.setIfInBounds_toArray, List.set_cons_zero, List.set_cons_succ]
    refine wpAnyH_done (by kernel_rfl) ?_ _
    refine NoPanic.normal ?_
    go_wp2_with fail
    exact bodyPost_ret_by (v := .tuple #[.agg #[I 0, I 0, .slice none 0 0, .slice none 0 0, .slice none 0 0, .slice none 0 0, .slice none 0 0], I c]) (ret_p3 _ _ (w.heap.size + 1) [I 0, I 0, .slice none 0 0, .slice none 0 0, .slice none 0 0, .slice none 0 0, .slice none 0 0] c rfl rfl HQ.out.2.1 rfl) rfl (GrP.bad c k l w x9 c HC.out HN0.out HQ.out.2.2)
  · have hc0 : c = 0 := Classical.not_not.1 c0
    subst hc0
    have HZ : ∀ (x : World), Blk x w.heap.size 25 [I 0, I k, .slice p l.length cap] → Blk x (w.heap.size + 1) 35 [I 0, I 0, .slice none 0 0, .slice none 0 0, .slice none 0 0, .slice none 0 0, .slice none 0 0] → G w x → ∀ y : Int, grC 0 k l = y → y ≠ 0 → Hid (Blk (WR x (w.heap.size + 1) (I 0) (I 0) (.slice none 0 0) (.slice none 0 0) (.slice none 0 0) (.slice none 0 0) (.slice none 0 0)) (w.heap.size + 1) 35 [I 0, I 0, .slice none 0 0, .slice none 0 0, .slice none 0 0, .slice none 0 0, .slice none 0 0] ∧ GrP 0 k l w (.returned (.tuple #[.agg #[I 0, I 0, .slice none 0 0, .slice none 0 0, .slice none 0 0, .slice none 0 0, .slice none 0 0], I y])) (WR x (w.heap.size + 1) (I 0) (I 0) (.slice none 0 0) (.slice none 0 0) (.slice none 0 0) (.slice none 0 0) (.slice none 0 0))) := fun x h1 h2 h3 y h4 h5 => by
      obtain ⟨_, q2, q3, _⟩ := wr_set (I 0) (I 0) (.slice none 0 0) (.slice none 0 0) (.slice none 0 0) (.slice none 0 0) (.slice none 0 0) h1 (by decide) h2 h3 (Nat.le_succ _)
      exact ⟨q2, GrP.bad 0 k l w _ y h4 h5 q3⟩
    by_cases cK : 128 ≤ k ∧ k ≤ 140
    · have i6 : ¬ k < 128 := by omega
      have i7 : ¬ (140 : Int) < k := by omega
      have wk : wrap64 (k - 128) = k - 128 := by have h1 := hk.1; have h2 := hk.2; unfold wrap64; omega
      by_cases cl : 2097152 < l.length
      · have i1 : (2097152 : Int) < (l.length : Int) := by omega
        have HF := hide (And.intro HB.out.2 (GrP.bad 0 k l w w2 163 (by unfold grC; rw [if_neg (by simp), if_neg (not_not_intro cK), if_pos cl]) (by decide) HA.out))
        clear hr hb hT hk hA2 hB2 hC2 hw2 c0 HZ cK cl
        go_enter Tryd.func6, Tryd.ntmps6
        go_wp2_with fail
        rw [HEW.out]
        clear hbx
        go_wp2_with fail
        exact bodyPost_ret_by (v := .tuple #[.agg #[I 0, I 0, .slice none 0 0, .slice none 0 0, .slice none 0 0, .slice none 0 0, .slice none 0 0], I 163]) (ret_p3 _ _ (w.heap.size + 1) [I 0, I 0, .slice none 0 0, .slice none 0 0, .slice none 0 0, .slice none 0 0, .slice none 0 0] 163 rfl rfl HF.out.1 rfl) rfl HF.out.2
      · have i1 : ¬ (2097152 : Int) < (l.length : Int) := by omega
        have hsz : w2.heap.size = w.heap.size + 1 + 1 := by rw [hw2]; simp
        obtain ⟨wb, hwb⟩ : ∃ wb, wb = w2.alloc (.cells #[.slice p l.length cap, .bool false] 49) := ⟨_, rfl⟩
        obtain ⟨u0, hu0⟩ : ∃ u0, u0 = wb.alloc (.cells #[I (k - 128), I 0, .slice none 0 0, .slice none 0 0, .slice none 0 0, .slice none 0 0, .slice none 0 0] 35) := ⟨_, rfl⟩
        obtain ⟨N, hN⟩ : ∃ N, N = w2.heap.size := ⟨_, rfl⟩
        obtain ⟨b, hbb⟩ : ∃ b, b = w.heap.size + 1 + 1 := ⟨_, rfl⟩
        obtain ⟨rb, hrb⟩ : ∃ rb, rb = w.heap.size + 1 + 1 + 1 := ⟨_, rfl⟩
        have hAb : G w2 wb := by rw [hwb]; exact (G.refl w2).alloc _
        have hAu : G wb u0 := by rw [hu0]; exact (G.refl wb).alloc _
        have hSb : Blk wb b 49 [.slice p l.length cap, .bool false] := by rw [hwb, hbb, ← hsz]; exact Blk.new w2 [.slice p l.length cap, .bool false] 49
        have hwbs : wb.heap.size = rb := by rw [hwb, hrb, ← hsz]; simp
        have hQ4 : Blk u0 rb 35 [I (k - 128), I 0, .slice none 0 0, .slice none 0 0, .slice none 0 0, .slice none 0 0, .slice none 0 0] := by rw [hu0, ← hwbs]; exact Blk.new wb [I (k - 128), I 0, .slice none 0 0, .slice none 0 0, .slice none 0 0, .slice none 0 0, .slice none 0 0] 35
        have hs4 : Rc N wb b (some l) :=
          ⟨_, false, l, hSb, (hr.G hA2).G hAb, hb, by omega, .inr ⟨rfl, rfl⟩, fun g o n c2 e q => by
            cases e
            obtain ⟨cs, q1, q2⟩ := (hr.G hA2).at (List.getElem?_eq_getElem (List.length_pos_iff.2 q))
            have q1 : cs = [bv _] := q1
            rw [q1] at q2
            rw [hN]
            exact cell_lt (q2 0 _ rfl)⟩
        have HP : Hid (Pt9 N b wb (some l) (prp (k - 128)) rb 35 [I (k - 128), I 0, .slice none 0 0, .slice none 0 0, .slice none 0 0, .slice none 0 0, .slice none 0 0] (fun _ r0 => some l = some r0) u0) := Pt9.start (prp (k - 128)) hs4 hAu hQ4
        have HNE : Hid (rb ≠ b ∧ wb.heap.size ≤ rb ∧ N ≤ rb) := ⟨by omega, by omega, by omega⟩
        have HNW : Hid (N ≤ wb.heap.size) := by show _ ≤ _; omega
        have HT : Hid (TB b wb) := ⟨w, hT, HA.out.trans hAb, by omega⟩
        have HBW : Hid (w.heap.size + 1 < b ∧ w.heap.size + 1 < rb) := ⟨by omega, by omega⟩
        have HWB := hide (And.intro (HA.out.trans hAb) (And.intro (HB.out.1.G hAb) (HB.out.2.G hAb)))
        have HK := hide (And.intro cK cl)
        have HU0 : Hid ((w2.alloc (.cells #[.slice p l.length cap, .bool false] 49)).alloc (.cells #[I (k - 128), I 0, .slice none 0 0, .slice none 0 0, .slice none 0 0, .slice none 0 0, .slice none 0 0] 35) = u0) := by show _ = _; rw [hu0, hwb]
        have HRB : Hid (w.heap.size + 1 + 1 + 1 = rb) := hrb.symm
        have HBB : Hid (w.heap.size + 1 + 1 = b) := hbb.symm
        have hz4 := Blk.new w2 [.slice none 0 0, .bool false] 49
        have z4 := hz4.cell
        have z5 := hz4.frozen
        have hz6 := Blk.new (w2.alloc (.cells #[.slice p l.length cap, .bool false] 49)) [I 0, I 0, .slice none 0 0, .slice none 0 0, .slice none 0 0, .slice none 0 0, .slice none 0 0] 35
        have z6 := hz6.cell
        have z7 := hz6.frozen
        simp at z6 z7
        clear hr hb hT hk hA2 hB2 hC2 hw2 c0 cK cl hs4 hAb hAu hSb hwbs hQ4 hsz hwb hu0 hN hbb hrb hz4 hz6
        go_enter Tryd.func6, Tryd.ntmps6
        go_wp2_with fail
        try rw [wk]
        rw [HEW.out, HU0.out]
        try rw [HRB.out]
        try rw [HBB.out]
        clear hbx z4 z5 z6 z7 b2 b3 b4
        obtain ⟨s13, hs13, hc13, hb13, hr13⟩ := HP.out
        refine (nF3_any N _ b s13 hs13).mono ?_
        rintro e w13 ⟨v13, rfl, ⟨cd, rfl⟩, hd13, hz13, hR13⟩
        have hB13 := hb13.chg hd13 HNE.out.1
        have k13 := hB13.cell
        have f13 := hB13.frozen
        replace HP := hide (Pt9.step (p := (prp (k - 128))) (q := pz) (Φ := (fun _ r0 => some l = some r0)) (R := fun _ x => cd = x ∧ R64 x) hs13 hc13 hr13 HNE.out.2.2 HNE.out.2.1 HNE.out.1 hd13 hz13 (fun x l' e => by have := hR13 x l' e; simp at this; exact this) (chg_setCell (F := fun k => k = rb) (b := rb) (o := 1) _ (I cd) (.inl rfl)) hB13 (hB13.set 1 (I cd)) (fun _ _ _ _ h => h) (fun _ _ _ _ h => h) (fun u r h e => by
          have h0 := h
          cases h0; show prp (k - 128) _ = none; simp [prp, e]))
        clear hs13 hc13 hb13 hr13 hd13 hz13 hR13 hB13
        go_wp2_with fail
        generalize (w13.setCell ⟨rb, 1, none⟩ (I cd)) = u13 at HP ⊢
        clear k13 f13
        obtain ⟨s14, hs14, hc14, hb14, hr14⟩ := HP.out
        refine (nsF3_any N _ b s14 hs14 (Nat.le_trans HNW.out hc14.size)).mono ?_
        rintro e w14 ⟨v14, rfl, ⟨na, nn, nc, rfl⟩, hd14, hz14, hR14⟩
        have hB14 := hb14.chg hd14 HNE.out.1
        have k14 := hB14.cell
        have f14 := hB14.frozen
        replace HP := hide (Pt9.step (p := (prp (k - 128))) (q := (pl pz)) (Φ := (fun u r' => ∃ r x, (fun _ r0 => some l = some r0) u r ∧ pz r = some (x, r') ∧ (fun _ x => cd = x ∧ R64 x) u x)) (R := fun u l => Sw eI 2 u (.slice na nn nc) l) hs14 hc14 hr14 HNE.out.2.2 HNE.out.2.1 HNE.out.1 hd14 hz14 (fun x l' e => by exact hR14 x l' e) (chg_setCell (F := fun k => k = rb) (b := rb) (o := 2) _ (.slice na nn nc) (.inl rfl)) hB14 (hB14.set 2 (.slice na nn nc)) (fun u u' r' k ⟨r, x, h1, h2, h3⟩ => ⟨r, x, (fun _ _ _ _ h => h) u u' r k h1, h2, (fun _ _ _ _ h => h) u u' x k h3⟩) (fun _ _ _ k h => h.kx k (by decide)) (fun u r h e => by
          obtain ⟨r1, x1, h0, e1, g1⟩ := h
          cases h0; show prp (k - 128) _ = none; simp [prp, e1, e]))
        clear hs14 hc14 hb14 hr14 hd14 hz14 hR14 hB14
        go_wp2_with fail
        generalize (w14.setCell ⟨rb, 2, none⟩ (.slice na nn nc)) = u14 at HP ⊢
        clear k14 f14
        obtain ⟨s15, hs15, hc15, hb15, hr15⟩ := HP.out
        refine (tsF3_any N _ b s15 hs15 (Nat.le_trans HNW.out hc15.size)).mono ?_
        rintro e w15 ⟨v15, rfl, ⟨ta, tn, tc, rfl⟩, hd15, hz15, hR15⟩
        have hB15 := hb15.chg hd15 HNE.out.1
        have k15 := hB15.cell
        have f15 := hB15.frozen
        replace HP := hide (Pt9.step (p := (prp (k - 128))) (q := (pl pt)) (Φ := (fun u r' => ∃ r x, (fun u r' => ∃ r x, (fun _ r0 => some l = some r0) u r ∧ pz r = some (x, r') ∧ (fun _ x => cd = x ∧ R64 x) u x) u r ∧ (pl pz) r = some (x, r') ∧ (fun u l => Sw eI 2 u (.slice na nn nc) l) u x)) (R := fun u l => Sw eS 9 u (.slice ta tn tc) l) hs15 hc15 hr15 HNE.out.2.2 HNE.out.2.1 HNE.out.1 hd15 hz15 (fun x l' e => by exact hR15 x l' e) (chg_setCell (F := fun k => k = rb) (b := rb) (o := 3) _ (.slice ta tn tc) (.inl rfl)) hB15 (hB15.set 3 (.slice ta tn tc)) (fun u u' r' k ⟨r, x, h1, h2, h3⟩ => ⟨r, x, (fun u u' r' k ⟨r, x, h1, h2, h3⟩ => ⟨r, x, (fun _ _ _ _ h => h) u u' r k h1, h2, (fun _ _ _ _ h => h) u u' x k h3⟩) u u' r k h1, h2, (fun _ _ _ k h => h.kx k (by decide)) u u' x k h3⟩) (fun _ _ _ k h => h.kx k (by decide)) (fun u r h e => by
          obtain ⟨r2, x2, ⟨r1, x1, h0, e1, g1⟩, e2, g2⟩ := h
          cases h0; show prp (k - 128) _ = none; simp [prp, e1, e2, e]))
        clear hs15 hc15 hb15 hr15 hd15 hz15 hR15 hB15
        go_wp2_with fail
        generalize (w15.setCell ⟨rb, 3, none⟩ (.slice ta tn tc)) = u15 at HP ⊢
        clear k15 f15
        obtain ⟨s2, hs2, hc2, hb2, hr2⟩ := HP.out
        have K9 := hide (list3_any N u15 b s2 hs2)
        have H9 := hide (And.intro hs2 (And.intro hc2 (And.intro hb2 hr2)))
        clear HP hs2 hc2 hb2 hr2
        refine K9.out.mono ?_
        intro e w4 hcase
        obtain ⟨hs2, hc2, hb2, hr2⟩ := H9.out
        have kx2 : Kx [49] u15 w4 := by obtain ⟨_, _, q, _⟩ := hcase; obtain ⟨_, q2⟩ := hs2.blk; exact Kx.one q q2 (by simp)
        obtain ⟨n, s3, rfl, hc4, hd4, hs3, hlr⟩ := LR.start (D := dT) (q := ptb) (S := prp (k - 128) l) (Ψ := (fun u K => ∃ nums texts, Sw eI 2 u (.slice na nn nc) nums ∧ Sw eS 9 u (.slice ta tn tc) texts ∧ K = KB (k - 128) cd nums texts)) (w := wb) hcase (by
          rcases hr2 with h | ⟨r, e, r3, x3, ⟨r2, x2, ⟨r1, x1, h0, e1, g1⟩, e2, g2⟩, e3, g3⟩
          · exact .inl ⟨h.1, h.2⟩
          · have h0 : some l = some r1 := h0
            cases h0
            have g1 : cd = x1 ∧ R64 x1 := g1
            exact .inr ⟨r, _, e, ⟨x2, x3, g2, g3, rfl⟩, by rw [prp_eq, e1]; simp only [Option.bind_some]; rw [e2]; simp only [Option.bind_some]; rw [e3, g1.1]; rfl⟩) (fun K ⟨ns, tx, h1, h2, h3⟩ => ⟨ns, tx, h1.kx kx2 (by decide), h2.kx kx2 (by decide), h3⟩) hc2
        have HS := hide (And.intro hs3 (And.intro hc4 (And.intro (hb2.chg hd4 HNE.out.1) hlr)))
        clear hcase hs2 hc2 hb2 hr2 hc4 hd4 hs3 hlr K9 H9 kx2
        go_wp2_with fail
        go_loopw [7] (fun iv wr => ∃ (i : Nat) (s' : Option (List Nat)) (ra : Option Addr) (rn rc : Nat) (rs : List (Raw dT.s)), iv = I i ∧ i ≤ n ∧ Blk wr rb 35 [I (k - 128), I cd, .slice na nn nc, .slice ta tn tc, .slice ra rn rc, .slice none 0 0, .slice none 0 0] ∧ Sw (eR dT.s) 56 wr (.slice ra rn rc) rs ∧ Fresh wb (.slice ra rn rc) ∧ Cb b wb wr ∧ Rc N wr b s' ∧ rs.length = i ∧ LR dT ptb n (prp (k - 128) l) (fun u K => ∃ nums texts, Sw eI 2 u (.slice na nn nc) nums ∧ Sw eS 9 u (.slice ta tn tc) texts ∧ K = KB (k - 128) cd nums texts) wr i s' rs) (fun iv _ => n - (RowKit.intOf iv).toNat)
        case atStart =>
          obtain ⟨q1, q2, q3, q4⟩ := HS.out
          exact ⟨0, s3, none, 0, 0, [], rfl, Nat.zero_le _, q3, Sw.nil _ _ _, Fresh.nil _, q2, q1, rfl, q4⟩
        case round =>
          obtain ⟨i, s', ra, rn, rc, rs, rfl, hin, hB, ho, hof, hch, hs, hxl, hrel'⟩ := hrel
          obtain ⟨wo, hwo⟩ : ∃ wo, wo = wr := ⟨_, rfl⟩
          subst hwo
          clear HS
          obtain ⟨p3, n3, c3, b3⟩ := hs.bad
          have k3 := b3.cell
          have HPE : Hid (s' = none ∨ i = n → Rc N wo b s' ∧ Cb b wb wo ∧ Blk wo rb 35 [I (k - 128), I cd, .slice na nn nc, .slice ta tn tc, .slice ra rn rc, .slice none 0 0, .slice none 0 0] ∧ TFin (k - 128) cd wo (.slice na nn nc) (.slice ta tn tc) (.slice ra rn rc) (prp (k - 128) l) s') := fun hq => ⟨hs, hch, hB, LR.fin hrel' hq hxl ho⟩
          by_cases hlt : i < n
          · have i2 : (i : Int) < (n : Int) := by omega
            cases s' with
            | none =>
              have HP := hide (HPE.out (.inl rfl))
              simp only [Option.isNone_none] at k3
              clear hin ho hof hch hs hxl hrel' b3 hlt HPE hB
              obtain ⟨hs8, hc8, hb8, hr8⟩ := HP.out
              have K9 := hide (graph3_any N wo b _ hs8 (Nat.le_trans HNW.out hc8.size) (HT.out.cb hc8))
              have H9 := hide (And.intro hs8 (And.intro hc8 (And.intro hb8 hr8)))
              clear HP hs8 hc8 hb8 hr8
              go_wp2_with fail
              clear k3 i2
              refine K9.out.mono ?_
              rintro e w9 ⟨v9, rfl, ⟨da, dn, dc, ea, en, ec, rfl⟩, hd9, hz9, hR9⟩
              obtain ⟨hs8, hc8, hb8, hr8⟩ := H9.out
              have hb9 := hb8.chg hd9 HNE.out.1
              have k9 := hb9.cell
              have f9 := hb9.frozen
              have hc9 := hc8.trans hd9
              have h10 : Chg (fun k => k = rb) w9 ((w9.setCell ⟨rb, 5, none⟩ (.slice da dn dc)).setCell ⟨rb, 6, none⟩ (.slice ea en ec)) := ((chg_setCell (F := fun k => k = rb) (b := rb) (o := 5) _ (.slice da dn dc) (.inl rfl)).trans (chg_setCell (F := fun k => k = rb) (b := rb) (o := 6) _ (.slice ea en ec) (.inl rfl)))
              have hQ10 : Blk ((w9.setCell ⟨rb, 5, none⟩ (.slice da dn dc)).setCell ⟨rb, 6, none⟩ (.slice ea en ec)) rb 35 [I (k - 128), I cd, .slice na nn nc, .slice ta tn tc, .slice ra rn rc, .slice da dn dc, .slice ea en ec] := (hb9.set 5 (.slice da dn dc)).set 6 (.slice ea en ec)
              have hs10 := hz9.far (F := fun k => k = rb) (fun k hk => by subst hk; exact ⟨HNE.out.2.2, HNE.out.1⟩) h10
              have kxa : Kx [49, 35] wo w9 := by obtain ⟨_, q⟩ := hs8.blk; exact Kx.one hd9 q (by simp)
              have kxb : Kx [49, 35] w9 ((w9.setCell ⟨rb, 5, none⟩ (.slice da dn dc)).setCell ⟨rb, 6, none⟩ (.slice ea en ec)) := Kx.one h10 hb9 (by simp)
              obtain ⟨hst, hv10⟩ := kb_fin (vd := .slice da dn dc) (ve := .slice ea en ec) hr8 (kxa.trans kxb) (fun x l' e => by
                obtain ⟨q1, q2⟩ := hR9 x l' e _ _ _ _ _ _ rfl
                exact ⟨q1.kx kxb (by decide) (by decide), q2.kx kxb (by decide) (by decide)⟩)
              rw [hst] at hs10
              have hcw : Chg (fun k => w.heap.size + 1 < k) wb ((w9.setCell ⟨rb, 5, none⟩ (.slice da dn dc)).setCell ⟨rb, 6, none⟩ (.slice ea en ec)) := (hc9.mono (fun k hk => by rw [hk]; exact HBW.out.1)).trans (h10.mono (fun k hk => by rw [hk]; exact HBW.out.2))
              obtain ⟨hgb, hBb, hCb⟩ := HWB.out
              have hB10 := hBb.chg hcw (by omega : ¬ w.heap.size + 1 < w.heap.size)
              have hC10 := hCb.chg hcw (by omega : ¬ w.heap.size + 1 < w.heap.size + 1)
              have hg10 : G w ((w9.setCell ⟨rb, 5, none⟩ (.slice da dn dc)).setCell ⟨rb, 6, none⟩ (.slice ea en ec)) := hgb.far (hcw.mono (fun k hk => by omega))
              have H10 := hide (And.intro hB10 (And.intro hC10 (And.intro hQ10 (And.intro hg10 (And.intro hs10 hv10)))))
              obtain ⟨w10, hw10⟩ : ∃ w10, w10 = ((w9.setCell ⟨rb, 5, none⟩ (.slice da dn dc)).setCell ⟨rb, 6, none⟩ (.slice ea en ec)) := ⟨_, rfl⟩
              have HW10 := hide hw10
              rw [← hw10] at H10
              have s10 := H10.out.2.2.2.2.1
              obtain ⟨pB, cB, badB, lB, b10, _, _, _, h5B, _⟩ := s10.form
              have e10 := b10.cell
              have q10 := H10.out.2.2.1.cell
              have r10 := H10.out.2.1.cell
              have rf10 := H10.out.2.1.frozen
              rw [hw10] at e10 q10 r10 rf10
              have HH5 := hide h5B
              clear hs8 hc8 hb8 hr8 hd9 hz9 hR9 hb9 hc9 h10 hQ10 hs10 kxa kxb hst hv10 hcw hgb hBb hCb hB10 hC10 hg10 s10 b10 hw10 h5B K9 H9
              have HBAD : Hid ((prp (k - 128) l).map (·.2) ≠ some [] → grC 0 k l = 163) := fun cU => by
                have hgB : grB (k - 128) l = none := by
                  unfold grB
                  cases e : prp (k - 128) l with
                  | none => rfl
                  | some x =>
                    obtain ⟨x1, x2⟩ := x
                    cases x2 with
                    | nil => exact absurd (by rw [e]; rfl) cU
                    | cons a r => rfl
                unfold grC; rw [if_neg (by simp), if_neg (not_not_intro HK.out.1), if_neg HK.out.2, hgB]; rfl
              cases badB with
              | true =>
                have hcd : grC 0 k l = 163 := HBAD.out (by
                  rcases HH5.out with ⟨_, q⟩ | ⟨q, _⟩
                  · rw [q]; exact fun x => by cases x
                  · cases q)
                have HF := HZ w10 H10.out.1 H10.out.2.1 H10.out.2.2.2.1 163 hcd (by decide)
                rw [HW10.out] at HF
                clear hcd HZ HBAD H10 HH5
                go_wp2_with fail
                exact bodyPost_ret_by (v := .tuple #[.agg #[I 0, I 0, .slice none 0 0, .slice none 0 0, .slice none 0 0, .slice none 0 0, .slice none 0 0], I 163]) (ret_p3 _ _ (w.heap.size + 1) [I 0, I 0, .slice none 0 0, .slice none 0 0, .slice none 0 0, .slice none 0 0, .slice none 0 0] 163 rfl rfl HF.out.1 rfl) rfl HF.out.2
              | false =>
                have hst : (prp (k - 128) l).map (·.2) = some lB := by
                  rcases HH5.out with ⟨q, _⟩ | ⟨_, q⟩
                  · cases q
                  · exact q
                cases lB with
                | cons z zs =>
                  have hcd : grC 0 k l = 163 := HBAD.out (by rw [hst]; exact fun x => by cases x)
                  have HF := HZ w10 H10.out.1 H10.out.2.1 H10.out.2.2.2.1 163 hcd (by decide)
                  rw [HW10.out] at HF
                  have i8 : (0 : Int) < ((z :: zs).length : Int) := by rw [List.length_cons]; omega
                  generalize (z :: zs).length = m at e10 i8
                  clear hcd HZ HBAD H10 HH5 hst
                  go_wp2_with fail
                  exact bodyPost_ret_by (v := .tuple #[.agg #[I 0, I 0, .slice none 0 0, .slice none 0 0, .slice none 0 0, .slice none 0 0, .slice none 0 0], I 163]) (ret_p3 _ _ (w.heap.size + 1) [I 0, I 0, .slice none 0 0, .slice none 0 0, .slice none 0 0, .slice none 0 0, .slice none 0 0] 163 rfl rfl HF.out.1 rfl) rfl HF.out.2
                | nil =>
                  obtain ⟨q, hq⟩ : ∃ q, prp (k - 128) l = some (q, []) := by
                    cases e : prp (k - 128) l with
                    | none => rw [e] at hst; cases hst
                    | some x =>
                      rw [e] at hst
                      have : x.2 = [] := Option.some.inj hst
                      exact ⟨x.1, by rw [← this]⟩
                  obtain ⟨hB10, hC10, hQ10, hg10, _, hv10⟩ := H10.out
                  have hqv := hv10 q [] hq
                  have hqg := (Pk.prp _ l q [] hq (by have := HK.out.2; omega)).2
                  have hqe : I q.dst = I (k - 128) ∧ I q.code = I cd := by
                    obtain ⟨_, _, _, _, _, h0, _⟩ := hqv
                    simp only [List.cons.injEq] at h0
                    exact ⟨h0.1.symm, h0.2.1.symm⟩
                  have KM0 := rmay3_any q _ _ _ _ _ w10 (hqg.lists hqv) hqg.small
                  rw [hqe.1, hqe.2, hqg.ok] at KM0
                  have KM := hide KM0
                  have hgB : grB (k - 128) l = if q.nums.length ≤ 4096 then some q else none := by unfold grB; rw [hq]
                  have HEW10 : Hid (((w9.setCell ⟨rb, 5, none⟩ (.slice da dn dc)).setCell ⟨rb, 6, none⟩ (.slice ea en ec)) = w10) := HW10.out.symm
                  clear KM0 hqe hqg
                  by_cases hm : q.nums.length ≤ 4096
                  · rw [decide_eq_true hm] at KM
                    rw [if_pos hm] at hgB
                    have hcd : grC 0 k l = 0 := by unfold grC; rw [if_neg (by simp), if_neg (not_not_intro HK.out.1), if_neg HK.out.2, hgB]; rfl
                    have hqq : grQ 0 k l = q := by unfold grQ; rw [hcd, if_pos rfl, hgB]; rfl
                    have HZZ : Hid (∀ w8, G w10 w8 → Blk (WR w8 (w.heap.size + 1) (I (k - 128)) (I cd) (.slice na nn nc) (.slice ta tn tc) (.slice ra rn rc) (.slice da dn dc) (.slice ea en ec)) (w.heap.size + 1) 35 [I (k - 128), I cd, .slice na nn nc, .slice ta tn tc, .slice ra rn rc, .slice da dn dc, .slice ea en ec] ∧ GrP 0 k l w (.returned (.tuple #[.agg #[I (k - 128), I cd, .slice na nn nc, .slice ta tn tc, .slice ra rn rc, .slice da dn dc, .slice ea en ec], I 0])) (WR w8 (w.heap.size + 1) (I (k - 128)) (I cd) (.slice na nn nc) (.slice ta tn tc) (.slice ra rn rc) (.slice da dn dc) (.slice ea en ec))) := fun w8 g => by
                      obtain ⟨_, q2, q3, q4⟩ := wr_set (I (k - 128)) (I cd) (.slice na nn nc) (.slice ta tn tc) (.slice ra rn rc) (.slice da dn dc) (.slice ea en ec) (hB10.G g) (by decide) (hC10.G g) (hg10.trans g) (Nat.le_succ _)
                      refine ⟨q2, _, by rw [hcd], ⟨_, _, _, _, _, _, _, _, _, _, _, _, _, _, _, _, _, rfl⟩, ?_, q3⟩
                      rw [hqq]
                      exact dQ.keep (X := [35]) ((Kx.of_G g).trans (Kx.one q4 (hC10.G g) (by simp))) (by decide) hqv
                    have HBC := hide (And.intro hC10 hQ10)
                    clear hB10 hC10 hg10 hQ10 hv10 hqv hgB hm hcd hqq HZ H10 HBAD hst HH5
                    go_wp2_with fail
                    rw [HEW10.out]
                    refine KM.out.mono ?_
                    rintro e w12 ⟨rfl, g12⟩
                    have HF := hide (HZZ.out w12 g12)
                    have hC12 := HBC.out.1.G g12
                    have r8 := hC12.cell
                    have r9 := hC12.frozen
                    have hQ12 := HBC.out.2.G g12
                    have t8 := hQ12.cell
                    clear g12 KM HZZ hC12 hQ12 k9 f9 e10 q10 r10 rf10
                    go_wp2_with fail
                    exact bodyPost_ret_by (v := .tuple #[.agg #[I (k - 128), I cd, .slice na nn nc, .slice ta tn tc, .slice ra rn rc, .slice da dn dc, .slice ea en ec], I 0]) (ret_p3 _ _ (w.heap.size + 1) [I (k - 128), I cd, .slice na nn nc, .slice ta tn tc, .slice ra rn rc, .slice da dn dc, .slice ea en ec] 0 rfl rfl HF.out.1 rfl) rfl HF.out.2
                  · rw [decide_eq_false hm] at KM
                    rw [if_neg hm] at hgB
                    have hcd : grC 0 k l = 163 := by unfold grC; rw [if_neg (by simp), if_neg (not_not_intro HK.out.1), if_neg HK.out.2, hgB]; rfl
                    have HZZ := hide (fun (w8 : World) (g : G w10 w8) => (HZ w8 (hB10.G g) (hC10.G g) (hg10.trans g) 163 hcd (by decide)).out)
                    have HBC := hide (And.intro hC10 hQ10)
                    clear hB10 hC10 hg10 hQ10 hv10 hqv hgB hm hcd HZ H10 HBAD hst HH5
                    go_wp2_with fail
                    rw [HEW10.out]
                    refine KM.out.mono ?_
                    rintro e w12 ⟨rfl, g12⟩
                    have HF := hide (HZZ.out w12 g12)
                    have hC12 := HBC.out.1.G g12
                    have r8 := hC12.cell
                    have r9 := hC12.frozen
                    clear g12 KM HZZ hC12 k9 f9 e10 q10 r10 rf10
                    go_wp2_with fail
                    exact bodyPost_ret_by (v := .tuple #[.agg #[I 0, I 0, .slice none 0 0, .slice none 0 0, .slice none 0 0, .slice none 0 0, .slice none 0 0], I 163]) (ret_p3 _ _ (w.heap.size + 1) [I 0, I 0, .slice none 0 0, .slice none 0 0, .slice none 0 0, .slice none 0 0, .slice none 0 0] 163 rfl rfl HF.out.1 rfl) rfl HF.out.2
            | some rr =>
              have KT := hide (table3_any N wo.drew b (some rr) (hs.G ((G.refl wo).drew)) (Nat.le_trans HNW.out hch.size) ((HT.out.cb hch).G ((G.refl wo).drew)))
              have hob : ∀ k, (Value.slice ra rn rc).ownBlock = some k → ¬ k = b := fun k hk e => by subst e; exact ho.ne b3 (by decide) hk
              have HO := hide (And.intro ho (And.intro hof hob))
              have HC := hide (And.intro hch hB)
              have HB3 := hide b3
              have HX := hide (And.intro hxl (And.intro hlt hrel'))
              simp only [Option.isNone_some] at k3
              clear hin ho hof hch hs hxl hrel' b3 hlt hob HPE hB HZ
              go_wp2_with fail
              refine wp_region_noPanic ?_
              refine wp_region_L (S := (fun V => ∀ o, V.cell? ⟨rb, o, none⟩ = ([I (k - 128), I cd, .slice na nn nc, .slice ta tn tc, .slice ra rn rc, .slice none 0 0, .slice none 0 0] : List Value)[o]?)) 7 (by kernel_rfl) (HC.out.2.drew.cell) (fun hHeld => ?_)
              refine wpAnyL_take (i := 0) (v := ?_) rfl (by kernel_rfl) (by kernel_rfl) (by kernel_rfl) (by kernel_rfl) (fun _ _ _ h => h) (Or.inl ⟨by rfl, ?_⟩) hHeld ?_
              rotate_left 1
              · (intro w hSw; (try dsimp only at hSw); go_simp; try with_reducible rfl)
              try simp only [Act.put, List.getElem_toArray, List.getElem_cons_zero, List.setIfInBounds_toArray, List.set_cons_zero, List.set_cons_succ]
              refine wpAnyL_take (i := 1) (v := ?_) rfl (by kernel_rfl) (by kernel_rfl) (by kernel_rfl) (by kernel_rfl) (fun _ _ _ h => h) (Or.inl ⟨by rfl, ?_⟩) hHeld ?_
              rotate_left 1
              · (intro w hSw; have q1 := hSw; go_simp; try with_reducible rfl)
              try simp only [Act.put, List.getElem_toArray, List.getElem_cons_zero, List.getElem_cons_succ, List.setIfInBounds_toArray, List.set_cons_zero, List.set_cons_succ]
              refine wpAnyL_take (i := 2) (v := ?_) rfl (by kernel_rfl) (by kernel_rfl) (by kernel_rfl) (by kernel_rfl) (fun _ _ _ h => h) (Or.inl ⟨by rfl, ?_⟩) hHeld ?_
              rotate_left 1
              · (intro w hSw; (try dsimp only at hSw); go_simp; try with_reducible rfl)
              try simp only [Act.put, List.getElem_toArray, List.getElem_cons_zero, List.getElem_cons_succ, List.setIfInBounds_toArray, List.set_cons_zero, List.set_cons_succ]
              refine wpAnyL_one (i := 3) (by kernel_rfl) rfl (by kernel_rfl) (fun K hK => ?_)
              clear hHeld
              refine (if_pos rfl).mpr ?_
              go_simp
              refine KT.out.mono ?_
              rintro e w3 ⟨v3, rfl, ⟨ca, cn, cc, qa, qn, qc, md, gn, st, rfl⟩, hc3', hs3, hR3⟩
              have hc3 : Cb b wo w3 := ((G.refl wo).drew).chg.trans hc3'
              have HB9 := hide (HC.out.2.chg hc3 HNE.out.1)
              have H3 := hide (And.intro hc3 (And.intro hs3 (fun x l' e => hR3 x l' e _ _ _ _ _ _ _ _ _ rfl)))
              clear hc3 hc3' hs3 hR3 KT
              go_wp2_with fail
              refine hK.out _ _ (HB9.out.cell) (fun hHeld => ?_)
              clear hK K
              try simp only [Act.put, List.getElem_toArray, List.getElem_cons_zero, List.getElem_cons_succ, List.setIfInBounds_toArray, List.set_cons_zero, List.set_cons_succ]
              refine wpAnyL_one (i := 4) (by kernel_rfl) rfl (by kernel_rfl) (fun K hK => ?_)
              clear hHeld
              obtain ⟨hc3, hs3, hR3⟩ := H3.out
              obtain ⟨ho, hof, hob⟩ := HO.out
              obtain ⟨hch, hB⟩ := HC.out
              have hA := (G.refl w3).alloc (.cells #[.slice ca cn cc, .slice qa qn qc, I md, I gn, I st] 56)
              have ho4 := (ho.chg hc3 hob).G hA
              obtain ⟨i0, hi0, hz0, hz1, hz2⟩ := info_T
              have hmx : (2097153 : Nat) ≤ maxLen := of_decide_eq_true (by kernel_rfl)
              obtain ⟨hxl, hlt, hlr⟩ := HX.out
              have n21 : n ≤ 2097152 := by
                rcases hlr with ⟨q, _⟩ | ⟨_, _, _, _, q, _⟩
                · cases q
                · exact q
              obtain ⟨c, hc⟩ : ∃ c : Raw dT.s, c.1 = [.slice ca cn cc, .slice qa qn qc, I md, I gn, I st] := ⟨⟨[.slice ca cn cc, .slice qa qn qc, I md, I gn, I st], rfl, fun u hu => by simp at hu; rcases hu with rfl | rfl | rfl | rfl | rfl <;> rfl⟩, rfl⟩
              have hlit : Row (eR dT.s).rel (w3.alloc (.cells #[.slice ca cn cc, .slice qa qn qc, I md, I gn, I st] 56)) (.slice (some ⟨w3.heap.size, 0, none⟩) 1 1) [c] := by
                have := Row.lit (E := eR dT.s) w3 56 [c] 1 (by simp)
                rw [show (eR dT.s).fl [c] = [.slice ca cn cc, .slice qa qn qc, I md, I gn, I st] by simp [Enc.fl, hc]] at this
                exact this
              obtain ⟨v5, w5, hr5, hs5, hch5, hob5⟩ := app_row (P := Tryd.prog) (tr := 29) (ns := [c]) i0 _ 72 Tryd.underlying29 hi0 hz0 hz1 hz2 rfl (by decide) ho4 hlit (by simp; omega) (by simp; omega)
              have kx1 : Kx [49, 56] wo w3 := Kx.one hc3 HB3.out (by simp)
              have kx2 : Kx [49, 56] w3 w5 := (Kx.of_G hA).trans (Kx.own hch5 ho4 (by simp))
              have hB5 : Blk w5 rb 35 [I (k - 128), I cd, .slice na nn nc, .slice ta tn tc, .slice ra rn rc, .slice none 0 0, .slice none 0 0] := (kx1.trans kx2).blk hB (by decide)
              have hcA : Cb b wb (w3.alloc (.cells #[.slice ca cn cc, .slice qa qn qc, I md, I gn, I st] 56)) := (hch.trans hc3).trans hA.chg
              have hc5 : Cb b wb w5 := hcA.more hch5 (fun k hk q => absurd (hof k q) (by omega))
              have hf5 : Fresh wb v5 := fun k hk => by
                rcases hob5 with q | q
                · rw [q] at hk; exact hof k hk
                · rw [q] at hk; have h1 := Option.some.inj hk; have h2 := hcA.size; omega
              have hsc5 := (hs3.G hA).own (W := wb) (fun k hk => ⟨hof k hk, hob k hk⟩) HNW.out hch5
              obtain ⟨a5, c5, hv5⟩ := hs5.form
              generalize (rs ++ [c]).length = n5 at hv5
              subst hv5
              have h6 : Chg (fun k => k = rb) w5 (w5.setCell ⟨rb, 4, none⟩ (.slice a5 n5 c5)) := chg_setCell w5 _ (.inl rfl)
              have kx3 : Kx [49, 35] w5 (w5.setCell ⟨rb, 4, none⟩ (.slice a5 n5 c5)) := Kx.one h6 hB5 (by simp)
              have kx4 : Kx [49, 56, 35] wo (w5.setCell ⟨rb, 4, none⟩ (.slice a5 n5 c5)) := ((kx1.trans kx2).mono (fun t q => by simp at q ⊢; omega)).trans (kx3.mono (fun t q => by simp at q ⊢; omega))
              have kx5 : Kx [49, 56, 35] w3 (w5.setCell ⟨rb, 4, none⟩ (.slice a5 n5 c5)) := (kx2.mono (fun t q => by simp at q ⊢; omega)).trans (kx3.mono (fun t q => by simp at q ⊢; omega))
              have HNX : Hid (LR dT ptb n (prp (k - 128) l) (fun u K => ∃ nums texts, Sw eI 2 u (.slice na nn nc) nums ∧ Sw eS 9 u (.slice ta tn tc) texts ∧ K = KB (k - 128) cd nums texts) (w5.setCell ⟨rb, 4, none⟩ (.slice a5 n5 c5)) (i + 1) (((some rr).bind ptb).map (·.2)) (rs ++ [c])) :=
                LR.step (X := [49, 56, 35]) hlr hlt hxl kx4 kx5 (by decide) (fun K ⟨ns, tx, h1, h2, h3⟩ => ⟨ns, tx, h1.kx kx4 (by decide), h2.kx kx4 (by decide), h3⟩) (fun x l' e => by rw [hc]; exact hR3 x l' e)
              have HR5 := hide hr5
              have HF : Hid (Blk (w5.setCell ⟨rb, 4, none⟩ (.slice a5 n5 c5)) rb 35 [I (k - 128), I cd, .slice na nn nc, .slice ta tn tc, .slice a5 n5 c5, .slice none 0 0, .slice none 0 0] ∧ Sw (eR dT.s) 56 (w5.setCell ⟨rb, 4, none⟩ (.slice a5 n5 c5)) (.slice a5 n5 c5) (rs ++ [c]) ∧ Fresh wb (.slice a5 n5 c5) ∧ Cb b wb (w5.setCell ⟨rb, 4, none⟩ (.slice a5 n5 c5)) ∧ Rc N (w5.setCell ⟨rb, 4, none⟩ (.slice a5 n5 c5)) b (((some rr).bind ptb).map (·.2)) ∧ (rs ++ [c]).length = i + 1 ∧ i < n) :=
                ⟨hB5.set 4 _, hs5.kx kx3 (by decide), hf5, hc5.more h6 (fun k hk e => by have := HNE.out.2.1; omega), hsc5.far (F := fun k => k = rb) (fun k hk => by subst hk; exact ⟨HNE.out.2.2, HNE.out.1⟩) h6, by simp; exact hxl, hlt⟩
              have HWI : Hid (wrap64 ((i : Int) + 1) = ((i + 1 : Nat) : Int)) := by show _ = _; unfold wrap64; omega
              have HBA := hide (HB9.out.G hA)
              have HB5 := hide hB5
              clear hc3 hs3 hR3 ho hof hob hch hB hA ho4 hi0 hz0 hz1 hz2 hmx hxl n21 hlt hlr hlit hr5 hs5 hch5 hob5 kx1 kx2 hB5 hcA hc5 hf5 hsc5 h6 kx3 kx4 kx5 hc HX HO HC HB3
              go_simp
              generalize w3.alloc (.cells #[.slice ca cn cc, .slice qa qn qc, I md, I gn, I st] 56) = w3a at HR5 HBA ⊢
              refine hK.out _ _ (HBA.out.cell) (fun hHeld => ?_)
              clear hK K
              try simp only [Act.put, List.getElem_toArray, List.getElem_cons_zero, List.getElem_cons_succ, List.setIfInBounds_toArray, List.set_cons_zero, List.set_cons_succ]
              refine wpAnyL_one (i := 5) (by kernel_rfl) rfl (by kernel_rfl) (fun K hK => ?_)
              clear hHeld
              refine (if_pos rfl).mpr ?_
              refine wp_of_exec (exec_append _ _ 29 rfl (.slice ra rn rc) (.slice (some ⟨w3.heap.size, 0, none⟩) 1 1) rfl rfl 29 rfl HR5.out) ?_
              refine hK.out _ _ (HB5.out.cell) (fun hHeld => ?_)
              clear hK K
              try simp only [Act.put, List.getElem_toArray, List.getElem_cons_zero, List.getElem_cons_succ, List.setIfInBounds_toArray, List.set_cons_zero, List.set_cons_succ]
              refine wpAnyL_take (i := 6) (v := ?_) rfl (by kernel_rfl) (by kernel_rfl) (by kernel_rfl) (by kernel_rfl) (fun _ _ _ h => h) (Or.inl ⟨by rfl, ?_⟩) hHeld ?_
              rotate_left 1
              · (intro w hSw; (try dsimp only at hSw); go_simp; try with_reducible rfl)
              try simp only [Act.put, List.getElem_toArray, List.getElem_cons_zero, List.getElem_cons_succ, List.setIfInBounds_toArray, List.set_cons_zero, List.set_cons_succ]
              refine wpAnyL_last (by kernel_rfl) rfl (by kernel_rfl) (fun K hK => ?_)
              clear hHeld
              have hc7 := HB5.out.cell
              have hz7 := HB5.out.frozen
              go_simp
              refine hK.out _ _ ?_
              clear hK K
              refine NoPanic.normal ?_
              clear k3 i2
              go_wp2_with fail
              try rw [HWI.out]
              obtain ⟨r1, r2, r3, r4, r5, r6, r7⟩ := HF.out
              refine ⟨⟨i + 1, _, a5, n5, c5, rs ++ [c], rfl, r7, r1, r2, r3, r4, r5, r6, HNX.out⟩, ?_⟩
              simp only [RowKit.intOf]; omega
          · have i2 : ¬ (i : Int) < (n : Int) := by omega
            have HP := hide (HPE.out (.inr (by omega)))
            clear hin ho hof hch hs hxl hrel' b3 hlt HPE hB
            obtain ⟨hs8, hc8, hb8, hr8⟩ := HP.out
            have K9 := hide (graph3_any N wo b _ hs8 (Nat.le_trans HNW.out hc8.size) (HT.out.cb hc8))
            have H9 := hide (And.intro hs8 (And.intro hc8 (And.intro hb8 hr8)))
            clear HP hs8 hc8 hb8 hr8
            go_wp2_with fail
            clear k3 i2
            refine K9.out.mono ?_
            rintro e w9 ⟨v9, rfl, ⟨da, dn, dc, ea, en, ec, rfl⟩, hd9, hz9, hR9⟩
            obtain ⟨hs8, hc8, hb8, hr8⟩ := H9.out
            have hb9 := hb8.chg hd9 HNE.out.1
            have k9 := hb9.cell
            have f9 := hb9.frozen
            have hc9 := hc8.trans hd9
            have h10 : Chg (fun k => k = rb) w9 ((w9.setCell ⟨rb, 5, none⟩ (.slice da dn dc)).setCell ⟨rb, 6, none⟩ (.slice ea en ec)) := ((chg_setCell (F := fun k => k = rb) (b := rb) (o := 5) _ (.slice da dn dc) (.inl rfl)).trans (chg_setCell (F := fun k => k = rb) (b := rb) (o := 6) _ (.slice ea en ec) (.inl rfl)))
            have hQ10 : Blk ((w9.setCell ⟨rb, 5, none⟩ (.slice da dn dc)).setCell ⟨rb, 6, none⟩ (.slice ea en ec)) rb 35 [I (k - 128), I cd, .slice na nn nc, .slice ta tn tc, .slice ra rn rc, .slice da dn dc, .slice ea en ec] := (hb9.set 5 (.slice da dn dc)).set 6 (.slice ea en ec)
            have hs10 := hz9.far (F := fun k => k = rb) (fun k hk => by subst hk; exact ⟨HNE.out.2.2, HNE.out.1⟩) h10
            have kxa : Kx [49, 35] wo w9 := by obtain ⟨_, q⟩ := hs8.blk; exact Kx.one hd9 q (by simp)
            have kxb : Kx [49, 35] w9 ((w9.setCell ⟨rb, 5, none⟩ (.slice da dn dc)).setCell ⟨rb, 6, none⟩ (.slice ea en ec)) := Kx.one h10 hb9 (by simp)
            obtain ⟨hst, hv10⟩ := kb_fin (vd := .slice da dn dc) (ve := .slice ea en ec) hr8 (kxa.trans kxb) (fun x l' e => by
              obtain ⟨q1, q2⟩ := hR9 x l' e _ _ _ _ _ _ rfl
              exact ⟨q1.kx kxb (by decide) (by decide), q2.kx kxb (by decide) (by decide)⟩)
            rw [hst] at hs10
            have hcw : Chg (fun k => w.heap.size + 1 < k) wb ((w9.setCell ⟨rb, 5, none⟩ (.slice da dn dc)).setCell ⟨rb, 6, none⟩ (.slice ea en ec)) := (hc9.mono (fun k hk => by rw [hk]; exact HBW.out.1)).trans (h10.mono (fun k hk => by rw [hk]; exact HBW.out.2))
            obtain ⟨hgb, hBb, hCb⟩ := HWB.out
            have hB10 := hBb.chg hcw (by omega : ¬ w.heap.size + 1 < w.heap.size)
            have hC10 := hCb.chg hcw (by omega : ¬ w.heap.size + 1 < w.heap.size + 1)
            have hg10 : G w ((w9.setCell ⟨rb, 5, none⟩ (.slice da dn dc)).setCell ⟨rb, 6, none⟩ (.slice ea en ec)) := hgb.far (hcw.mono (fun k hk => by omega))
            have H10 := hide (And.intro hB10 (And.intro hC10 (And.intro hQ10 (And.intro hg10 (And.intro hs10 hv10)))))
            obtain ⟨w10, hw10⟩ : ∃ w10, w10 = ((w9.setCell ⟨rb, 5, none⟩ (.slice da dn dc)).setCell ⟨rb, 6, none⟩ (.slice ea en ec)) := ⟨_, rfl⟩
            have HW10 := hide hw10
            rw [← hw10] at H10
            have s10 := H10.out.2.2.2.2.1
            obtain ⟨pB, cB, badB, lB, b10, _, _, _, h5B, _⟩ := s10.form
            have e10 := b10.cell
            have q10 := H10.out.2.2.1.cell
            have r10 := H10.out.2.1.cell
            have rf10 := H10.out.2.1.frozen
            rw [hw10] at e10 q10 r10 rf10
            have HH5 := hide h5B
            clear hs8 hc8 hb8 hr8 hd9 hz9 hR9 hb9 hc9 h10 hQ10 hs10 kxa kxb hst hv10 hcw hgb hBb hCb hB10 hC10 hg10 s10 b10 hw10 h5B K9 H9
            have HBAD : Hid ((prp (k - 128) l).map (·.2) ≠ some [] → grC 0 k l = 163) := fun cU => by
              have hgB : grB (k - 128) l = none := by
                unfold grB
                cases e : prp (k - 128) l with
                | none => rfl
                | some x =>
                  obtain ⟨x1, x2⟩ := x
                  cases x2 with
                  | nil => exact absurd (by rw [e]; rfl) cU
                  | cons a r => rfl
              unfold grC; rw [if_neg (by simp), if_neg (not_not_intro HK.out.1), if_neg HK.out.2, hgB]; rfl
            cases badB with
            | true =>
              have hcd : grC 0 k l = 163 := HBAD.out (by
                rcases HH5.out with ⟨_, q⟩ | ⟨q, _⟩
                · rw [q]; exact fun x => by cases x
                · cases q)
              have HF := HZ w10 H10.out.1 H10.out.2.1 H10.out.2.2.2.1 163 hcd (by decide)
              rw [HW10.out] at HF
              clear hcd HZ HBAD H10 HH5
              go_wp2_with fail
              exact bodyPost_ret_by (v := .tuple #[.agg #[I 0, I 0, .slice none 0 0, .slice none 0 0, .slice none 0 0, .slice none 0 0, .slice none 0 0], I 163]) (ret_p3 _ _ (w.heap.size + 1) [I 0, I 0, .slice none 0 0, .slice none 0 0, .slice none 0 0, .slice none 0 0, .slice none 0 0] 163 rfl rfl HF.out.1 rfl) rfl HF.out.2
            | false =>
              have hst : (prp (k - 128) l).map (·.2) = some lB := by
                rcases HH5.out with ⟨q, _⟩ | ⟨_, q⟩
                · cases q
                · exact q
              cases lB with
              | cons z zs =>
                have hcd : grC 0 k l = 163 := HBAD.out (by rw [hst]; exact fun x => by cases x)
                have HF := HZ w10 H10.out.1 H10.out.2.1 H10.out.2.2.2.1 163 hcd (by decide)
                rw [HW10.out] at HF
                have i8 : (0 : Int) < ((z :: zs).length : Int) := by rw [List.length_cons]; omega
                generalize (z :: zs).length = m at e10 i8
                clear hcd HZ HBAD H10 HH5 hst
                go_wp2_with fail
                exact bodyPost_ret_by (v := .tuple #[.agg #[I 0, I 0, .slice none 0 0, .slice none 0 0, .slice none 0 0, .slice none 0 0, .slice none 0 0], I 163]) (ret_p3 _ _ (w.heap.size + 1) [I 0, I 0, .slice none 0 0, .slice none 0 0, .slice none 0 0, .slice none 0 0, .slice none 0 0] 163 rfl rfl HF.out.1 rfl) rfl HF.out.2
              | nil =>
                obtain ⟨q, hq⟩ : ∃ q, prp (k - 128) l = some (q, []) := by
                  cases e : prp (k - 128) l with
                  | none => rw [e] at hst; cases hst
                  | some x =>
                    rw [e] at hst
                    have : x.2 = [] := Option.some.inj hst
                    exact ⟨x.1, by rw [← this]⟩
                obtain ⟨hB10, hC10, hQ10, hg10, _, hv10⟩ := H10.out
                have hqv := hv10 q [] hq
                have hqg := (Pk.prp _ l q [] hq (by have := HK.out.2; omega)).2
                have hqe : I q.dst = I (k - 128) ∧ I q.code = I cd := by
                  obtain ⟨_, _, _, _, _, h0, _⟩ := hqv
                  simp only [List.cons.injEq] at h0
                  exact ⟨h0.1.symm, h0.2.1.symm⟩
                have KM0 := rmay3_any q _ _ _ _ _ w10 (hqg.lists hqv) hqg.small
                rw [hqe.1, hqe.2, hqg.ok] at KM0
                have KM := hide KM0
                have hgB : grB (k - 128) l = if q.nums.length ≤ 4096 then some q else none := by unfold grB; rw [hq]
                have HEW10 : Hid (((w9.setCell ⟨rb, 5, none⟩ (.slice da dn dc)).setCell ⟨rb, 6, none⟩ (.slice ea en ec)) = w10) := HW10.out.symm
                clear KM0 hqe hqg
                by_cases hm : q.nums.length ≤ 4096
                · rw [decide_eq_true hm] at KM
                  rw [if_pos hm] at hgB
                  have hcd : grC 0 k l = 0 := by unfold grC; rw [if_neg (by simp), if_neg (not_not_intro HK.out.1), if_neg HK.out.2, hgB]; rfl
                  have hqq : grQ 0 k l = q := by unfold grQ; rw [hcd, if_pos rfl, hgB]; rfl
                  have HZZ : Hid (∀ w8, G w10 w8 → Blk (WR w8 (w.heap.size + 1) (I (k - 128)) (I cd) (.slice na nn nc) (.slice ta tn tc) (.slice ra rn rc) (.slice da dn dc) (.slice ea en ec)) (w.heap.size + 1) 35 [I (k - 128), I cd, .slice na nn nc, .slice ta tn tc, .slice ra rn rc, .slice da dn dc, .slice ea en ec] ∧ GrP 0 k l w (.returned (.tuple #[.agg #[I (k - 128), I cd, .slice na nn nc, .slice ta tn tc, .slice ra rn rc, .slice da dn dc, .slice ea en ec], I 0])) (WR w8 (w.heap.size + 1) (I (k - 128)) (I cd) (.slice na nn nc) (.slice ta tn tc) (.slice ra rn rc) (.slice da dn dc) (.slice ea en ec))) := fun w8 g => by
                    obtain ⟨_, q2, q3, q4⟩ := wr_set (I (k - 128)) (I cd) (.slice na nn nc) (.slice ta tn tc) (.slice ra rn rc) (.slice da dn dc) (.slice ea en ec) (hB10.G g) (by decide) (hC10.G g) (hg10.trans g) (Nat.le_succ _)
                    refine ⟨q2, _, by rw [hcd], ⟨_, _, _, _, _, _, _, _, _, _, _, _, _, _, _, _, _, rfl⟩, ?_, q3⟩
                    rw [hqq]
                    exact dQ.keep (X := [35]) ((Kx.of_G g).trans (Kx.one q4 (hC10.G g) (by simp))) (by decide) hqv
                  have HBC := hide (And.intro hC10 hQ10)
                  clear hB10 hC10 hg10 hQ10 hv10 hqv hgB hm hcd hqq HZ H10 HBAD hst HH5
                  go_wp2_with fail
                  rw [HEW10.out]
                  refine KM.out.mono ?_
                  rintro e w12 ⟨rfl, g12⟩
                  have HF := hide (HZZ.out w12 g12)
                  have hC12 := HBC.out.1.G g12
                  have r8 := hC12.cell
                  have r9 := hC12.frozen
                  have hQ12 := HBC.out.2.G g12
                  have t8 := hQ12.cell
                  clear g12 KM HZZ hC12 hQ12 k9 f9 e10 q10 r10 rf10
                  go_wp2_with fail
                  exact bodyPost_ret_by (v := .tuple #[.agg #[I (k - 128), I cd, .slice na nn nc, .slice ta tn tc, .slice ra rn rc, .slice da dn dc, .slice ea en ec], I 0]) (ret_p3 _ _ (w.heap.size + 1) [I (k - 128), I cd, .slice na nn nc, .slice ta tn tc, .slice ra rn rc, .slice da dn dc, .slice ea en ec] 0 rfl rfl HF.out.1 rfl) rfl HF.out.2
                · rw [decide_eq_false hm] at KM
                  rw [if_neg hm] at hgB
                  have hcd : grC 0 k l = 163 := by unfold grC; rw [if_neg (by simp), if_neg (not_not_intro HK.out.1), if_neg HK.out.2, hgB]; rfl
                  have HZZ := hide (fun (w8 : World) (g : G w10 w8) => (HZ w8 (hB10.G g) (hC10.G g) (hg10.trans g) 163 hcd (by decide)).out)
                  have HBC := hide (And.intro hC10 hQ10)
                  clear hB10 hC10 hg10 hQ10 hv10 hqv hgB hm hcd HZ H10 HBAD hst HH5
                  go_wp2_with fail
                  rw [HEW10.out]
                  refine KM.out.mono ?_
                  rintro e w12 ⟨rfl, g12⟩
                  have HF := hide (HZZ.out w12 g12)
                  have hC12 := HBC.out.1.G g12
                  have r8 := hC12.cell
                  have r9 := hC12.frozen
                  clear g12 KM HZZ hC12 k9 f9 e10 q10 r10 rf10
                  go_wp2_with fail
                  exact bodyPost_ret_by (v := .tuple #[.agg #[I 0, I 0, .slice none 0 0, .slice none 0 0, .slice none 0 0, .slice none 0 0, .slice none 0 0], I 163]) (ret_p3 _ _ (w.heap.size + 1) [I 0, I 0, .slice none 0 0, .slice none 0 0, .slice none 0 0, .slice none 0 0, .slice none 0 0] 163 rfl rfl HF.out.1 rfl) rfl HF.out.2
    · have HF := hide (And.intro HB.out.2 (GrP.bad 0 k l w w2 162 (by unfold grC; rw [if_neg (by simp), if_pos cK]) (by decide) HA.out))
      clear hr hb hT hk hA2 hB2 hC2 hw2 c0 HZ
      by_cases i6 : k < 128
      · clear cK
        go_enter Tryd.func6, Tryd.ntmps6
        go_wp2_with fail
        rw [HEW.out]
        clear hbx
        go_wp2_with fail
        exact bodyPost_ret_by (v := .tuple #[.agg #[I 0, I 0, .slice none 0 0, .slice none 0 0, .slice none 0 0, .slice none 0 0, .slice none 0 0], I 162]) (ret_p3 _ _ (w.heap.size + 1) [I 0, I 0, .slice none 0 0, .slice none 0 0, .slice none 0 0, .slice none 0 0, .slice none 0 0] 162 rfl rfl HF.out.1 rfl) rfl HF.out.2
      · have i7 : (140 : Int) < k := by omega
        clear cK
        go_enter Tryd.func6, Tryd.ntmps6
        go_wp2_with fail
        rw [HEW.out]
        clear hbx
        go_wp2_with fail
        exact bodyPost_ret_by (v := .tuple #[.agg #[I 0, I 0, .slice none 0 0, .slice none 0 0, .slice none 0 0, .slice none 0 0, .slice none 0 0], I 162]) (ret_p3 _ _ (w.heap.size + 1) [I 0, I 0, .slice none 0 0, .slice none 0 0, .slice none 0 0, .slice none 0 0, .slice none 0 0] 162 rfl rfl HF.out.1 rfl) rfl HF.out.2
end Go.Proofs.YtcdjjmjhdoanlaaDoor
