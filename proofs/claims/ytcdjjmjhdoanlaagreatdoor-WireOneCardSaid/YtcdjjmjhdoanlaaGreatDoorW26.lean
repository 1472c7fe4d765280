/- Wire: GetRequest. -/
import Derived.Test.YtcdjjmjhdoanlaaGreatDoorW25
namespace Go.Proofs.YtcdjjmjhdoanlaaGreatDoor
open Go.RowKit

def zRq : Rq := ⟨0, [], { data := #[] }, []⟩
theorem zRq_v (w : World) : RqV w (.agg #[I 0, .slice none 0 0, .string { data := #[] }, .slice none 0 0]) zRq := ⟨⟨_, _, rfl, Row.nil _ _, Row.nil _ _⟩, fun x hx => by simp [zRq] at hx, by simp [zRq], by simp [zRq, ByteArray.size], by simp [zRq]⟩
/-- What GetRequest answers. -/
def gqB (k : Int) (l : List Nat) : Option Rq := match pq k l with | some (q, []) => if q.may then some q else none | _ => none
def gqC (c k : Int) (l : List Nat) : Int := if c ≠ 0 then c else if ¬ (1 ≤ k ∧ k ≤ 12) then 162 else if 2097152 < l.length then 163 else if (gqB k l).isSome then 0 else 163
def gqQ (c k : Int) (l : List Nat) : Rq := if gqC c k l = 0 then (gqB k l).getD zRq else zRq
def GqP (c k : Int) (l : List Nat) (w : World) (e : Ending) (w' : World) : Prop := ∃ v', e = .returned (.tuple #[v', I (gqC c k l)]) ∧ (∀ (F : Nat → Prop) w9, (∀ j, F j → j < w.heap.size) → Chg F w' w9 → RqV w9 v' (gqQ c k l)) ∧ G w w'
theorem GqP.bad (c k : Int) (l : List Nat) (w w' : World) (x : Int) (h : gqC c k l = x) (hx : x ≠ 0) (g : G w w') : GqP c k l w (.returned (.tuple #[.agg #[I 0, .slice none 0 0, .string { data := #[] }, .slice none 0 0], I x])) w' :=
  ⟨_, by rw [h], fun F w9 _ _ => by rw [gqQ, h, if_neg hx]; exact zRq_v w9, g⟩
theorem ret_q (tmps : Array Value) (W : World) (rb : Nat) (cs : List Value) (c : Int) (hp : tmps.getD 2 undef = .pointer (some ⟨rb, 0, none⟩)) (hc : tmps.getD 3 undef = I c) (hr : Blk W rb 33 cs) (hl : cs.length = 4) :
    (results Tryz.f9 tmps).run Tryz.prog W = .ok (.tuple #[.agg cs.toArray, I c]) W := by
  rw [results_cell_tmp Tryz.results9, hp, hc]
  have h := run_loadVar_mid (P := Tryz.prog) W rb 0 33 cs _ (by have := hr.range 0 4; rw [List.drop_zero, List.take_of_length_le (by omega)] at this; exact this) Tryz.underlying33 rfl (by rw [hl]; kernel_rfl)
  simp only [asAddr, Sem.run_pure, Result.andThen_ok, h]
abbrev WS (x : World) (rb : Nat) (a b c d : Value) : World := (((x.setCell ⟨rb, 0, none⟩ a).setCell ⟨rb, 1, none⟩ b).setCell ⟨rb, 2, none⟩ c).setCell ⟨rb, 3, none⟩ d
theorem ws_set {w x : World} {fb rb : Nat} {F : List Value} {y0 y1 y2 y3 : Value} (a b c d : Value) (hB : Blk x fb 25 F) (hC : Blk x rb 33 [y0, y1, y2, y3]) (hg : G w x) (hrb : w.heap.size ≤ rb) : Blk (WS x rb a b c d) fb 25 F ∧ Blk (WS x rb a b c d) rb 33 [a, b, c, d] ∧ G w (WS x rb a b c d) ∧ Chg (fun k => k = rb) x (WS x rb a b c d) := by
  have hne : fb ≠ rb := hB.ne hC (by decide)
  exact ⟨(((hB.off hne).off hne).off hne).off hne, (((hC.set 0 a).set 1 b).set 2 c).set 3 d, (((hg.setCell hrb _).setCell hrb _).setCell hrb _).setCell hrb _,
    (((chg_setCell (F := fun k => k = rb) (b := rb) (o := 0) _ a (.inl rfl)).trans (chg_setCell (F := fun k => k = rb) (b := rb) (o := 1) _ b (.inl rfl))).trans (chg_setCell (F := fun k => k = rb) (b := rb) (o := 2) _ c (.inl rfl))).trans (chg_setCell (F := fun k => k = rb) (b := rb) (o := 3) _ d (.inl rfl))⟩
theorem pq_k {k : Int} {l r : List Nat} {q : Rq} (h : pq k l = some (q, r)) : q.k = k := by
  unfold pq at h
  cases e1 : pl pz l with
  | none => rw [e1] at h; cases h
  | some x =>
    rw [e1] at h
    have h : ((pt x.2).bind fun y => (pb y.2).bind fun z => some ((⟨k, x.1, y.1, z.1⟩ : Rq), z.2)) = some (q, r) := h
    cases e2 : pt x.2 with
    | none => rw [e2] at h; cases h
    | some y =>
      rw [e2] at h
      have h : ((pb y.2).bind fun z => some ((⟨k, x.1, y.1, z.1⟩ : Rq), z.2)) = some (q, r) := h
      cases e3 : pb y.2 with
      | none => rw [e3] at h; cases h
      | some z => rw [e3] at h; cases h; rfl
set_option maxRecDepth 100000 in
set_option maxHeartbeats 1000000 in
theorem used_any (N : Nat) (w : World) (b : Nat) (s : Option (List Nat)) (h : Sc N w b s) : Calls Tryz.prog 21 #[ptr b] w fun e w' => e = .returned (.bool (decide (s = some []))) ∧ w' = w := by
  obtain ⟨p, c, bad, l, h1, _, _, _, h5, _⟩ := h.form
  have hc := h1.cell
  rcases h5 with ⟨rfl, rfl⟩ | ⟨rfl, rfl⟩
  · clear h h1
    go_enter Tryz.func21, Tryz.ntmps21
    go_wp2_with fail
    go_ret
    exact ⟨rfl, rfl⟩
  · cases l with
    | nil =>
      clear h h1
      go_enter Tryz.func21, Tryz.ntmps21
      go_wp2_with fail
      go_ret
      exact ⟨rfl, rfl⟩
    | cons x l =>
      have e0 : decide (some (x :: l) = some []) = false := decide_eq_false (by simp)
      rw [e0]
      have i1 : (((x :: l).length : Int) == 0) = false := beq_eq_false_iff_ne.2 (by simp; omega)
      generalize (x :: l).length = m at hc i1
      clear h h1 e0
      go_enter Tryz.func21, Tryz.ntmps21
      go_wp2_with fail
      go_ret
      exact ⟨rfl, rfl⟩
set_option maxRecDepth 100000 in
set_option maxHeartbeats 1000000 in
theorem getq_any (c k : Int) (l : List Nat) (v : Value) (w : World) (hr : Rb w v l) (hb : By l) (hT : Tks w) (hn : l.length ≤ 140737488351232) :
    Calls Tryz.prog 9 #[.agg #[I c, I k, v]] w (GqP c k l w) := by
  obtain ⟨p, cap, rfl⟩ := hr.form
  obtain ⟨w2, hw2⟩ : ∃ w2, w2 = (w.alloc (.cells #[I c, I k, .slice p l.length cap] 25)).alloc (.cells #[I 0, .slice none 0 0, .string { data := #[] }, .slice none 0 0] 33) := ⟨_, rfl⟩
  have hA2 : G w w2 := by rw [hw2]; exact ((G.refl w).alloc _).alloc _
  have hB2 : Blk w2 w.heap.size 25 [I c, I k, .slice p l.length cap] := by rw [hw2]; exact (Blk.new w [I c, I k, .slice p l.length cap] 25).G ((G.refl _).alloc _)
  have hC2 : Blk w2 (w.heap.size + 1) 33 [I 0, .slice none 0 0, .string { data := #[] }, .slice none 0 0] := by
    have := Blk.new (w.alloc (.cells #[I c, I k, .slice p l.length cap] 25)) [I 0, .slice none 0 0, .string { data := #[] }, .slice none 0 0] 33
    rw [hw2]
    simpa using this
  have HA := hide hA2
  have HW2 := hide hw2
  have HB := hide (And.intro hB2 hC2)
  have b2 := hB2.cell
  have b3 := hC2.cell
  have b4 := hC2.frozen
  have EW : (w.alloc (.cells #[I c, I k, .slice p l.length cap] 25)).alloc (.cells #[I 0, .slice none 0 0, .string { data := #[] }, .slice none 0 0] 33) = w2 := hw2.symm
  have HEW := hide EW
  have hbx := b2
  rw [hw2] at hbx
  by_cases c0 : c ≠ 0
  · have d0 : (c != 0) = true := bne_iff_ne.2 c0
    have HC : Hid (gqC c k l = c) := by show _ = _; unfold gqC; rw [if_pos c0]
    have HN0 := hide c0
    clear hr hb hT hn hA2 hB2 hC2 hw2 c0 EW
    go_enter Tryz.func9, Tryz.ntmps9
    go_wp2_with fail
    rw [HEW.out]
    clear hbx
    refine wp_region_noPanic ?_
    refine wp_region_held_drew (S := (fun V => ∀ o, V.cell? ⟨w.heap.size, o, none⟩ = ([I c, I k, .slice p l.length cap] : List Value)[o]?)) (by kernel_rfl) (HB.out.1.drew.cell) (fun hHeld => ?_)
    refine wpAnyH_take (i := 0) (v := ?_) rfl (by kernel_rfl) (by kernel_rfl) (by kernel_rfl) (fun _ _ _ h => h) (Or.inl ⟨by rfl, ?_⟩) hHeld ?_
    rotate_left 1
    · (intro w hSw; (try dsimp only at hSw); go_simp; try with_reducible rfl)
    try simp only [Act.put, List.getElem_toArray, List.getElem_cons_zero, List.setIfInBounds_toArray, List.set_cons_zero, List.set_cons_succ]
    refine wpAnyH_take (i := 1) (v := ?_) rfl (by kernel_rfl) (by kernel_rfl) (by kernel_rfl) (fun _ _ _ h => h) (Or.inl ⟨by rfl, ?_⟩) hHeld ?_
    rotate_left 1
    · (intro w hSw; (try dsimp only at hSw); go_simp; try with_reducible rfl)
    try simp only [Act.put, List.getElem_toArray, List.getElem_cons_zero, List.getElem_cons_succ, List.setIfInBounds_toArray, List.set_cons_zero, List.set_cons_succ]
    refine wpAnyH_take (i := 2) (v := ?_) rfl (by kernel_rfl) (by kernel_rfl) (by kernel_rfl) (fun _ _ _ h => h) (Or.inl ⟨by rfl, ?_⟩) hHeld ?_
    rotate_left 1
    · (intro w hSw; have q1 := hSw; go_simp; try with_reducible rfl)
    try simp only [Act.put, List.getElem_toArray, List.getElem_cons_zero, List.getElem_cons_succ, List.setIfInBounds_toArray, List.set_cons_zero, List.set_cons_succ]
    refine wpAnyH_ready (rs := [3]) (by kernel_rfl) (by simp) (AllReadyH.cons rfl (fun K hK => ?_) AllReadyH.nil)
    clear hHeld
    have hcR : ∀ o, w2.drew.cell? ⟨w.heap.size + 1, o, none⟩ = _ := HB.out.2.drew.cell
    have hzR := HB.out.2.drew.frozen
    go_simp
    have HQ : Hid (Blk (WS w2 (w.heap.size + 1) (I 0) (.slice none 0 0) (.string { data := #[] }) (.slice none 0 0)).drew w.heap.size 25 [I c, I k, .slice p l.length cap] ∧ Blk (WS w2 (w.heap.size + 1) (I 0) (.slice none 0 0) (.string { data := #[] }) (.slice none 0 0)).drew (w.heap.size + 1) 33 [I 0, .slice none 0 0, .string { data := #[] }, .slice none 0 0] ∧ G w (WS w2 (w.heap.size + 1) (I 0) (.slice none 0 0) (.string { data := #[] }) (.slice none 0 0)).drew) := by
      obtain ⟨q1, q2, q3, _⟩ := ws_set (I 0) (.slice none 0 0) (.string { data := #[] }) (.slice none 0 0) HB.out.1 HB.out.2 HA.out (Nat.le_succ _)
      exact ⟨q1.drew, q2.drew, q3.drew⟩
    clear hcR hzR
    generalize (WS w2 (w.heap.size + 1) (I 0) (.slice none 0 0) (.string { data := #[] }) (.slice none 0 0)).drew = x9 at HQ ⊢
    refine hK.out _ _ (HQ.out.1.cell) (fun hHeld => ?_)
    clear hK K
    try simp only [Act.put, List.getElem_toArray, List.getElem_cons_zero, List.getElem_cons_succ, List.setIfInBounds_toArray, List.set_cons_zero, List.set_cons_succ]
    refine wpAnyH_take (i := 4) (v := ?_) rfl (by kernel_rfl) (by kernel_rfl) (by kernel_rfl) (fun _ _ _ h => h) (Or.inl ⟨by rfl, ?_⟩) hHeld ?_
    rotate_left 1
    · (intro w hSw; (try dsimp only at hSw); go_simp; try with_reducible rfl)
    try simp only [Act.put, List.getElem_toArray, List.getElem_cons_zero, List.getElem_cons_succ, List.setIfInBounds_toArray, List.set_cons_zero, List.set_cons_succ]
    refine wpAnyH_done (by kernel_rfl) ?_ _
    refine NoPanic.normal ?_
    go_wp2_with fail
    exact bodyPost_ret_by (v := .tuple #[.agg #[I 0, .slice none 0 0, .string { data := #[] }, .slice none 0 0], I c]) (ret_q _ _ (w.heap.size + 1) [I 0, .slice none 0 0, .string { data := #[] }, .slice none 0 0] c rfl rfl HQ.out.2.1 rfl) rfl (GqP.bad c k l w x9 c HC.out HN0.out HQ.out.2.2)
  · have hc0 : c = 0 := Classical.not_not.1 c0
    subst hc0
    have KA := hide (asks_any k w2)
    have HZ : ∀ (x : World), Blk x w.heap.size 25 [I 0, I k, .slice p l.length cap] → Blk x (w.heap.size + 1) 33 [I 0, .slice none 0 0, .string { data := #[] }, .slice none 0 0] → G w x → ∀ y : Int, gqC 0 k l = y → y ≠ 0 → Hid (Blk (WS x (w.heap.size + 1) (I 0) (.slice none 0 0) (.string { data := #[] }) (.slice none 0 0)) (w.heap.size + 1) 33 [I 0, .slice none 0 0, .string { data := #[] }, .slice none 0 0] ∧ GqP 0 k l w (.returned (.tuple #[.agg #[I 0, .slice none 0 0, .string { data := #[] }, .slice none 0 0], I y])) (WS x (w.heap.size + 1) (I 0) (.slice none 0 0) (.string { data := #[] }) (.slice none 0 0))) := fun x h1 h2 h3 y h4 h5 => by
      obtain ⟨_, q2, q3, _⟩ := ws_set (I 0) (.slice none 0 0) (.string { data := #[] }) (.slice none 0 0) h1 h2 h3 (Nat.le_succ _)
      exact ⟨q2, GqP.bad 0 k l w _ y h4 h5 q3⟩
    by_cases cK : 1 ≤ k ∧ k ≤ 12
    · rw [decide_eq_true cK] at KA
      by_cases cl : 2097152 < l.length
      · have i1 : (2097152 : Int) < (l.length : Int) := by omega
        have HF := HZ w2 HB.out.1 HB.out.2 HA.out 163 (by unfold gqC; rw [if_neg (by simp), if_neg (not_not_intro cK), if_pos cl]) (by decide)
        clear hr hb hT hn hA2 hB2 hC2 hw2 c0 EW HZ cK cl
        go_enter Tryz.func9, Tryz.ntmps9
        go_wp2_with fail
        rw [HEW.out]
        clear hbx
        refine KA.out.mono ?_
        rintro e w3 ⟨rfl, rfl⟩
        clear KA
        go_wp2_with fail
        exact bodyPost_ret_by (v := .tuple #[.agg #[I 0, .slice none 0 0, .string { data := #[] }, .slice none 0 0], I 163]) (ret_q _ _ (w.heap.size + 1) [I 0, .slice none 0 0, .string { data := #[] }, .slice none 0 0] 163 rfl rfl HF.out.1 rfl) rfl HF.out.2
      · have i1 : ¬ (2097152 : Int) < (l.length : Int) := by omega
        have hs4 : Sc w2.heap.size (w2.alloc (.cells #[.slice p l.length cap, .bool false] 62)) w2.heap.size (some l) :=
          ⟨_, false, l, Blk.new w2 [.slice p l.length cap, .bool false] 62, (hr.G hA2).G ((G.refl w2).alloc _), hb, by omega, .inr ⟨rfl, rfl⟩, fun g o n c2 e q => by
            cases e
            obtain ⟨cs, q1, q2⟩ := (hr.G hA2).at (List.getElem?_eq_getElem (List.length_pos_iff.2 q))
            have q1 : cs = [bv _] := q1
            rw [q1] at q2
            exact cell_lt (q2 0 _ rfl)⟩
        have hA4 := (G.refl w2).alloc (.cells #[.slice p l.length cap, .bool false] 62)
        have hz4 := Blk.new w2 [.slice none 0 0, .bool false] 62
        have z4 := hz4.cell
        have z5 := hz4.frozen
        have KR := hide (request2_any w2.heap.size _ w2.heap.size (some l) k hs4 hA4.size)
        have hB4 := HB.out.1.G hA4
        have hC4 := HB.out.2.G hA4
        have b5 := hB4.cell
        have H4 := hide (And.intro hB4 (And.intro hC4 (And.intro (HA.out.trans hA4) (hT.G (HA.out.trans hA4)))))
        have HK := hide (And.intro cK cl)
        have HTL : Hid (∀ kk, kk < 13 → 0 < w2.heap.size) := fun kk hkk => Nat.lt_of_lt_of_le (cell_lt (hT kk hkk)) hA2.size
        clear hr hb hT hn hA2 hB2 hC2 hw2 c0 EW cK cl hs4 hA4 hz4 hB4 hC4
        go_enter Tryz.func9, Tryz.ntmps9
        go_wp2_with fail
        rw [HEW.out]
        clear hbx
        refine KA.out.mono ?_
        rintro e w3 ⟨rfl, rfl⟩
        clear KA
        go_wp2_with fail
        generalize w3.alloc (.cells #[.slice p l.length cap, .bool false] 62) = w4 at KR H4 b5 ⊢
        refine KR.out.mono ?_
        rintro e w5 ⟨v5, rfl, hc5, hs5, ⟨ja, jn, jc, jt, ja', jn', jc', rfl⟩, hv5⟩
        obtain ⟨hB4, hC4, hg4, hT4⟩ := H4.out
        have hsz : w.heap.size + 1 < w3.heap.size := by
          have := HB.out.2.lt
          exact this
        have hA6 := (G.refl w5).alloc (.cells #[I k, .slice ja jn jc, .string jt, .slice ja' jn' jc'] 33)
        have hB5 := (hB4.chg hc5 (by omega : ¬ w.heap.size = w3.heap.size)).G hA6
        have hC5 := (hC4.chg hc5 (by omega : ¬ w.heap.size + 1 = w3.heap.size)).G hA6
        have hQ5 := Blk.new w5 [I k, .slice ja jn jc, .string jt, .slice ja' jn' jc'] 33
        have hg5 : G w w5 := ⟨hc5.os.trans hg4.os, hc5.tape.trans hg4.tape, hc5.output.trans hg4.output, Nat.le_trans hg4.size hc5.size, fun i hi => (hc5.block i (Nat.lt_of_lt_of_le hi hg4.size) (by omega)).trans (hg4.block i hi)⟩
        have KU := hide (used_any w3.heap.size _ w3.heap.size _ (hs5.G hA6))
        have hz6 := Blk.new w5 [I 0, .slice none 0 0, .string { data := #[] }, .slice none 0 0] 33
        have z6 := hz6.cell
        have z7 := hz6.frozen
        have b6 := hB5.cell
        have q6 := hQ5.cell
        have HC4 : Hid (w.heap.size + 1 < w4.heap.size) := hC4.lt
        have H6 := hide (And.intro hB5 (And.intro hC5 (And.intro (hg5.trans hA6) (And.intro hQ5 (fun q l' e (F : Nat → Prop) w9 (hF : ∀ k, F k → k < w4.heap.size) (hch : Chg F (w5.alloc (.cells #[I k, .slice ja jn jc, .string jt, .slice ja' jn' jc'] 33)) w9) => hv5 q l' e F w9 hF (hA6.chg.trans hch))))))
        have HT6 : Hid (Tks (w5.alloc (.cells #[I k, .slice ja jn jc, .string jt, .slice ja' jn' jc'] 33))) := by
          intro kk hkk
          have h1 := hT4 kk hkk
          have h2 := hc5.block _ (cell_lt h1) (by
            intro e
            obtain ⟨_, _, _, bb⟩ := hs5.bad
            have h4 : w4.cell? ⟨0, kk, none⟩ = some _ := h1
            have h3 := HTL.out kk hkk
            omega)
          have h5 : w5.cell? ⟨0, kk, none⟩ = some (I (tkN kk)) := by
            unfold World.cell? at h1 ⊢
            rw [h2]; exact h1
          rw [hA6.cell (cell_lt h5)]; exact h5
        clear hB4 hC4 hg4 hT4 hsz hA6 hB5 hC5 hQ5 hg5 hc5 hs5 hv5 hz6 KR H4
        go_wp2_with fail
        generalize w5.alloc (.cells #[I k, .slice ja jn jc, .string jt, .slice ja' jn' jc'] 33) = w6 at KU H6 HT6 b6 q6 ⊢
        clear z6 z7
        refine KU.out.mono ?_
        rintro e w7 ⟨rfl, rfl⟩
        clear KU
        obtain ⟨hB6, hC6, hg6, hQ6, hv6⟩ := H6.out
        by_cases cU : ((some l).bind (pq k)).map (·.2) = some []
        · rw [decide_eq_true cU]
          obtain ⟨q, hq⟩ : ∃ q, pq k l = some (q, []) := by
            cases e : pq k l with
            | none => rw [show (some l).bind (pq k) = pq k l from rfl, e] at cU; cases cU
            | some x =>
              rw [show (some l).bind (pq k) = pq k l from rfl, e] at cU
              have : x.2 = [] := Option.some.inj cU
              exact ⟨x.1, by rw [← this]⟩
          have hqv := hv6 q [] hq (fun _ => False) w7 (fun _ h => h.elim) (Chg.refl _ _)
          have hqk : q.k = k := pq_k hq
          have KM := hide (may_any w7 _ q hqv HT6.out (by rw [hqk]; exact HK.out.1))
          have hgB : gqB k l = if q.may then some q else none := by unfold gqB; rw [hq]
          cases hm : q.may with
          | false =>
            rw [hm] at KM hgB
            have hcd : gqC 0 k l = 163 := by unfold gqC; rw [if_neg (by simp), if_neg (not_not_intro HK.out.1), if_neg HK.out.2, hgB]; rfl
            have HZZ := hide (fun (w8 : World) (g : G w7 w8) => (HZ w8 (hB6.G g) (hC6.G g) (hg6.trans g) 163 hcd (by decide)).out)
            have HBC := hide (And.intro hC6 hQ6)
            clear hB6 hC6 hg6 hQ6 hv6 cU hqv hqk hgB hm hcd HZ H6
            go_wp2_with fail
            refine KM.out.mono ?_
            rintro e w8 ⟨rfl, g8⟩
            have HF := hide (HZZ.out w8 g8)
            have hC8 := HBC.out.1.G g8
            have r8 := hC8.cell
            have r9 := hC8.frozen
            clear g8 KM HZZ hC8
            go_wp2_with fail
            exact bodyPost_ret_by (v := .tuple #[.agg #[I 0, .slice none 0 0, .string { data := #[] }, .slice none 0 0], I 163]) (ret_q _ _ (w.heap.size + 1) [I 0, .slice none 0 0, .string { data := #[] }, .slice none 0 0] 163 rfl rfl HF.out.1 rfl) rfl HF.out.2
          | true =>
            rw [hm] at KM hgB
            have hcd : gqC 0 k l = 0 := by unfold gqC; rw [if_neg (by simp), if_neg (not_not_intro HK.out.1), if_neg HK.out.2, hgB]; rfl
            have hqq : gqQ 0 k l = q := by unfold gqQ; rw [hcd, if_pos rfl, hgB]; rfl
            have HZZ : Hid (∀ w8, G w7 w8 → Blk (WS w8 (w.heap.size + 1) (I k) (.slice ja jn jc) (.string jt) (.slice ja' jn' jc')) (w.heap.size + 1) 33 [I k, .slice ja jn jc, .string jt, .slice ja' jn' jc'] ∧ GqP 0 k l w (.returned (.tuple #[.agg #[I k, .slice ja jn jc, .string jt, .slice ja' jn' jc'], I 0])) (WS w8 (w.heap.size + 1) (I k) (.slice ja jn jc) (.string jt) (.slice ja' jn' jc'))) := fun w8 g => by
              obtain ⟨_, q2, q3, q4⟩ := ws_set (I k) (.slice ja jn jc) (.string jt) (.slice ja' jn' jc') (hB6.G g) (hC6.G g) (hg6.trans g) (Nat.le_succ _)
              refine ⟨q2, _, by rw [hcd], fun F w9 hF hch => ?_, q3⟩
              rw [hqq]
              exact hv6 q [] hq (fun k => k = w.heap.size + 1 ∨ F k) _ (fun k hk => by
                have h4 := HC4.out
                rcases hk with hk | hk
                · omega
                · have := hF k hk; omega) (((g.chg).trans (q4.mono (fun _ h => .inl h))).trans (hch.mono (fun _ h => .inr h)))
            have HBC := hide (And.intro hC6 hQ6)
            clear hB6 hC6 hg6 hQ6 hv6 cU hqv hqk hgB hm hcd hqq HZ H6
            go_wp2_with fail
            refine KM.out.mono ?_
            rintro e w8 ⟨rfl, g8⟩
            have HF := hide (HZZ.out w8 g8)
            have hC8 := HBC.out.1.G g8
            have r8 := hC8.cell
            have r9 := hC8.frozen
            have hQ8 := HBC.out.2.G g8
            have t8 := hQ8.cell
            clear g8 KM HZZ hC8 hQ8
            go_wp2_with fail
            exact bodyPost_ret_by (v := .tuple #[.agg #[I k, .slice ja jn jc, .string jt, .slice ja' jn' jc'], I 0]) (ret_q _ _ (w.heap.size + 1) [I k, .slice ja jn jc, .string jt, .slice ja' jn' jc'] 0 rfl rfl HF.out.1 rfl) rfl HF.out.2
        · rw [decide_eq_false cU]
          have hcd : gqC 0 k l = 163 := by
            have hgB : gqB k l = none := by
              unfold gqB
              cases e : pq k l with
              | none => rfl
              | some x =>
                obtain ⟨x1, x2⟩ := x
                cases x2 with
                | nil => exact absurd (by rw [show (some l).bind (pq k) = pq k l from rfl, e]; rfl) cU
                | cons a r => rfl
            unfold gqC
            rw [if_neg (by simp), if_neg (not_not_intro HK.out.1), if_neg HK.out.2, hgB]; rfl
          have HF := HZ w7 hB6 hC6 hg6 163 hcd (by decide)
          have r8 := hC6.cell
          have r9 := hC6.frozen
          clear hB6 hC6 hg6 hQ6 hv6 cU hcd HZ H6
          go_wp2_with fail
          exact bodyPost_ret_by (v := .tuple #[.agg #[I 0, .slice none 0 0, .string { data := #[] }, .slice none 0 0], I 163]) (ret_q _ _ (w.heap.size + 1) [I 0, .slice none 0 0, .string { data := #[] }, .slice none 0 0] 163 rfl rfl HF.out.1 rfl) rfl HF.out.2
    · rw [decide_eq_false cK] at KA
      have HF := HZ w2 HB.out.1 HB.out.2 HA.out 162 (by unfold gqC; rw [if_neg (by simp), if_pos cK]) (by decide)
      clear hr hb hT hn hA2 hB2 hC2 hw2 c0 EW HZ cK
      go_enter Tryz.func9, Tryz.ntmps9
      go_wp2_with fail
      rw [HEW.out]
      clear hbx
      refine KA.out.mono ?_
      rintro e w3 ⟨rfl, rfl⟩
      clear KA
      go_wp2_with fail
      exact bodyPost_ret_by (v := .tuple #[.agg #[I 0, .slice none 0 0, .string { data := #[] }, .slice none 0 0], I 162]) (ret_q _ _ (w.heap.size + 1) [I 0, .slice none 0 0, .string { data := #[] }, .slice none 0 0] 162 rfl rfl HF.out.1 rfl) rfl HF.out.2
end Go.Proofs.YtcdjjmjhdoanlaaGreatDoor
