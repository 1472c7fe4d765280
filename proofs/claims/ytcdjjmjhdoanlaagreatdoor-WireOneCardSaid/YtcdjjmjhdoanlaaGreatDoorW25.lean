/- Wire: a request, read. -/
import Derived.Test.YtcdjjmjhdoanlaaGreatDoorW24
import Derived.Test.YtcdjjmjhdoanlaaGreatDoorW13
namespace Go.Proofs.YtcdjjmjhdoanlaaGreatDoor
open Go.RowKit

theorem GetP.sc {α : Type} {N : Nat} {p : List Nat → Option (α × List Nat)} {R : World → Value → α → Prop} {J : World → Value → Prop} {b : Nat} {w w' : World} {s : Option (List Nat)} {e : Ending} (h : GetP N p R J b w s e w') :
    ∃ v', e = .returned v' ∧ Cb b w w' ∧ Sc N w' b ((s.bind p).map (·.2)) ∧ (∀ x l', s.bind p = some (x, l') → R w' v' x) ∧ (s.bind p = none → J w' v') := by
  obtain ⟨v', h1, h2, ⟨x, l', hp, hs, hr⟩ | ⟨hp, hs, hj⟩⟩ := h
  · exact ⟨v', h1, h2, by rw [hp]; exact hs, (fun y m e => by rw [hp] at e; cases e; exact hr), (fun e => by rw [hp] at e; cases e)⟩
  · exact ⟨v', h1, h2, by rw [hp]; exact hs, (fun y m e => by rw [hp] at e; cases e), fun _ => hj⟩
theorem Sc.far {N : Nat} {F : Nat → Prop} {w w' : World} {b : Nat} {s : Option (List Nat)} (h : Sc N w b s) (hF : ∀ k, F k → N ≤ k ∧ k ≠ b) (hc : Chg F w w') : Sc N w' b s := by
  obtain ⟨p, c, bad, l, h1, h2, h3, h4, h5, h6⟩ := h.form
  refine ⟨_, bad, l, h1.chg hc (fun q => (hF b q).2 rfl), ?_, h3, h4, h5, h6⟩
  obtain ⟨p0, c0, e, q1, q2, hr⟩ := h2
  cases e
  refine ⟨p, c, rfl, q1, q2, fun i x hx => ?_⟩
  obtain ⟨g, o, cs, e1, e2, e3⟩ := hr i x hx
  subst e1
  have hg := h6 g o _ _ rfl (fun e0 => by rw [e0] at hx; simp at hx)
  refine ⟨g, o, cs, rfl, e2, fun j u hj => ?_⟩
  have h7 := e3 j u hj
  have h8 := cell_lt h7
  unfold World.cell? at h7 ⊢
  rw [hc.block g h8 (fun q => by have := (hF g q).1; omega)]
  exact h7
theorem sc_len {N : Nat} {w : World} {b : Nat} {l : List Nat} (h : Sc N w b (some l)) : l.length ≤ 2097152 := by
  obtain ⟨_, _, _, l2, _, _, _, h4, h5, _⟩ := h.form
  rcases h5 with ⟨_, q⟩ | ⟨_, q⟩
  · cases q
  · cases q; exact h4
theorem prep_len {α : Type} (p : List Nat → Option (α × List Nat)) : ∀ (n : Nat) (r r' : List Nat) (xs : List α), prep p n r = some (xs, r') → xs.length = n
  | 0, r, r', xs, h => by simp [prep] at h; rw [h.1]; rfl
  | n + 1, r, r', xs, h => by
    rw [prep] at h
    cases e : p r with
    | none => rw [e] at h; cases h
    | some x =>
      rw [e] at h
      have h : ((prep p n x.2).map fun y => (x.1 :: y.1, y.2)) = some (xs, r') := h
      cases e2 : prep p n x.2 with
      | none => rw [e2] at h; cases h
      | some y =>
        rw [e2] at h
        cases h
        have := prep_len p n x.2 y.2 y.1 e2
        simp [this]
theorem pl_len {α : Type} (p : List Nat → Option (α × List Nat)) {l r : List Nat} {xs : List α} (h : pl p l = some (xs, r)) : xs.length ≤ l.length := by
  unfold pl at h
  cases e : pc l with
  | none => rw [e] at h; cases h
  | some x =>
    rw [e] at h
    have h : (if x.2.length < x.1 then none else prep p x.1 x.2) = some (xs, r) := h
    split at h
    · cases h
    · have h1 := prep_len p _ _ _ _ h
      obtain ⟨a, h2, _⟩ := pc_suf e
      rw [h2, List.length_append]; omega
theorem pt_len {l : List Nat} {y : ByteArray × List Nat} (h : pt l = some y) : y.1.size ≤ l.length := by
  unfold pt px at h
  cases e : pc l with
  | none => rw [e] at h; cases h
  | some x =>
    rw [e] at h
    have h : ((ptk x.1 x.2).map fun z => (strOf z.1, z.2)) = some y := h
    obtain ⟨a, h2, _⟩ := pc_suf e
    unfold ptk at h
    split at h
    · cases h
      show (strOf _).size ≤ _
      have : (strOf (x.2.take x.1)).size = (x.2.take x.1).length := by unfold strOf; simp [ByteArray.size]
      rw [this, h2, List.length_append, List.length_take]; omega
    · cases h
theorem pb_len {l : List Nat} {z : List Bool × List Nat} (h : pb l = some z) : z.1.length ≤ 4096 := by
  unfold pb at h
  cases e : pc l with
  | none => rw [e] at h; cases h
  | some x =>
    rw [e] at h
    have h : (if 4096 < x.1 then none else (ptk ((x.1 + 7) / 8) x.2).bind fun y => if okk y.1 x.1 (8 * y.1.length) then some (bitsL y.1 x.1, y.2) else none) = some z := h
    split at h
    · cases h
    · cases e2 : ptk ((x.1 + 7) / 8) x.2 with
      | none => rw [e2] at h; cases h
      | some y =>
        rw [e2] at h
        have h : (if okk y.1 x.1 (8 * y.1.length) then some (bitsL y.1 x.1, y.2) else none) = some z := h
        split at h
        · cases h; simp [bitsL]; omega
        · cases h
/-- A request's body, read. -/
def pq (k : Int) (l : List Nat) : Option (Rq × List Nat) := (pl pz l).bind fun x => (pt x.2).bind fun y => (pb y.2).bind fun z => some (⟨k, x.1, y.1, z.1⟩, z.2)
theorem pq_eq (k : Int) (s : Option (List Nat)) : s.bind (pq k) = (s.bind (pl pz)).bind fun x => ((some x.2).bind pt).bind fun y => ((some y.2).bind pb).bind fun z => some (⟨k, x.1, y.1, z.1⟩, z.2) := by
  cases s with
  | none => rfl
  | some l => rfl
def RqJ (v : Value) (k : Int) : Prop := ∃ a n c t a' n' c', v = .agg #[I k, .slice a n c, .string t, .slice a' n' c']
theorem Sw.cb {α : Type} {E : Enc α} {ty : TypeId} {w w' : World} {b : Nat} {v : Value} {l : List α} {xs : List Value} (h : Sw E ty w v l) (hb : Blk w b 62 xs) (ht : ty ≠ 62) (hc : Cb b w w') : Sw E ty w' v l := h.chg hc (fun k hk e => by subst e; exact h.ne hb ht hk)
set_option maxRecDepth 100000 in
set_option maxHeartbeats 1000000 in
theorem request2_any (N : Nat) (w : World) (b : Nat) (s : Option (List Nat)) (k : Int) (h : Sc N w b s) (hN : N ≤ w.heap.size) :
    Calls Tryz.prog 20 #[ptr b, I k] w fun e w' => ∃ v', e = .returned v' ∧ Cb b w w' ∧ Sc N w' b ((s.bind (pq k)).map (·.2)) ∧ RqJ v' k ∧ (∀ q l', s.bind (pq k) = some (q, l') → ∀ (F : Nat → Prop) w9, (∀ k, F k → k < w.heap.size) → Chg F w' w9 → RqV w9 v' q) := by
  obtain ⟨pb0, nb0, cb0, bb0⟩ := h.bad
  have hbl := bb0.lt
  obtain ⟨w2, hw2⟩ : ∃ w2, w2 = (w.alloc (.cells #[I 0, .slice none 0 0, .string { data := #[] }, .slice none 0 0] 33)).alloc (.cells #[I k, .slice none 0 0, .string { data := #[] }, .slice none 0 0] 33) := ⟨_, rfl⟩
  have hA2 : G w w2 := by rw [hw2]; exact ((G.refl w).alloc _).alloc _
  have hR2 : Blk w2 w.heap.size 33 [I 0, .slice none 0 0, .string { data := #[] }, .slice none 0 0] := by rw [hw2]; exact (Blk.new w [I 0, .slice none 0 0, .string { data := #[] }, .slice none 0 0] 33).G ((G.refl _).alloc _)
  have hQ2 : Blk w2 (w.heap.size + 1) 33 [I k, .slice none 0 0, .string { data := #[] }, .slice none 0 0] := by
    have := Blk.new (w.alloc (.cells #[I 0, .slice none 0 0, .string { data := #[] }, .slice none 0 0] 33)) [I k, .slice none 0 0, .string { data := #[] }, .slice none 0 0] 33
    rw [hw2]
    simpa using this
  have K1 := hide (getI_any N w2 b s (h.G hA2) (Nat.le_trans hN hA2.size))
  have HB := hide (And.intro hR2 hQ2)
  have HA := hide hA2
  have HW2 := hide hw2
  have HBL := hide hbl
  have H0L : Hid (∀ x l', s.bind (pl pz) = some (x, l') → x.length ≤ 2097152) := fun x l' e => by
    cases s with
    | none => cases e
    | some l => have h1 := sc_len h; have h2 := pl_len pz (show pl pz l = some (x, l') from e); omega
  have hz1 := (Blk.new (w.alloc (.cells #[I 0, .slice none 0 0, .string { data := #[] }, .slice none 0 0] 33)) [I 0, .slice none 0 0, .string { data := #[] }, .slice none 0 0] 33)
  have k1 := hz1.cell
  have f1 := hz1.frozen
  simp at k1 f1
  clear h hA2 hR2 hQ2 bb0 hbl hz1
  go_enter Tryz.func20, Tryz.ntmps20
  go_wp2_with fail
  rw [show (w.alloc (.cells #[I 0, .slice none 0 0, .string { data := #[] }, .slice none 0 0] 33)).alloc (.cells #[I k, .slice none 0 0, .string { data := #[] }, .slice none 0 0] 33) = w2 from HW2.out.symm]
  refine K1.out.mono ?_
  intro e w3 hg
  obtain ⟨v3, rfl, hc3, hs3, hr3, hj3⟩ := hg.sc
  clear hg K1 k1 f1
  obtain ⟨a3, n3, c3, rfl⟩ : ∃ a n c, v3 = .slice a n c := by
    cases e : s.bind (pl pz) with
    | none => exact hj3 e
    | some x => obtain ⟨q, _⟩ := hr3 x.1 x.2 e; obtain ⟨a, c, q⟩ := q.form; exact ⟨_, _, _, q⟩
  have hbl := HBL.out
  have hr3b := HB.out.1.chg hc3 (F := fun k => k = b) (by omega)
  have hq3b := HB.out.2.chg hc3 (F := fun k => k = b) (by omega)
  have k3 := hq3b.cell
  have f3 := hq3b.frozen
  have hq4 := hq3b.set 1 (.slice a3 n3 c3)
  have hr4 := hr3b.off (b := w.heap.size + 1) (o := 1) (v := .slice a3 n3 c3) (by omega)
  have hch4 : Chg (fun k => k = w.heap.size + 1) w3 (w3.setCell ⟨w.heap.size + 1, 1, none⟩ (.slice a3 n3 c3)) := chg_setCell w3 _ (.inl rfl)
  have hs4 := hs3.far (F := fun k => k = w.heap.size + 1) (fun k hk => by omega) hch4
  have hv4 : ∀ x l', s.bind (pl pz) = some (x, l') → Sw eI 2 (w3.setCell ⟨w.heap.size + 1, 1, none⟩ (.slice a3 n3 c3)) (.slice a3 n3 c3) x ∧ (∀ y ∈ x, R64 y) ∧ Fresh w (.slice a3 n3 c3) := fun x l' e => by
    obtain ⟨q1, q2, q3⟩ := hr3 x l' e
    exact ⟨q1.off (q1.ne hq3b (by decide)), q3, q2.old HA.out⟩
  have hcw4 : Cb b w (w3.setCell ⟨w.heap.size + 1, 1, none⟩ (.slice a3 n3 c3)) := ((HA.out.chg.trans hc3).more hch4 (fun k hk e => by omega))
  have K2 := hide (text2_any N _ b _ hs4)
  have H4S := hide hs4
  have H4 := hide (And.intro hq4 (And.intro hr4 (And.intro hv4 (And.intro hcw4 hs4))))
  clear hc3 hs3 hr3 hj3 hr3b hq3b hq4 hr4 hch4 hs4 hv4 hcw4 HB hbl
  go_wp2_with fail
  generalize w3.setCell ⟨w.heap.size + 1, 1, none⟩ (.slice a3 n3 c3) = w4 at K2 H4 H4S ⊢
  clear k3 f3
  refine K2.out.mono ?_
  intro e w5 hg
  obtain ⟨v5, rfl, hc5, hs5, hr5, hj5⟩ := hg.sc
  clear hg K2
  obtain ⟨t5, rfl⟩ : ∃ t, v5 = .string t := by
    cases e : ((s.bind (pl pz)).map (·.2)).bind pt with
    | none => exact ⟨_, hj5 e⟩
    | some x => exact ⟨_, hr5 x.1 x.2 e⟩
  obtain ⟨hq4, hr4, hv4, hcw4, hs4⟩ := H4.out
  have hbl := HBL.out
  obtain ⟨_, _, _, bb4⟩ := hs4.bad
  have hr5b := hr4.chg hc5 (F := fun k => k = b) (by omega)
  have hq5b := hq4.chg hc5 (F := fun k => k = b) (by omega)
  have k5 := hq5b.cell
  have f5 := hq5b.frozen
  have hq6 := hq5b.set 2 (.string t5)
  have hr6 := hr5b.off (b := w.heap.size + 1) (o := 2) (v := .string t5) (by omega)
  have hch6 : Chg (fun k => k = w.heap.size + 1) w5 (w5.setCell ⟨w.heap.size + 1, 2, none⟩ (.string t5)) := chg_setCell w5 _ (.inl rfl)
  have hs6 := hs5.far (F := fun k => k = w.heap.size + 1) (fun k hk => by omega) hch6
  have hv6 : ∀ x l', s.bind (pl pz) = some (x, l') → Sw eI 2 (w5.setCell ⟨w.heap.size + 1, 2, none⟩ (.string t5)) (.slice a3 n3 c3) x ∧ (∀ y ∈ x, R64 y) ∧ Fresh w (.slice a3 n3 c3) := fun x l' e => by
    obtain ⟨q1, q3, q4⟩ := hv4 x l' e
    have q2 := q1.cb bb4 (by decide) hc5
    exact ⟨q2.off (q2.ne hq5b (by decide)), q3, q4⟩
  have hcw6 : Cb b w (w5.setCell ⟨w.heap.size + 1, 2, none⟩ (.string t5)) := (hcw4.trans hc5).more hch6 (fun k hk e => by omega)
  have K3 := hide (bits2_any N _ b _ hs6)
  have H6 := hide (And.intro hq6 (And.intro hr6 (And.intro hv6 (And.intro hcw6 (And.intro hs6 (And.intro hr5 hj5))))))
  clear hc5 hs5 hr5 hj5 hr5b hq5b hq6 hr6 hch6 hs6 hv6 hcw6 hq4 hr4 hv4 hcw4 hs4 bb4 H4 hbl
  go_wp2_with fail
  generalize w5.setCell ⟨w.heap.size + 1, 2, none⟩ (.string t5) = w6 at K3 H6 ⊢
  clear k5 f5
  refine K3.out.mono ?_
  intro e w7 hg
  obtain ⟨v7, rfl, hc7, hs7, hr7, hj7⟩ := hg.sc
  clear hg K3
  obtain ⟨a7, n7, c7, rfl⟩ : ∃ a n c, v7 = .slice a n c := by
    cases e : ((((s.bind (pl pz)).map (·.2)).bind pt).map (·.2)).bind pb with
    | none => exact hj7 e
    | some x => obtain ⟨a, c, q⟩ := (hr7 x.1 x.2 e).1.form; exact ⟨_, _, _, q⟩
  obtain ⟨hq6, hr6, hv6, hcw6, hs6, hr5, hj5⟩ := H6.out
  have hbl := HBL.out
  obtain ⟨_, _, _, bb6⟩ := hs6.bad
  have hr7b := hr6.chg hc7 (F := fun k => k = b) (by omega)
  have hq7b := hq6.chg hc7 (F := fun k => k = b) (by omega)
  have k7 := hq7b.cell
  have f7 := hq7b.frozen
  have hq8 : Blk (w7.setCell ⟨w.heap.size + 1, 3, none⟩ (.slice a7 n7 c7)) (w.heap.size + 1) 33 [I k, .slice a3 n3 c3, .string t5, .slice a7 n7 c7] := hq7b.set 3 (.slice a7 n7 c7)
  have hr8 : Blk (w7.setCell ⟨w.heap.size + 1, 3, none⟩ (.slice a7 n7 c7)) w.heap.size 33 [I 0, .slice none 0 0, .string { data := #[] }, .slice none 0 0] := hr7b.off (by omega)
  have k8 := hq8.cell
  have m8 := hr8.cell
  have g8 := hr8.frozen
  have HR8 := hide hr8
  have HFIN : Hid (∀ w9, Chg (fun k => k = w.heap.size) (w7.setCell ⟨w.heap.size + 1, 3, none⟩ (.slice a7 n7 c7)) w9 → Cb b w w9 ∧ Sc N w9 b ((s.bind (pq k)).map (·.2)) ∧ RqJ (.agg #[I k, .slice a3 n3 c3, .string t5, .slice a7 n7 c7]) k ∧ (∀ q l', s.bind (pq k) = some (q, l') → ∀ (F : Nat → Prop) w10, (∀ k, F k → k < w.heap.size) → Chg F w9 w10 → RqV w10 (.agg #[I k, .slice a3 n3 c3, .string t5, .slice a7 n7 c7]) q)) := fun w9 hch9 => by
    have hch8 : Chg (fun k => k = w.heap.size + 1) w7 (w7.setCell ⟨w.heap.size + 1, 3, none⟩ (.slice a7 n7 c7)) := chg_setCell w7 _ (.inl rfl)
    have hs8 := hs7.far (F := fun k => k = w.heap.size + 1) (fun k hk => by omega) hch8
    have hs9 := hs8.far (F := fun k => k = w.heap.size) (fun k hk => by omega) hch9
    have est : (((((s.bind (pl pz)).map (·.2)).bind pt).map (·.2)).bind pb).map (·.2) = (s.bind (pq k)).map (·.2) := by
      rw [pq_eq]
      cases s.bind (pl pz) with
      | none => rfl
      | some x =>
        show (((pt x.2).map (·.2)).bind pb).map (·.2) = ((pt x.2).bind fun y => ((some y.2).bind pb).bind fun z => some ((⟨k, x.1, y.1, z.1⟩ : Rq), z.2)).map (·.2)
        cases pt x.2 with
        | none => rfl
        | some y =>
          show (pb y.2).map (·.2) = ((pb y.2).bind fun z => some ((⟨k, x.1, y.1, z.1⟩ : Rq), z.2)).map (·.2)
          cases pb y.2 with
          | none => rfl
          | some z => rfl
    rw [est] at hs9
    refine ⟨((hcw6.trans hc7).more hch8 (fun k hk e => by omega)).more hch9 (fun k hk e => by omega), hs9, ⟨_, _, _, _, _, _, _, rfl⟩, fun q l' e F w10 hF hch10 => ?_⟩
    rw [pq_eq] at e
    cases e1 : s.bind (pl pz) with
    | none => rw [e1] at e; cases e
    | some x =>
      rw [e1] at e hr5 hr7
      have e : ((pt x.2).bind fun y => ((some y.2).bind pb).bind fun z => some ((⟨k, x.1, y.1, z.1⟩ : Rq), z.2)) = some (q, l') := e
      cases e2 : pt x.2 with
      | none => rw [e2] at e; cases e
      | some y =>
        rw [e2] at e
        have e : ((pb y.2).bind fun z => some ((⟨k, x.1, y.1, z.1⟩ : Rq), z.2)) = some (q, l') := e
        cases e3 : pb y.2 with
        | none => rw [e3] at e; cases e
        | some z =>
          rw [e3] at e
          have e : some ((⟨k, x.1, y.1, z.1⟩ : Rq), z.2) = some (q, l') := e
          cases e
          have ht : t5 = y.1 := by
            have := hr5 y.1 y.2 (show (pt x.2) = _ by rw [e2])
            cases this; rfl
          obtain ⟨hz, hzf⟩ := hr7 z.1 z.2 (show (((pt x.2).map (·.2)).bind pb) = _ by rw [e2]; exact e3)
          obtain ⟨hx1, hx2, hxf⟩ := hv6 x.1 x.2 e1
          have hx7 := hx1.cb bb6 (by decide) hc7
          have hx8 := hx7.off (b := w.heap.size + 1) (o := 3) (u := .slice a7 n7 c7) (hx7.ne hq7b (by decide))
          have hx9 := hx8.chg hch9 (fun k hk e => by subst e; exact hx8.ne hr8 (by decide) hk)
          have hz8 := hz.off (b := w.heap.size + 1) (o := 3) (u := .slice a7 n7 c7) (hz.ne hq7b (by decide))
          have hz9 := hz8.chg hch9 (fun k hk e => by subst e; exact hz8.ne hr8 (by decide) hk)
          have hx10 := hx9.chg hch10 (fun k hk q => by have h1 := hF k q; have h2 := hxf k hk; omega)
          have hz10 := hz9.chg hch10 (fun k hk q => by have h1 := hF k q; have h2 := hzf k hk; have h3 := hcw6.size; omega)
          have l1 := H0L.out x.1 x.2 e1
          have l2 := sc_len (show Sc N w4 b (some x.2) by have := H4S.out; rw [e1] at this; exact this)
          refine ⟨⟨_, _, by rw [ht], hx10.toRow, hz10.toRow⟩, hx2, ?_, ?_, ?_⟩
          · show x.1.length ≤ _; omega
          · show y.1.size ≤ _; have := pt_len e2; omega
          · show z.1.length ≤ _; have := pb_len e3; omega
  clear hc7 hs7 hr7 hj7 hq6 hr6 hv6 hcw6 hs6 hr5 hj5 hbl bb6 hr7b hq7b hq8 hr8 H6
  go_wp2_with fail
  have hC9 := (((HR8.out.set 0 (I k)).set 1 (.slice a3 n3 c3)).set 2 (.string t5)).set 3 (.slice a7 n7 c7)
  have hF := HFIN.out _ ((((chg_setCell (F := fun k => k = w.heap.size) (b := w.heap.size) (o := 0) _ (I k) (.inl rfl)).trans (chg_setCell (F := fun k => k = w.heap.size) (b := w.heap.size) (o := 1) _ (.slice a3 n3 c3) (.inl rfl))).trans (chg_setCell (F := fun k => k = w.heap.size) (b := w.heap.size) (o := 2) _ (.string t5) (.inl rfl))).trans (chg_setCell (F := fun k => k = w.heap.size) (b := w.heap.size) (o := 3) _ (.slice a7 n7 c7) (.inl rfl)))
  exact bodyPost_ret_by (v := .agg #[I k, .slice a3 n3 c3, .string t5, .slice a7 n7 c7]) (results_cell_row Tryz.results20 _ _ w.heap.size 33 _ (0, 0) _ rfl hC9.h Tryz.underlying33 rfl (by kernel_rfl)) rfl ⟨_, rfl, hF.1, hF.2.1, hF.2.2.1, hF.2.2.2⟩
end Go.Proofs.YtcdjjmjhdoanlaaGreatDoor
