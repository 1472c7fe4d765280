/- Wire: values, read. -/
import Derived.Test.YtcdjjmjhdoanlaaGreatDoorW41
import Derived.Test.YtcdjjmjhdoanlaaGreatDoorValidSame
namespace Go.Proofs.YtcdjjmjhdoanlaaGreatDoor
open Go.RowKit

/-- A value. -/
structure Vl where
  k : Int
  a : Int
  b : Int
  s : ByteArray
abbrev eV : Enc Vl := ⟨fun x => [I x.k, I x.a, I x.b, .string x.s], 4, fun _ => rfl, fun _ u hu => by simp at hu; rcases hu with rfl | rfl | rfl | rfl <;> rfl⟩
def chkV (k a b : Int) (s : ByteArray) (r : List Nat) : Option (Vl × List Nat) := if okV k a b s = true then some (⟨k, a, b, s⟩, r) else none
def pvK (k : Nat) (r : List Nat) : Option (Vl × List Nat) :=
  if k = 1 then (p8 r).bind fun z => chkV 1 z.1 0 E0 z.2
  else if k = 2 ∨ k = 5 ∨ k = 6 then (pz r).bind fun z => chkV k z.1 0 E0 z.2
  else if k = 3 then (pz r).bind fun z => (pz z.2).bind fun y => chkV 3 z.1 y.1 E0 y.2
  else if k = 4 then (pt r).bind fun z => chkV 4 0 0 z.1 z.2
  else chkV k 0 0 E0 r
/-- A value, read. -/
def pvl (l : List Nat) : Option (Vl × List Nat) := (p8 l).bind fun y => pvK y.1 y.2
/-- The tables of utf8, older than the block b. -/
def TB (b : Nat) (w : World) : Prop := ∃ W, Tabs W ∧ Go.Proofs.YtcdjjmjhdoanlaaGreatDoor.G W w ∧ W.heap.size ≤ b
theorem TB.tabs {b : Nat} {w : World} (h : TB b w) : Tabs w := by obtain ⟨W, h1, h2, _⟩ := h; exact h1.G h2
theorem TB.G {b : Nat} {w w' : World} (h : TB b w) (g : Go.Proofs.YtcdjjmjhdoanlaaGreatDoor.G w w') : TB b w' := by obtain ⟨W, h1, h2, h3⟩ := h; exact ⟨W, h1, h2.trans g, h3⟩
theorem TB.chg {F : Nat → Prop} {b : Nat} {w w' : World} (h : TB b w) (c : Chg F w w') (hF : ∀ k, F k → b ≤ k) : TB b w' := by
  obtain ⟨W, h1, h2, h3⟩ := h
  exact ⟨W, h1, ⟨c.os.trans h2.os, c.tape.trans h2.tape, c.output.trans h2.output, Nat.le_trans h2.size c.size, fun k hk => (c.block k (Nat.lt_of_lt_of_le hk h2.size) (fun q => by have := hF k q; omega)).trans (h2.block k hk)⟩, h3⟩
theorem TB.cb {b : Nat} {w w' : World} (h : TB b w) (c : Cb b w w') : TB b w' := h.chg c (fun _ e => by omega)
theorem vst_rel {α : Type} {s s' : Option (List Nat)} {K : List Nat → Option (Vl × List Nat)} {q : List Nat → Option (α × List Nat)} {K' : α → List Nat → Option (Vl × List Nat)} {a : α} (hr : (s' = none ∧ s.bind pvl = none) ∨ ∃ r, s' = some r ∧ s.bind pvl = K r) (hK : ∀ r, K r = (q r).bind fun z => K' z.1 z.2) (hR : ∀ x l', s'.bind q = some (x, l') → x = a) : ((s'.bind q).map (·.2) = none ∧ s.bind pvl = none) ∨ ∃ r, (s'.bind q).map (·.2) = some r ∧ s.bind pvl = K' a r := by
  rcases hr with ⟨rfl, hn⟩ | ⟨r, rfl, hr⟩
  · exact .inl ⟨rfl, hn⟩
  · rw [hr, hK]
    have hR : ∀ x l', q r = some (x, l') → x = a := hR
    show (((q r).map (·.2)) = none ∧ _) ∨ ∃ r', ((q r).map (·.2)) = some r' ∧ _
    cases e : q r with
    | none => exact .inl ⟨rfl, rfl⟩
    | some y => exact .inr ⟨y.2, rfl, by rw [← hR y.1 y.2 e]; rfl⟩
theorem teB_of2 {s : Option (List Nat)} {x : ByteArray} {l' : List Nat} (h : ∀ l, s = some l → l.length ≤ 2097152) (e : s.bind pt = some (x, l')) : x.size ≤ 2097152 := teB_of h e
theorem oF_any (N : Nat) (w : World) (b : Nat) (s : Option (List Nat)) (h : Sc N w b s) : Calls Tryz.prog 93 #[ptr b] w (GetF N p8 (fun v => ∃ k : Nat, v = bv k ∧ k < 256) (fun _ v x => v = bv x) b w s) :=
  (octet_any N w b s h).mono fun _ _ g => GetF.of g (fun _ _ x ⟨h1, h2⟩ => ⟨⟨x, h1, h2⟩, h1⟩) (fun _ _ h => ⟨0, h, by decide⟩)
theorem nF_any (N : Nat) (w : World) (b : Nat) (s : Option (List Nat)) (h : Sc N w b s) : Calls Tryz.prog 45 #[ptr b] w (GetF N pz (fun v => ∃ n, v = I n) (fun _ v x => v = I x ∧ R64 x) b w s) :=
  (numberJ_any N w b s h).mono fun _ _ g => GetF.of g (fun _ _ x ⟨h1, h2⟩ => ⟨⟨x, h1⟩, h1, h2⟩) (fun _ _ h => h)
theorem tF_any (N : Nat) (w : World) (b : Nat) (s : Option (List Nat)) (h : Sc N w b s) : Calls Tryz.prog 46 #[ptr b] w (GetF N pt (fun v => ∃ t : ByteArray, v = .string t ∧ t.size ≤ 2097152) (fun _ v x => v = .string x) b w s) := by
  refine (text2_any N w b s h).mono fun _ _ ⟨v, h1, h2, h3⟩ => ?_
  rcases h3 with ⟨x, l', a, c, d⟩ | ⟨a, c, d⟩
  · exact ⟨v, h1, ⟨x, d, teB_of (fun _ e => sc_len (e ▸ h)) a⟩, h2, by rw [a]; exact c, fun y m q => by rw [a] at q; cases q; exact d⟩
  · exact ⟨v, h1, ⟨_, d, Nat.zero_le _⟩, h2, by rw [a]; exact c, fun y m q => by rw [a] at q; cases q⟩
/-- While a value is read: the result rb, the variable vb. -/
def VSt (N b : Nat) (w : World) (s : Option (List Nat)) (rb vb : Nat) (cs : List Value) (K : List Nat → Option (Vl × List Nat)) (u : World) : Prop :=
  ∃ s', Sc N u b s' ∧ Cb b w u ∧ Blk u rb 137 [I 0, I 0, I 0, .string { data := #[] }] ∧ Blk u vb 137 cs ∧ ((s' = none ∧ s.bind pvl = none) ∨ ∃ r, s' = some r ∧ s.bind pvl = K r)
theorem VSt.step {α : Type} {N b : Nat} {w u u' : World} {s s' : Option (List Nat)} {rb vb o : Nat} {cs : List Value} {v : Value} {K : List Nat → Option (Vl × List Nat)} {q : List Nat → Option (α × List Nat)} (K' : α → List Nat → Option (Vl × List Nat)) {a : α}
    (hc : Cb b w u) (h1 : Blk u rb 137 [I 0, I 0, I 0, .string { data := #[] }]) (h2 : Blk u vb 137 cs) (hr : (s' = none ∧ s.bind pvl = none) ∨ ∃ r, s' = some r ∧ s.bind pvl = K r)
    (hc2 : Cb b u u') (hs2 : Sc N u' b ((s'.bind q).map (·.2))) (hK : ∀ r, K r = (q r).bind fun z => K' z.1 z.2) (hR : ∀ x l', s'.bind q = some (x, l') → x = a) (hb : rb ≠ b ∧ vb ≠ b ∧ rb ≠ vb ∧ w.heap.size ≤ vb ∧ N ≤ vb) :
    VSt N b w s rb vb (cs.set o v) (K' a) (u'.setCell ⟨vb, o, none⟩ v) := by
  obtain ⟨n1, n2, n3, n4, n5⟩ := hb
  have h3 : Chg (fun k => k = vb) u' (u'.setCell ⟨vb, o, none⟩ v) := chg_setCell u' v (.inl rfl)
  exact ⟨_, hs2.far (F := fun k => k = vb) (fun k hk => by subst hk; exact ⟨n5, n2⟩) h3, (hc.trans hc2).more h3 (fun k hk e => by omega), (h1.chg hc2 n1).off n3, (h2.chg hc2 n2).set o v, vst_rel hr hK hR⟩
/-- Behind the last look. -/
theorem VSt.fin {N b : Nat} {w u u' u'' : World} {s : Option (List Nat)} {rb vb : Nat} {cs : List Value} {k a c : Int} {t : ByteArray} (h : VSt N b w s rb vb cs (chkV k a c t) u) (g : G u u') (ok : okV k a c t = true) (h3 : Chg (fun k => k = rb) u' u'') (hb : rb ≠ b ∧ w.heap.size ≤ rb ∧ N ≤ rb) :
    GetF N pvl (fun v => ∃ k a b s, v = V k a b s) (fun _ v x => v = V x.k x.a x.b x.s) b w s (.returned (V k a c t)) u'' := by
  obtain ⟨s', hs, hc, _, _, hr⟩ := h
  have hs9 := (hs.G g).far (F := fun k => k = rb) (fun k hk => by subst hk; exact ⟨hb.2.2, hb.1⟩) h3
  refine ⟨_, rfl, ⟨k, a, c, t, rfl⟩, (hc.trans g.chg).more h3 (fun k hk e => by omega), ?_⟩
  rcases hr with ⟨rfl, q⟩ | ⟨r, rfl, q⟩
  · rw [q]; exact ⟨hs9, fun x l' e => by cases e⟩
  · have e0 : chkV k a c t r = some (⟨k, a, c, t⟩, r) := by unfold chkV; rw [if_pos ok]
    rw [q, e0]
    exact ⟨hs9, fun x l' e => by cases e; rfl⟩
theorem VSt.bad {N b : Nat} {w u u' u'' : World} {s : Option (List Nat)} {rb vb : Nat} {cs : List Value} {k a c : Int} {t : ByteArray} (h : VSt N b w s rb vb cs (chkV k a c t) u) (g : G u u') (ok : okV k a c t = false) (h3 : Chg (fun k => k = rb) (u'.setCell ⟨b, 1, none⟩ (.bool true)) u'') (hb : rb ≠ b ∧ w.heap.size ≤ rb ∧ N ≤ rb) :
    GetF N pvl (fun v => ∃ k a b s, v = V k a b s) (fun _ v x => v = V x.k x.a x.b x.s) b w s (.returned (V k a c t)) u'' := by
  obtain ⟨s', hs, hc, _, _, hr⟩ := h
  have hsp := (hs.G g).spoil
  have hs9 := hsp.1.far (F := fun k => k = rb) (fun k hk => by subst hk; exact ⟨hb.2.2, hb.1⟩) h3
  have hn : s.bind pvl = none := by
    rcases hr with ⟨_, q⟩ | ⟨r, _, q⟩
    · exact q
    · rw [q]; unfold chkV; rw [if_neg (by rw [ok]; decide)]
  exact ⟨_, rfl, ⟨k, a, c, t, rfl⟩, ((hc.trans g.chg).trans hsp.2).more h3 (fun k hk e => by omega), by rw [hn]; exact hs9, fun x l' e => by rw [hn] at e; cases e⟩
theorem vF_any (k a c : Int) (t : ByteArray) (w : World) {b : Nat} (hT : TB b w) : Calls Tryz.prog 99 #[V k a c t] w fun e w' => e = .returned (.bool (okV k a c t)) ∧ G w w' := Valid_any k a c t w hT.tabs
set_option maxRecDepth 100000 in
set_option maxHeartbeats 1000000 in
theorem value2_any (N : Nat) (w : World) (b : Nat) (s : Option (List Nat)) (h : Sc N w b s) (hN : N ≤ w.heap.size) (hT : TB b w) :
    Calls Tryz.prog 95 #[ptr b] w (GetF N pvl (fun v => ∃ k a b s, v = V k a b s) (fun _ v x => v = V x.k x.a x.b x.s) b w s) := by
  obtain ⟨xs0, hb0⟩ := h.blk
  have hbl := hb0.lt
  obtain ⟨w1, hw1⟩ : ∃ w1, w1 = w.alloc (.cells #[I 0, I 0, I 0, .string { data := #[] }] 137) := ⟨_, rfl⟩
  have hG1 : G w w1 := by rw [hw1]; exact (G.refl w).alloc _
  have hB1 : Blk w1 w.heap.size 137 [I 0, I 0, I 0, .string { data := #[] }] := by rw [hw1]; exact Blk.new w [I 0, I 0, I 0, .string { data := #[] }] _
  have KO := hide (oF_any N w1 b s (h.G hG1))
  have HW := hide hw1
  have HT := hide hT
  have H1 := hide (And.intro hG1 (And.intro hB1 (And.intro hbl hN)))
  clear h hN hT hb0 hbl hw1 hG1 hB1
  go_enter Tryz.func95, Tryz.ntmps95
  go_wp2_with fail
  rw [show w.alloc (.cells #[I 0, I 0, I 0, .string { data := #[] }] 137) = w1 from HW.out.symm]
  refine KO.out.mono ?_
  rintro e w2 ⟨v2, rfl, ⟨k, rfl, hk⟩, hc2, hs2, hR2⟩
  obtain ⟨hG1, hB1, hbl, hN⟩ := H1.out
  obtain ⟨w3, hw3⟩ : ∃ w3, w3 = w2.alloc (.cells #[I (k : Int), I 0, I 0, .string { data := #[] }] 137) := ⟨_, rfl⟩
  obtain ⟨rb, hrb⟩ : ∃ rb, rb = w.heap.size := ⟨_, rfl⟩
  obtain ⟨vb, hvb⟩ : ∃ vb, vb = w2.heap.size := ⟨_, rfl⟩
  have hs1 := hB1.lt
  have hs1' := hc2.size
  have HNE : Hid (rb ≠ b ∧ w.heap.size ≤ rb ∧ N ≤ rb) := ⟨by omega, by omega, by omega⟩
  have HNV : Hid (vb ≠ b) := by show _ ≠ _; omega
  have HNN : Hid (rb ≠ b ∧ vb ≠ b ∧ rb ≠ vb ∧ w.heap.size ≤ vb ∧ N ≤ vb) := ⟨by omega, by omega, by omega, by omega, by omega⟩
  have HV : Hid (VSt N b w s rb vb [I (k : Int), I 0, I 0, .string { data := #[] }] (pvK k) w3) := by
    have g3 : G w2 w3 := by rw [hw3]; exact (G.refl w2).alloc _
    refine ⟨_, hs2.G g3, ((hG1.chg).trans hc2).trans g3.chg, ?_, ?_, ?_⟩
    · rw [hrb]; exact (hB1.chg hc2 (by omega)).G g3
    · rw [hvb, hw3]; exact Blk.new w2 [I (k : Int), I 0, I 0, .string { data := #[] }] _
    · cases s with
      | none => exact .inl ⟨rfl, rfl⟩
      | some l =>
        show (((p8 l).map (·.2)) = none ∧ (p8 l).bind _ = none) ∨ ∃ r, ((p8 l).map (·.2)) = some r ∧ (p8 l).bind _ = _
        cases e : p8 l with
        | none => exact .inl ⟨rfl, rfl⟩
        | some y =>
          have := hR2 y.1 y.2 e
          have e1 : k = y.1 := by simp at this; omega
          exact .inr ⟨y.2, rfl, by rw [e1]; rfl⟩
  have HW3 := hide hw3
  have HRB := hide hrb
  have HVB := hide hvb
  have HKK := hide hk
  clear KO hR2 hc2 hs2 hG1 hB1 hbl hN hw3 hs1 hs1' H1 HW hk hrb hvb
  by_cases hk1 : k = 1
  · subst hk1
    go_wp2_with fail
    rw [show w2.alloc (.cells #[I 1, I 0, I 0, .string { data := #[] }] 137) = w3 from HW3.out.symm]
    try rw [← HVB.out]
    try rw [← HRB.out]
    obtain ⟨s5, hs5, hc5, h15, h25, hr5⟩ := HV.out
    refine (oF_any N _ b s5 hs5).mono ?_
    rintro e w5 ⟨v5, rfl, ⟨z, rfl, hz⟩, hd5, hs5, hR5⟩
    have k5 := (h25.chg hd5 HNV.out).cell
    have f5 := (h25.chg hd5 HNV.out).frozen
    replace HV := hide (VSt.step (o := 1) (v := I (z : Int)) (a := z) (fun (z : Nat) r => chkV 1 (z : Int) 0 E0 r) hc5 h15 h25 hr5 hd5 hs5 (fun r => by simp [pvK]) (fun x l' e => by have := hR5 x l' e; simp at this; omega) HNN.out)
    clear hs5 hc5 h15 h25 hr5 hd5 hR5
    have wz : wrap64 (z : Int) = (z : Int) := by unfold wrap64; omega
    clear hz
    go_wp2_with fail
    generalize w5.setCell ⟨vb, 1, none⟩ (I (z : Int)) = u5 at HV ⊢
    clear k5 f5
    obtain ⟨s7, hs7, hc7, h17, h27, hr7⟩ := HV.out
    refine (vF_any 1 (z : Int) 0 { data := #[] } _ (HT.out.cb hc7)).mono ?_
    rintro e u8 ⟨rfl, g8⟩
    have h18 := h17.G g8
    have hv8 := h27.G g8
    obtain ⟨xs8, n8, c8, b8⟩ := (hs7.G g8).bad
    have HG := hide g8
    clear hs7 hc7 h17 h27 hr7 g8
    cases hok : okV 1 (z : Int) 0 { data := #[] } with
    | true =>
      have HF : Hid (∀ u, Chg (fun k => k = rb) u8 u → GetF N pvl (fun v => ∃ k a b s, v = V k a b s) (fun _ v x => v = V x.k x.a x.b x.s) b w s (.returned (V 1 (z : Int) 0 { data := #[] })) u) := fun u hu => VSt.fin HV.out HG.out hok hu HNE.out
      have k8 := hv8.cell
      have m8 := h18.cell
      have z8 := h18.frozen
      have H19 := hide h18
      clear h18 b8 hok hv8
      go_wp2_with fail
      have hC9 := (((H19.out.set 0 (I 1)).set 1 (I (z : Int))).set 2 (I 0)).set 3 (.string { data := #[] })
      exact bodyPost_ret_by (v := V 1 (z : Int) 0 { data := #[] }) (results_cell_row Tryz.results95 _ _ rb 137 _ (0, 0) _ rfl hC9.h Tryz.underlying137 rfl (by kernel_rfl)) rfl (HF.out _ (((((chg_setCell (F := fun k => k = rb) (b := rb) (o := 0) _ (I 1) (.inl rfl)).trans (chg_setCell (F := fun k => k = rb) (b := rb) (o := 1) _ (I (z : Int)) (.inl rfl))).trans (chg_setCell (F := fun k => k = rb) (b := rb) (o := 2) _ (I 0) (.inl rfl))).trans (chg_setCell (F := fun k => k = rb) (b := rb) (o := 3) _ (.string { data := #[] }) (.inl rfl)))))
    | false =>
      have HF : Hid (∀ u, Chg (fun k => k = rb) (u8.setCell ⟨b, 1, none⟩ (.bool true)) u → GetF N pvl (fun v => ∃ k a b s, v = V k a b s) (fun _ v x => v = V x.k x.a x.b x.s) b w s (.returned (V 1 (z : Int) 0 { data := #[] })) u) := fun u hu => VSt.bad HV.out HG.out hok hu HNE.out
      have h19 := h18.off (b := b) (o := 1) (v := .bool true) HNE.out.1
      have hv19 := hv8.off (b := b) (o := 1) (v := .bool true) HNV.out
      have q1 := b8.cell
      have q2 := b8.frozen
      have q3 := h19.cell
      have q4 := h19.frozen
      have q5 := hv19.cell
      have H19 := hide h19
      clear h18 b8 hok hv8 h19 hv19
      go_wp2_with fail
      have hC9 := (((H19.out.set 0 (I 1)).set 1 (I (z : Int))).set 2 (I 0)).set 3 (.string { data := #[] })
      exact bodyPost_ret_by (v := V 1 (z : Int) 0 { data := #[] }) (results_cell_row Tryz.results95 _ _ rb 137 _ (0, 0) _ rfl hC9.h Tryz.underlying137 rfl (by kernel_rfl)) rfl (HF.out _ (((((chg_setCell (F := fun k => k = rb) (b := rb) (o := 0) _ (I 1) (.inl rfl)).trans (chg_setCell (F := fun k => k = rb) (b := rb) (o := 1) _ (I (z : Int)) (.inl rfl))).trans (chg_setCell (F := fun k => k = rb) (b := rb) (o := 2) _ (I 0) (.inl rfl))).trans (chg_setCell (F := fun k => k = rb) (b := rb) (o := 3) _ (.string { data := #[] }) (.inl rfl)))))
  by_cases hk2 : k = 2
  · subst hk2
    clear hk1
    go_wp2_with fail
    rw [show w2.alloc (.cells #[I 2, I 0, I 0, .string { data := #[] }] 137) = w3 from HW3.out.symm]
    try rw [← HVB.out]
    try rw [← HRB.out]
    obtain ⟨s5, hs5, hc5, h15, h25, hr5⟩ := HV.out
    refine (nF_any N _ b s5 hs5).mono ?_
    rintro e w5 ⟨v5, rfl, ⟨z, rfl⟩, hd5, hs5, hR5⟩
    have k5 := (h25.chg hd5 HNV.out).cell
    have f5 := (h25.chg hd5 HNV.out).frozen
    replace HV := hide (VSt.step (o := 1) (v := I z) (a := z) (fun (z : Int) r => chkV 2 z 0 E0 r) hc5 h15 h25 hr5 hd5 hs5 (fun r => by simp [pvK]) (fun x l' e => by have := (hR5 x l' e).1; simp at this; exact this.symm) HNN.out)
    clear hs5 hc5 h15 h25 hr5 hd5 hR5
    go_wp2_with fail
    generalize w5.setCell ⟨vb, 1, none⟩ (I z) = u5 at HV ⊢
    clear k5 f5
    obtain ⟨s7, hs7, hc7, h17, h27, hr7⟩ := HV.out
    refine (vF_any 2 z 0 { data := #[] } _ (HT.out.cb hc7)).mono ?_
    rintro e u8 ⟨rfl, g8⟩
    have h18 := h17.G g8
    have hv8 := h27.G g8
    obtain ⟨xs8, n8, c8, b8⟩ := (hs7.G g8).bad
    have HG := hide g8
    clear hs7 hc7 h17 h27 hr7 g8
    cases hok : okV 2 z 0 { data := #[] } with
    | true =>
      have HF : Hid (∀ u, Chg (fun k => k = rb) u8 u → GetF N pvl (fun v => ∃ k a b s, v = V k a b s) (fun _ v x => v = V x.k x.a x.b x.s) b w s (.returned (V 2 z 0 { data := #[] })) u) := fun u hu => VSt.fin HV.out HG.out hok hu HNE.out
      have k8 := hv8.cell
      have m8 := h18.cell
      have z8 := h18.frozen
      have H19 := hide h18
      clear h18 b8 hok hv8
      go_wp2_with fail
      have hC9 := (((H19.out.set 0 (I 2)).set 1 (I z)).set 2 (I 0)).set 3 (.string { data := #[] })
      exact bodyPost_ret_by (v := V 2 z 0 { data := #[] }) (results_cell_row Tryz.results95 _ _ rb 137 _ (0, 0) _ rfl hC9.h Tryz.underlying137 rfl (by kernel_rfl)) rfl (HF.out _ (((((chg_setCell (F := fun k => k = rb) (b := rb) (o := 0) _ (I 2) (.inl rfl)).trans (chg_setCell (F := fun k => k = rb) (b := rb) (o := 1) _ (I z) (.inl rfl))).trans (chg_setCell (F := fun k => k = rb) (b := rb) (o := 2) _ (I 0) (.inl rfl))).trans (chg_setCell (F := fun k => k = rb) (b := rb) (o := 3) _ (.string { data := #[] }) (.inl rfl)))))
    | false =>
      have HF : Hid (∀ u, Chg (fun k => k = rb) (u8.setCell ⟨b, 1, none⟩ (.bool true)) u → GetF N pvl (fun v => ∃ k a b s, v = V k a b s) (fun _ v x => v = V x.k x.a x.b x.s) b w s (.returned (V 2 z 0 { data := #[] })) u) := fun u hu => VSt.bad HV.out HG.out hok hu HNE.out
      have h19 := h18.off (b := b) (o := 1) (v := .bool true) HNE.out.1
      have hv19 := hv8.off (b := b) (o := 1) (v := .bool true) HNV.out
      have q1 := b8.cell
      have q2 := b8.frozen
      have q3 := h19.cell
      have q4 := h19.frozen
      have q5 := hv19.cell
      have H19 := hide h19
      clear h18 b8 hok hv8 h19 hv19
      go_wp2_with fail
      have hC9 := (((H19.out.set 0 (I 2)).set 1 (I z)).set 2 (I 0)).set 3 (.string { data := #[] })
      exact bodyPost_ret_by (v := V 2 z 0 { data := #[] }) (results_cell_row Tryz.results95 _ _ rb 137 _ (0, 0) _ rfl hC9.h Tryz.underlying137 rfl (by kernel_rfl)) rfl (HF.out _ (((((chg_setCell (F := fun k => k = rb) (b := rb) (o := 0) _ (I 2) (.inl rfl)).trans (chg_setCell (F := fun k => k = rb) (b := rb) (o := 1) _ (I z) (.inl rfl))).trans (chg_setCell (F := fun k => k = rb) (b := rb) (o := 2) _ (I 0) (.inl rfl))).trans (chg_setCell (F := fun k => k = rb) (b := rb) (o := 3) _ (.string { data := #[] }) (.inl rfl)))))
  by_cases hk5 : k = 5
  · subst hk5
    clear hk1 hk2
    go_wp2_with fail
    rw [show w2.alloc (.cells #[I 5, I 0, I 0, .string { data := #[] }] 137) = w3 from HW3.out.symm]
    try rw [← HVB.out]
    try rw [← HRB.out]
    obtain ⟨s5, hs5, hc5, h15, h25, hr5⟩ := HV.out
    refine (nF_any N _ b s5 hs5).mono ?_
    rintro e w5 ⟨v5, rfl, ⟨z, rfl⟩, hd5, hs5, hR5⟩
    have k5 := (h25.chg hd5 HNV.out).cell
    have f5 := (h25.chg hd5 HNV.out).frozen
    replace HV := hide (VSt.step (o := 1) (v := I z) (a := z) (fun (z : Int) r => chkV 5 z 0 E0 r) hc5 h15 h25 hr5 hd5 hs5 (fun r => by simp [pvK]) (fun x l' e => by have := (hR5 x l' e).1; simp at this; exact this.symm) HNN.out)
    clear hs5 hc5 h15 h25 hr5 hd5 hR5
    go_wp2_with fail
    generalize w5.setCell ⟨vb, 1, none⟩ (I z) = u5 at HV ⊢
    clear k5 f5
    obtain ⟨s7, hs7, hc7, h17, h27, hr7⟩ := HV.out
    refine (vF_any 5 z 0 { data := #[] } _ (HT.out.cb hc7)).mono ?_
    rintro e u8 ⟨rfl, g8⟩
    have h18 := h17.G g8
    have hv8 := h27.G g8
    obtain ⟨xs8, n8, c8, b8⟩ := (hs7.G g8).bad
    have HG := hide g8
    clear hs7 hc7 h17 h27 hr7 g8
    cases hok : okV 5 z 0 { data := #[] } with
    | true =>
      have HF : Hid (∀ u, Chg (fun k => k = rb) u8 u → GetF N pvl (fun v => ∃ k a b s, v = V k a b s) (fun _ v x => v = V x.k x.a x.b x.s) b w s (.returned (V 5 z 0 { data := #[] })) u) := fun u hu => VSt.fin HV.out HG.out hok hu HNE.out
      have k8 := hv8.cell
      have m8 := h18.cell
      have z8 := h18.frozen
      have H19 := hide h18
      clear h18 b8 hok hv8
      go_wp2_with fail
      have hC9 := (((H19.out.set 0 (I 5)).set 1 (I z)).set 2 (I 0)).set 3 (.string { data := #[] })
      exact bodyPost_ret_by (v := V 5 z 0 { data := #[] }) (results_cell_row Tryz.results95 _ _ rb 137 _ (0, 0) _ rfl hC9.h Tryz.underlying137 rfl (by kernel_rfl)) rfl (HF.out _ (((((chg_setCell (F := fun k => k = rb) (b := rb) (o := 0) _ (I 5) (.inl rfl)).trans (chg_setCell (F := fun k => k = rb) (b := rb) (o := 1) _ (I z) (.inl rfl))).trans (chg_setCell (F := fun k => k = rb) (b := rb) (o := 2) _ (I 0) (.inl rfl))).trans (chg_setCell (F := fun k => k = rb) (b := rb) (o := 3) _ (.string { data := #[] }) (.inl rfl)))))
    | false =>
      have HF : Hid (∀ u, Chg (fun k => k = rb) (u8.setCell ⟨b, 1, none⟩ (.bool true)) u → GetF N pvl (fun v => ∃ k a b s, v = V k a b s) (fun _ v x => v = V x.k x.a x.b x.s) b w s (.returned (V 5 z 0 { data := #[] })) u) := fun u hu => VSt.bad HV.out HG.out hok hu HNE.out
      have h19 := h18.off (b := b) (o := 1) (v := .bool true) HNE.out.1
      have hv19 := hv8.off (b := b) (o := 1) (v := .bool true) HNV.out
      have q1 := b8.cell
      have q2 := b8.frozen
      have q3 := h19.cell
      have q4 := h19.frozen
      have q5 := hv19.cell
      have H19 := hide h19
      clear h18 b8 hok hv8 h19 hv19
      go_wp2_with fail
      have hC9 := (((H19.out.set 0 (I 5)).set 1 (I z)).set 2 (I 0)).set 3 (.string { data := #[] })
      exact bodyPost_ret_by (v := V 5 z 0 { data := #[] }) (results_cell_row Tryz.results95 _ _ rb 137 _ (0, 0) _ rfl hC9.h Tryz.underlying137 rfl (by kernel_rfl)) rfl (HF.out _ (((((chg_setCell (F := fun k => k = rb) (b := rb) (o := 0) _ (I 5) (.inl rfl)).trans (chg_setCell (F := fun k => k = rb) (b := rb) (o := 1) _ (I z) (.inl rfl))).trans (chg_setCell (F := fun k => k = rb) (b := rb) (o := 2) _ (I 0) (.inl rfl))).trans (chg_setCell (F := fun k => k = rb) (b := rb) (o := 3) _ (.string { data := #[] }) (.inl rfl)))))
  by_cases hk6 : k = 6
  · subst hk6
    clear hk1 hk2 hk5
    go_wp2_with fail
    rw [show w2.alloc (.cells #[I 6, I 0, I 0, .string { data := #[] }] 137) = w3 from HW3.out.symm]
    try rw [← HVB.out]
    try rw [← HRB.out]
    obtain ⟨s5, hs5, hc5, h15, h25, hr5⟩ := HV.out
    refine (nF_any N _ b s5 hs5).mono ?_
    rintro e w5 ⟨v5, rfl, ⟨z, rfl⟩, hd5, hs5, hR5⟩
    have k5 := (h25.chg hd5 HNV.out).cell
    have f5 := (h25.chg hd5 HNV.out).frozen
    replace HV := hide (VSt.step (o := 1) (v := I z) (a := z) (fun (z : Int) r => chkV 6 z 0 E0 r) hc5 h15 h25 hr5 hd5 hs5 (fun r => by simp [pvK]) (fun x l' e => by have := (hR5 x l' e).1; simp at this; exact this.symm) HNN.out)
    clear hs5 hc5 h15 h25 hr5 hd5 hR5
    go_wp2_with fail
    generalize w5.setCell ⟨vb, 1, none⟩ (I z) = u5 at HV ⊢
    clear k5 f5
    obtain ⟨s7, hs7, hc7, h17, h27, hr7⟩ := HV.out
    refine (vF_any 6 z 0 { data := #[] } _ (HT.out.cb hc7)).mono ?_
    rintro e u8 ⟨rfl, g8⟩
    have h18 := h17.G g8
    have hv8 := h27.G g8
    obtain ⟨xs8, n8, c8, b8⟩ := (hs7.G g8).bad
    have HG := hide g8
    clear hs7 hc7 h17 h27 hr7 g8
    cases hok : okV 6 z 0 { data := #[] } with
    | true =>
      have HF : Hid (∀ u, Chg (fun k => k = rb) u8 u → GetF N pvl (fun v => ∃ k a b s, v = V k a b s) (fun _ v x => v = V x.k x.a x.b x.s) b w s (.returned (V 6 z 0 { data := #[] })) u) := fun u hu => VSt.fin HV.out HG.out hok hu HNE.out
      have k8 := hv8.cell
      have m8 := h18.cell
      have z8 := h18.frozen
      have H19 := hide h18
      clear h18 b8 hok hv8
      go_wp2_with fail
      have hC9 := (((H19.out.set 0 (I 6)).set 1 (I z)).set 2 (I 0)).set 3 (.string { data := #[] })
      exact bodyPost_ret_by (v := V 6 z 0 { data := #[] }) (results_cell_row Tryz.results95 _ _ rb 137 _ (0, 0) _ rfl hC9.h Tryz.underlying137 rfl (by kernel_rfl)) rfl (HF.out _ (((((chg_setCell (F := fun k => k = rb) (b := rb) (o := 0) _ (I 6) (.inl rfl)).trans (chg_setCell (F := fun k => k = rb) (b := rb) (o := 1) _ (I z) (.inl rfl))).trans (chg_setCell (F := fun k => k = rb) (b := rb) (o := 2) _ (I 0) (.inl rfl))).trans (chg_setCell (F := fun k => k = rb) (b := rb) (o := 3) _ (.string { data := #[] }) (.inl rfl)))))
    | false =>
      have HF : Hid (∀ u, Chg (fun k => k = rb) (u8.setCell ⟨b, 1, none⟩ (.bool true)) u → GetF N pvl (fun v => ∃ k a b s, v = V k a b s) (fun _ v x => v = V x.k x.a x.b x.s) b w s (.returned (V 6 z 0 { data := #[] })) u) := fun u hu => VSt.bad HV.out HG.out hok hu HNE.out
      have h19 := h18.off (b := b) (o := 1) (v := .bool true) HNE.out.1
      have hv19 := hv8.off (b := b) (o := 1) (v := .bool true) HNV.out
      have q1 := b8.cell
      have q2 := b8.frozen
      have q3 := h19.cell
      have q4 := h19.frozen
      have q5 := hv19.cell
      have H19 := hide h19
      clear h18 b8 hok hv8 h19 hv19
      go_wp2_with fail
      have hC9 := (((H19.out.set 0 (I 6)).set 1 (I z)).set 2 (I 0)).set 3 (.string { data := #[] })
      exact bodyPost_ret_by (v := V 6 z 0 { data := #[] }) (results_cell_row Tryz.results95 _ _ rb 137 _ (0, 0) _ rfl hC9.h Tryz.underlying137 rfl (by kernel_rfl)) rfl (HF.out _ (((((chg_setCell (F := fun k => k = rb) (b := rb) (o := 0) _ (I 6) (.inl rfl)).trans (chg_setCell (F := fun k => k = rb) (b := rb) (o := 1) _ (I z) (.inl rfl))).trans (chg_setCell (F := fun k => k = rb) (b := rb) (o := 2) _ (I 0) (.inl rfl))).trans (chg_setCell (F := fun k => k = rb) (b := rb) (o := 3) _ (.string { data := #[] }) (.inl rfl)))))
  by_cases hk3 : k = 3
  · subst hk3
    clear hk1 hk2 hk5 hk6
    go_wp2_with fail
    rw [show w2.alloc (.cells #[I 3, I 0, I 0, .string { data := #[] }] 137) = w3 from HW3.out.symm]
    try rw [← HVB.out]
    try rw [← HRB.out]
    obtain ⟨s5, hs5, hc5, h15, h25, hr5⟩ := HV.out
    refine (nF_any N _ b s5 hs5).mono ?_
    rintro e w5 ⟨v5, rfl, ⟨z, rfl⟩, hd5, hs5, hR5⟩
    have k5 := (h25.chg hd5 HNV.out).cell
    have f5 := (h25.chg hd5 HNV.out).frozen
    replace HV := hide (VSt.step (o := 1) (v := I z) (a := z) (fun (z : Int) r => (pz r).bind fun y => chkV 3 z y.1 E0 y.2) hc5 h15 h25 hr5 hd5 hs5 (fun r => by simp [pvK]) (fun x l' e => by have := (hR5 x l' e).1; simp at this; exact this.symm) HNN.out)
    clear hs5 hc5 h15 h25 hr5 hd5 hR5
    go_wp2_with fail
    generalize w5.setCell ⟨vb, 1, none⟩ (I z) = u5 at HV ⊢
    clear k5 f5
    obtain ⟨s6, hs6, hc6, h16, h26, hr6⟩ := HV.out
    refine (nF_any N _ b s6 hs6).mono ?_
    rintro e w6 ⟨v6, rfl, ⟨y, rfl⟩, hd6, hs6, hR6⟩
    have k6 := (h26.chg hd6 HNV.out).cell
    have f6 := (h26.chg hd6 HNV.out).frozen
    replace HV := hide (VSt.step (o := 2) (v := I y) (a := y) (fun (y : Int) r => chkV 3 z y E0 r) hc6 h16 h26 hr6 hd6 hs6 (fun r => rfl) (fun x l' e => by have := (hR6 x l' e).1; simp at this; exact this.symm) HNN.out)
    clear hs6 hc6 h16 h26 hr6 hd6 hR6
    go_wp2_with fail
    generalize w6.setCell ⟨vb, 2, none⟩ (I y) = u6 at HV ⊢
    clear k6 f6
    obtain ⟨s7, hs7, hc7, h17, h27, hr7⟩ := HV.out
    refine (vF_any 3 z y { data := #[] } _ (HT.out.cb hc7)).mono ?_
    rintro e u8 ⟨rfl, g8⟩
    have h18 := h17.G g8
    have hv8 := h27.G g8
    obtain ⟨xs8, n8, c8, b8⟩ := (hs7.G g8).bad
    have HG := hide g8
    clear hs7 hc7 h17 h27 hr7 g8
    cases hok : okV 3 z y { data := #[] } with
    | true =>
      have HF : Hid (∀ u, Chg (fun k => k = rb) u8 u → GetF N pvl (fun v => ∃ k a b s, v = V k a b s) (fun _ v x => v = V x.k x.a x.b x.s) b w s (.returned (V 3 z y { data := #[] })) u) := fun u hu => VSt.fin HV.out HG.out hok hu HNE.out
      have k8 := hv8.cell
      have m8 := h18.cell
      have z8 := h18.frozen
      have H19 := hide h18
      clear h18 b8 hok hv8
      go_wp2_with fail
      have hC9 := (((H19.out.set 0 (I 3)).set 1 (I z)).set 2 (I y)).set 3 (.string { data := #[] })
      exact bodyPost_ret_by (v := V 3 z y { data := #[] }) (results_cell_row Tryz.results95 _ _ rb 137 _ (0, 0) _ rfl hC9.h Tryz.underlying137 rfl (by kernel_rfl)) rfl (HF.out _ (((((chg_setCell (F := fun k => k = rb) (b := rb) (o := 0) _ (I 3) (.inl rfl)).trans (chg_setCell (F := fun k => k = rb) (b := rb) (o := 1) _ (I z) (.inl rfl))).trans (chg_setCell (F := fun k => k = rb) (b := rb) (o := 2) _ (I y) (.inl rfl))).trans (chg_setCell (F := fun k => k = rb) (b := rb) (o := 3) _ (.string { data := #[] }) (.inl rfl)))))
    | false =>
      have HF : Hid (∀ u, Chg (fun k => k = rb) (u8.setCell ⟨b, 1, none⟩ (.bool true)) u → GetF N pvl (fun v => ∃ k a b s, v = V k a b s) (fun _ v x => v = V x.k x.a x.b x.s) b w s (.returned (V 3 z y { data := #[] })) u) := fun u hu => VSt.bad HV.out HG.out hok hu HNE.out
      have h19 := h18.off (b := b) (o := 1) (v := .bool true) HNE.out.1
      have hv19 := hv8.off (b := b) (o := 1) (v := .bool true) HNV.out
      have q1 := b8.cell
      have q2 := b8.frozen
      have q3 := h19.cell
      have q4 := h19.frozen
      have q5 := hv19.cell
      have H19 := hide h19
      clear h18 b8 hok hv8 h19 hv19
      go_wp2_with fail
      have hC9 := (((H19.out.set 0 (I 3)).set 1 (I z)).set 2 (I y)).set 3 (.string { data := #[] })
      exact bodyPost_ret_by (v := V 3 z y { data := #[] }) (results_cell_row Tryz.results95 _ _ rb 137 _ (0, 0) _ rfl hC9.h Tryz.underlying137 rfl (by kernel_rfl)) rfl (HF.out _ (((((chg_setCell (F := fun k => k = rb) (b := rb) (o := 0) _ (I 3) (.inl rfl)).trans (chg_setCell (F := fun k => k = rb) (b := rb) (o := 1) _ (I z) (.inl rfl))).trans (chg_setCell (F := fun k => k = rb) (b := rb) (o := 2) _ (I y) (.inl rfl))).trans (chg_setCell (F := fun k => k = rb) (b := rb) (o := 3) _ (.string { data := #[] }) (.inl rfl)))))
  by_cases hk4 : k = 4
  · subst hk4
    clear hk1 hk2 hk5 hk6 hk3
    go_wp2_with fail
    rw [show w2.alloc (.cells #[I 4, I 0, I 0, .string { data := #[] }] 137) = w3 from HW3.out.symm]
    try rw [← HVB.out]
    try rw [← HRB.out]
    obtain ⟨s5, hs5, hc5, h15, h25, hr5⟩ := HV.out
    refine (tF_any N _ b s5 hs5).mono ?_
    rintro e w5 ⟨v5, rfl, ⟨z, rfl, hz⟩, hd5, hs5, hR5⟩
    have k5 := (h25.chg hd5 HNV.out).cell
    have f5 := (h25.chg hd5 HNV.out).frozen
    replace HV := hide (VSt.step (o := 3) (v := .string z) (a := z) (fun (z : ByteArray) r => chkV 4 0 0 z r) hc5 h15 h25 hr5 hd5 hs5 (fun r => by simp [pvK]) (fun x l' e => by have := hR5 x l' e; simp at this; exact this.symm) HNN.out)
    clear hs5 hc5 h15 h25 hr5 hd5 hR5
    go_wp2_with fail
    generalize w5.setCell ⟨vb, 3, none⟩ (.string z) = u5 at HV ⊢
    clear k5 f5
    obtain ⟨s7, hs7, hc7, h17, h27, hr7⟩ := HV.out
    refine (vF_any 4 0 0 z _ (HT.out.cb hc7)).mono ?_
    rintro e u8 ⟨rfl, g8⟩
    have h18 := h17.G g8
    have hv8 := h27.G g8
    obtain ⟨xs8, n8, c8, b8⟩ := (hs7.G g8).bad
    have HG := hide g8
    clear hs7 hc7 h17 h27 hr7 g8
    cases hok : okV 4 0 0 z with
    | true =>
      have HF : Hid (∀ u, Chg (fun k => k = rb) u8 u → GetF N pvl (fun v => ∃ k a b s, v = V k a b s) (fun _ v x => v = V x.k x.a x.b x.s) b w s (.returned (V 4 0 0 z)) u) := fun u hu => VSt.fin HV.out HG.out hok hu HNE.out
      have k8 := hv8.cell
      have m8 := h18.cell
      have z8 := h18.frozen
      have H19 := hide h18
      clear h18 b8 hok hv8
      go_wp2_with fail
      have hC9 := (((H19.out.set 0 (I 4)).set 1 (I 0)).set 2 (I 0)).set 3 (.string z)
      exact bodyPost_ret_by (v := V 4 0 0 z) (results_cell_row Tryz.results95 _ _ rb 137 _ (0, 0) _ rfl hC9.h Tryz.underlying137 rfl (by kernel_rfl)) rfl (HF.out _ (((((chg_setCell (F := fun k => k = rb) (b := rb) (o := 0) _ (I 4) (.inl rfl)).trans (chg_setCell (F := fun k => k = rb) (b := rb) (o := 1) _ (I 0) (.inl rfl))).trans (chg_setCell (F := fun k => k = rb) (b := rb) (o := 2) _ (I 0) (.inl rfl))).trans (chg_setCell (F := fun k => k = rb) (b := rb) (o := 3) _ (.string z) (.inl rfl)))))
    | false =>
      have HF : Hid (∀ u, Chg (fun k => k = rb) (u8.setCell ⟨b, 1, none⟩ (.bool true)) u → GetF N pvl (fun v => ∃ k a b s, v = V k a b s) (fun _ v x => v = V x.k x.a x.b x.s) b w s (.returned (V 4 0 0 z)) u) := fun u hu => VSt.bad HV.out HG.out hok hu HNE.out
      have h19 := h18.off (b := b) (o := 1) (v := .bool true) HNE.out.1
      have hv19 := hv8.off (b := b) (o := 1) (v := .bool true) HNV.out
      have q1 := b8.cell
      have q2 := b8.frozen
      have q3 := h19.cell
      have q4 := h19.frozen
      have q5 := hv19.cell
      have H19 := hide h19
      clear h18 b8 hok hv8 h19 hv19
      go_wp2_with fail
      have hC9 := (((H19.out.set 0 (I 4)).set 1 (I 0)).set 2 (I 0)).set 3 (.string z)
      exact bodyPost_ret_by (v := V 4 0 0 z) (results_cell_row Tryz.results95 _ _ rb 137 _ (0, 0) _ rfl hC9.h Tryz.underlying137 rfl (by kernel_rfl)) rfl (HF.out _ (((((chg_setCell (F := fun k => k = rb) (b := rb) (o := 0) _ (I 4) (.inl rfl)).trans (chg_setCell (F := fun k => k = rb) (b := rb) (o := 1) _ (I 0) (.inl rfl))).trans (chg_setCell (F := fun k => k = rb) (b := rb) (o := 2) _ (I 0) (.inl rfl))).trans (chg_setCell (F := fun k => k = rb) (b := rb) (o := 3) _ (.string z) (.inl rfl)))))
  have wk : wrap64 (k : Int) = (k : Int) := by have := HKK.out; unfold wrap64; omega
  have i1 : ((k : Int) == 1) = false := beq_eq_false_iff_ne.2 (by omega)
  have i2 : ((k : Int) == 2) = false := beq_eq_false_iff_ne.2 (by omega)
  have i5 : ((k : Int) == 5) = false := beq_eq_false_iff_ne.2 (by omega)
  have i6 : ((k : Int) == 6) = false := beq_eq_false_iff_ne.2 (by omega)
  have i3 : ((k : Int) == 3) = false := beq_eq_false_iff_ne.2 (by omega)
  have i4 : ((k : Int) == 4) = false := beq_eq_false_iff_ne.2 (by omega)
  have HV2 : Hid (VSt N b w s rb vb [I (k : Int), I 0, I 0, .string { data := #[] }] (chkV k 0 0 { data := #[] }) w3) := by
    have e : pvK k = chkV k 0 0 { data := #[] } := by funext r; simp [pvK, hk1, hk2, hk5, hk6, hk3, hk4]
    rw [← e]; exact HV.out
  clear HV
  have HV := HV2
  clear HV2 hk1 hk2 hk5 hk6 hk3 hk4
  go_wp2_with fail
  rw [show w2.alloc (.cells #[I (k : Int), I 0, I 0, .string { data := #[] }] 137) = w3 from HW3.out.symm]
  try rw [← HVB.out]
  try rw [← HRB.out]
  obtain ⟨s7, hs7, hc7, h17, h27, hr7⟩ := HV.out
  refine (vF_any (k : Int) 0 0 { data := #[] } _ (HT.out.cb hc7)).mono ?_
  rintro e u8 ⟨rfl, g8⟩
  have h18 := h17.G g8
  have hv8 := h27.G g8
  obtain ⟨xs8, n8, c8, b8⟩ := (hs7.G g8).bad
  have HG := hide g8
  clear hs7 hc7 h17 h27 hr7 g8
  cases hok : okV (k : Int) 0 0 { data := #[] } with
  | true =>
    have HF : Hid (∀ u, Chg (fun k => k = rb) u8 u → GetF N pvl (fun v => ∃ k a b s, v = V k a b s) (fun _ v x => v = V x.k x.a x.b x.s) b w s (.returned (V (k : Int) 0 0 { data := #[] })) u) := fun u hu => VSt.fin HV.out HG.out hok hu HNE.out
    have k8 := hv8.cell
    have m8 := h18.cell
    have z8 := h18.frozen
    have H19 := hide h18
    clear h18 b8 hok hv8
    go_wp2_with fail
    have hC9 := (((H19.out.set 0 (I (k : Int))).set 1 (I 0)).set 2 (I 0)).set 3 (.string { data := #[] })
    exact bodyPost_ret_by (v := V (k : Int) 0 0 { data := #[] }) (results_cell_row Tryz.results95 _ _ rb 137 _ (0, 0) _ rfl hC9.h Tryz.underlying137 rfl (by kernel_rfl)) rfl (HF.out _ (((((chg_setCell (F := fun k => k = rb) (b := rb) (o := 0) _ (I (k : Int)) (.inl rfl)).trans (chg_setCell (F := fun k => k = rb) (b := rb) (o := 1) _ (I 0) (.inl rfl))).trans (chg_setCell (F := fun k => k = rb) (b := rb) (o := 2) _ (I 0) (.inl rfl))).trans (chg_setCell (F := fun k => k = rb) (b := rb) (o := 3) _ (.string { data := #[] }) (.inl rfl)))))
  | false =>
    have HF : Hid (∀ u, Chg (fun k => k = rb) (u8.setCell ⟨b, 1, none⟩ (.bool true)) u → GetF N pvl (fun v => ∃ k a b s, v = V k a b s) (fun _ v x => v = V x.k x.a x.b x.s) b w s (.returned (V (k : Int) 0 0 { data := #[] })) u) := fun u hu => VSt.bad HV.out HG.out hok hu HNE.out
    have h19 := h18.off (b := b) (o := 1) (v := .bool true) HNE.out.1
    have hv19 := hv8.off (b := b) (o := 1) (v := .bool true) HNV.out
    have q1 := b8.cell
    have q2 := b8.frozen
    have q3 := h19.cell
    have q4 := h19.frozen
    have q5 := hv19.cell
    have H19 := hide h19
    clear h18 b8 hok hv8 h19 hv19
    go_wp2_with fail
    have hC9 := (((H19.out.set 0 (I (k : Int))).set 1 (I 0)).set 2 (I 0)).set 3 (.string { data := #[] })
    exact bodyPost_ret_by (v := V (k : Int) 0 0 { data := #[] }) (results_cell_row Tryz.results95 _ _ rb 137 _ (0, 0) _ rfl hC9.h Tryz.underlying137 rfl (by kernel_rfl)) rfl (HF.out _ (((((chg_setCell (F := fun k => k = rb) (b := rb) (o := 0) _ (I (k : Int)) (.inl rfl)).trans (chg_setCell (F := fun k => k = rb) (b := rb) (o := 1) _ (I 0) (.inl rfl))).trans (chg_setCell (F := fun k => k = rb) (b := rb) (o := 2) _ (I 0) (.inl rfl))).trans (chg_setCell (F := fun k => k = rb) (b := rb) (o := 3) _ (.string { data := #[] }) (.inl rfl)))))
theorem vF3_any (k a c : Int) (t : ByteArray) (hs : t.size ≤ 4611686018427387904) (w : World) {b : Nat} (_ : TB b w) : Calls Tryz.prog 68 #[V k a c t] w fun e w' => e = .returned (.bool (okV k a c t)) ∧ G w w' := rv_any k a c t hs w
end Go.Proofs.YtcdjjmjhdoanlaaGreatDoor
