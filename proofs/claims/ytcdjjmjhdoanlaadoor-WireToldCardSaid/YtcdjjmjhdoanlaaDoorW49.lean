/- Wire: the document's table, read. -/
import Derived.Test.YtcdjjmjhdoanlaaDoorW47
namespace Go.Proofs.YtcdjjmjhdoanlaaDoor
section
open Go.RowKit

theorem ppr_no (r : List Nat) (h : pt r = none) : ppr r = none := by simp [ppr, h]
theorem ppr_no2 {r r1 : List Nat} {x : ByteArray} (h : pt r = some (x, r1)) (h2 : pvl r1 = none) : ppr r = none := by simp [ppr, h, h2]
theorem ppr_yes {r r1 r2 : List Nat} {x : ByteArray} {v : Vl} (h : pt r = some (x, r1)) (h2 : pvl r1 = some (v, r2)) : ppr r = some (⟨x, v⟩, r2) := by simp [ppr, h, h2]
set_option maxRecDepth 100000 in
set_option maxHeartbeats 1000000 in
theorem props3_any (N : Nat) (w : World) (b : Nat) (s : Option (List Nat)) (h : Rc N w b s) (hN : N ≤ w.heap.size) (hT : TB b w) :
    Calls Tryd.prog 39 #[ptr b] w (RetF N (pl ppr) (fun v => ∃ a n c, v = .slice a n c) (fun u v l => NRow dP 99 u v l) b w s) := by
  have KC := hide (list3_any N w b s h)
  have HNN := hide hN
  have HT := hide hT
  clear h hN hT
  go_enter Tryd.func39, Tryd.ntmps39
  go_wp2_with fail
  refine KC.out.mono ?_
  rintro e w1 ⟨v1, rfl, hc1, hcase⟩
  obtain ⟨n, s1, rfl, hs1, hrel1⟩ : ∃ (n : Nat) (s1 : Option (List Nat)), v1 = I n ∧ Rc N w1 b s1 ∧ ((s1 = none ∧ s.bind (pl ppr) = none) ∨ (∃ r, s1 = some r ∧ n ≤ 2097152 ∧ s.bind (pl ppr) = prep ppr n r)) := by
    rcases hcase with ⟨n, l', hp, hs1, rfl⟩ | ⟨hp, hs1, rfl⟩
    · refine ⟨n, some l', rfl, hs1, .inr ⟨l', rfl, ?_, by rw [pl_pn, hp]; rfl⟩⟩
      have h1 := rc_len hs1
      cases s with
      | none => cases hp
      | some l => have := pn_le hp; omega
    · exact ⟨0, none, rfl, hs1, .inl ⟨rfl, by rw [pl_pn, hp]; rfl⟩⟩
  have HS := hide (And.intro hs1 (And.intro hc1 hrel1))
  clear hs1 hc1 hrel1 hcase KC
  go_wp2_with fail
  go_loopw [3, 5] (fun ov iv wr => ∃ (i : Nat) (s' : Option (List Nat)) (rs : List (Raw (dP).s)), iv = I i ∧ i ≤ n ∧ Sw (eR (dP).s) 99 wr ov rs ∧ Fresh w ov ∧ Cb b w wr ∧ Rc N wr b s' ∧ rs.length = i ∧ ((s' = none ∧ s.bind (pl ppr) = none) ∨ (∃ (r : List Nat) (xs : List (Pr)), s' = some r ∧ n ≤ 2097152 ∧ xs.length = i ∧ (∀ (j : Nat) (c : Raw (dP).s) (x : Pr), rs[j]? = some c → xs[j]? = some x → (dP).r wr c.1 x) ∧ s.bind (pl ppr) = (prep ppr (n - i) r).map fun y => (xs ++ y.1, y.2)))) (fun _ iv _ => n - (RowKit.intOf iv).toNat)
  case atStart =>
    obtain ⟨hs2, hc2, hrel2⟩ := HS.out
    refine ⟨0, s1, [], rfl, Nat.zero_le _, Sw.nil _ _ _, Fresh.nil _, hc2, hs2, rfl, ?_⟩
    rcases hrel2 with q | ⟨r, q1, q2, q3⟩
    · exact .inl q
    · exact .inr ⟨r, [], q1, q2, rfl, fun j c x e => by simp at e, by rw [q3]; simp⟩
  case round =>
    obtain ⟨i, s', rs, rfl, hin, ho, hof, hch, hs, hxl, hrel'⟩ := hrel
    clear HS
    obtain ⟨p3, n3, c3, b3⟩ := hs.bad
    have k3 := b3.cell
    obtain ⟨oa, oc, hov⟩ := ho.form
    have HFIN : Hid (s' = none ∨ i = n → RetF N (pl ppr) (fun v => ∃ a n c, v = .slice a n c) (fun u v l => NRow dP 99 u v l) b w s (.returned u3) wr) := fun hq => by
      refine ⟨_, rfl, ⟨_, _, _, hov⟩, hch, ?_⟩
      rcases hrel' with ⟨q, q2⟩ | ⟨r, xs, q, q2, q3, q4, q5⟩
      · subst q; rw [q2]; exact ⟨hs, fun x l' e => by cases e⟩
      · subst q
        rcases hq with q | ei
        · cases q
        · rw [ei, Nat.sub_self, prep] at q5
          have q5 : s.bind (pl ppr) = some (xs, r) := by rw [q5]; simp
          rw [q5]
          exact ⟨hs, fun x l' e => by cases e; exact ⟨rs, ho, by omega, q4⟩⟩
    by_cases hlt : i < n
    · have i2 : (i : Int) < (n : Int) := by omega
      cases s' with
      | none =>
        have HF := hide (HFIN.out (.inl rfl))
        simp only [Option.isNone_none] at k3
        clear hin ho hof hch hs hxl hrel' b3 hlt hov HFIN
        go_wp2_with fail
        go_ret
        exact HF.out
      | some r =>
        obtain ⟨xs, n21, hxs, hD, hpp⟩ : ∃ xs : List (Pr), n ≤ 2097152 ∧ xs.length = i ∧ (∀ (j : Nat) (c : Raw (dP).s) (x : Pr), rs[j]? = some c → xs[j]? = some x → (dP).r wr c.1 x) ∧ s.bind (pl ppr) = (prep ppr (n - i) r).map fun y => (xs ++ y.1, y.2) := by
          rcases hrel' with ⟨q, _⟩ | ⟨r', xs, q, q2⟩
          · cases q
          · cases q; exact ⟨xs, q2⟩
        have KG := hide (tF3_any N wr b (some r) hs)
        have hob : ∀ k, u3.ownBlock = some k → ¬ k = b := fun k hk e => by subst e; exact ho.ne b3 (by decide) hk
        have HO := hide (And.intro ho (And.intro hof hob))
        have HC := hide hch
        have HB3 := hide b3
        have HX := hide (And.intro hxl (And.intro n21 (And.intro hxs (And.intro hpp (And.intro hlt hD)))))
        simp only [Option.isNone_some] at k3
        clear hin ho hof hch hs hxl hrel' b3 hlt n21 hpp hob hxs hD HFIN hov
        go_wp2_with fail
        refine KG.out.mono ?_
        rintro e w3 ⟨v3, rfl, ⟨kt, rfl, hkt⟩, hc3, hs3, hR3⟩
        have hcw := HC.out.trans hc3
        have KV := hide (value3_any N w3 b _ hs3 (Nat.le_trans HNN.out hcw.size) (HT.out.cb hcw))
        have H3 := hide (And.intro hc3 hR3)
        clear hc3 hs3 hR3 hcw KG k3 hkt
        go_wp2_with fail
        refine KV.out.mono ?_
        rintro e w4 ⟨v4, rfl, ⟨vk, va, vc, vt, rfl⟩, hc4', hs4, hR4⟩
        have hc4 : Cb b wr w4 := H3.out.1.trans hc4'
        obtain ⟨ho, hof, hob⟩ := HO.out
        have hA := (G.refl w4).alloc (.cells #[.string kt, I vk, I va, I vc, .string vt] 99)
        have ho4 := (ho.chg hc4 hob).G hA
        obtain ⟨i0, hi0, hz0, hz1, hz2⟩ := info_P
        have hmx : (2097153 : Nat) ≤ maxLen := of_decide_eq_true (by kernel_rfl)
        have hxl := HX.out.1
        have n21 := HX.out.2.1
        have hlt := HX.out.2.2.2.2.1
        obtain ⟨c, hc⟩ : ∃ c : Raw (dP).s, c.1 = [.string kt, I vk, I va, I vc, .string vt] := ⟨⟨[.string kt, I vk, I va, I vc, .string vt], rfl, fun u hu => by simp at hu; rcases hu with rfl | rfl | rfl | rfl | rfl <;> rfl⟩, rfl⟩
        have hlit : Row (eR (dP).s).rel (w4.alloc (.cells #[.string kt, I vk, I va, I vc, .string vt] 99)) (.slice (some ⟨w4.heap.size, 0, none⟩) 1 1) [c] := by
          have := Row.lit (E := eR (dP).s) w4 99 [c] 1 (by simp)
          rw [show (eR (dP).s).fl [c] = [.string kt, I vk, I va, I vc, .string vt] by simp [Enc.fl, hc]] at this
          exact this
        obtain ⟨v5, w5, hr5, hs5, hch5, hob5⟩ := app_row (P := Tryd.prog) (tr := 72) (ns := [c]) i0 _ 56 Tryd.underlying72 hi0 hz0 hz1 hz2 rfl (by decide) ho4 hlit (by simp; omega) (by simp; omega)
        have hcA : Cb b w (w4.alloc (.cells #[.string kt, I vk, I va, I vc, .string vt] 99)) := (HC.out.trans hc4).trans hA.chg
        have hc5 : Cb b w w5 := hcA.more hch5 (fun k hk q => absurd (hof k q) (by omega))
        have hf5 : Fresh w v5 := fun k hk => by
          rcases hob5 with q | q
          · rw [q] at hk; exact hof k hk
          · rw [q] at hk; have h1 := Option.some.inj hk; have h2 := hcA.size; omega
        have hsc5 := (hs4.G hA).own (W := w) (fun k hk => ⟨hof k hk, hob k hk⟩) HNN.out hch5
        have kx1 : Kx [49, 99] wr w4 := Kx.one hc4 HB3.out (by simp)
        have kx2 : Kx [49, 99] w4 w5 := (Kx.of_G hA).trans (Kx.own hch5 ho4 (by simp))
        have hty : ∀ t ∈ (dP).tys, t ∉ [49, 99] := by decide
        obtain ⟨s5, hs5e⟩ : ∃ s5, s5 = ((((some r).bind pt).map (·.2)).bind pvl).map (·.2) := ⟨_, rfl⟩
        rw [← hs5e] at hsc5
        have HNX : Hid ((s5 = none ∧ s.bind (pl ppr) = none) ∨ (∃ (r4 : List Nat) (ys : List (Pr)), s5 = some r4 ∧ n ≤ 2097152 ∧ ys.length = i + 1 ∧ (∀ (j : Nat) (c' : Raw (dP).s) (x : Pr), (rs ++ [c])[j]? = some c' → ys[j]? = some x → (dP).r w5 c'.1 x) ∧ s.bind (pl ppr) = (prep ppr (n - (i + 1)) r4).map fun y => (ys ++ y.1, y.2))) := by
          obtain ⟨hxl, n21, hxs, hpp, hlt, hD⟩ := HX.out
          have hstop : ppr r = none → s.bind (pl ppr) = none := fun e => by
            rw [hpp, show n - i = (n - (i + 1)) + 1 by omega]
            exact prep_stop ppr _ r xs e
          cases e1 : pt r with
          | none =>
            refine .inl ⟨by rw [hs5e, show (some r).bind pt = none from e1]; rfl, hstop (ppr_no r e1)⟩
          | some y1 =>
            obtain ⟨x1, r1⟩ := y1
            have e1' : (some r).bind pt = some (x1, r1) := e1
            rw [e1'] at hs5e hR4
            have hR4 : ∀ x l', pvl r1 = some (x, l') → _ := hR4
            have hs5e : s5 = (pvl r1).map (·.2) := hs5e
            have hk1 := H3.out.2 x1 r1 e1'
            cases e2 : pvl r1 with
            | none => exact .inl ⟨by rw [hs5e, e2]; rfl, hstop (ppr_no2 e1 e2)⟩
            | some y2 =>
              obtain ⟨x2, r2⟩ := y2
              have e3 := ppr_yes e1 e2
              have hv2 := hR4 x2 r2 e2
              refine .inr ⟨r2, xs ++ [⟨x1, x2⟩], by rw [hs5e, e2]; rfl, n21, by simp [hxs], ?_, ?_⟩
              · refine nrow_step (fun j c' x' e1 e2 => (dP).keep (kx1.trans kx2) hty (hD j c' x' e1 e2)) (by rw [hxl, hxs]) ?_
                rw [hc]
                show _ = ePr.e _
                simp at hk1 hv2
                simp [hk1, hv2]
              · rw [hpp, show n - i = (n - (i + 1)) + 1 by omega]
                exact prep_step ppr _ r r2 _ xs e3
        have HR5 := hide hr5
        have HF : Hid (∃ u, v5 = u ∧ Sw (eR (dP).s) 99 w5 u (rs ++ [c]) ∧ Fresh w u ∧ Cb b w w5 ∧ Rc N w5 b s5 ∧ (rs ++ [c]).length = i + 1 ∧ i < n) := ⟨_, rfl, hs5, hf5, hc5, hsc5, by simp; exact hxl, hlt⟩
        have HW : Hid (wrap64 ((i : Int) + 1) = ((i + 1 : Nat) : Int)) := by show _ = _; unfold wrap64; omega
        clear hc4 hc4' hs4 hR4 ho hof hob hA ho4 hi0 hz0 hz1 hz2 hmx hxl n21 hlt hr5 hs5 hch5 hob5 hcA hc5 hf5 hsc5 KV HO HC HX hs5e hlit kx1 kx2 hty HB3 hc H3
        go_wp2_with (first | (at_builtin; refine wpList_append_run rfl _ _ 72 rfl u3 (.slice (some ⟨w4.heap.size, 0, none⟩) 1 1) rfl rfl HR5.out ?_) | fail)
        try rw [HW.out]
        obtain ⟨u, rfl, r1, r2, r3, r4, r5, r6⟩ := HF.out
        refine ⟨⟨i + 1, s5, rs ++ [c], rfl, r6, r1, r2, r3, r4, r5, HNX.out⟩, ?_⟩
        simp only [RowKit.intOf]; omega
    · have i2 : ¬ (i : Int) < (n : Int) := by omega
      have HF := hide (HFIN.out (.inr (by omega)))
      clear hin ho hof hch hs hxl hrel' b3 hlt hov HFIN
      go_wp2_with fail
      go_ret
      exact HF.out
end
open Go.RowKit

theorem prepB_step {α β : Type} (p : List Nat → Option (α × List Nat)) (K : List α → List Nat → Option β) (n : Nat) (r r4 : List Nat) (x : α) (xs : List α) (h : p r = some (x, r4)) : (prep p (n + 1) r).bind (fun y => K (xs ++ y.1) y.2) = (prep p n r4).bind fun y => K ((xs ++ [x]) ++ y.1) y.2 := by
  rw [prep, h]
  show ((prep p n r4).map _).bind _ = _
  cases prep p n r4 with
  | none => rfl
  | some y => simp
theorem prepB_stop {α β : Type} (p : List Nat → Option (α × List Nat)) (K : List α → List Nat → Option β) (n : Nat) (r : List Nat) (xs : List α) (h : p r = none) : (prep p (n + 1) r).bind (fun y => K (xs ++ y.1) y.2) = none := by
  rw [prep, h]; rfl
theorem tsF3_any (N : Nat) (w : World) (b : Nat) (s : Option (List Nat)) (h : Rc N w b s) (hN : N ≤ w.heap.size) : Calls Tryd.prog 15 #[ptr b] w (RetF N (pl pt) (fun v => ∃ a n c, v = .slice a n c) (fun u v l => Sw eS 9 u v l) b w s) :=
  (texts3_any N w b s h hN).mono fun _ _ g => RetF.of g (fun _ _ _ ⟨h1, _⟩ => ⟨by obtain ⟨a, c, q⟩ := h1.form; exact ⟨_, _, _, q⟩, h1⟩) (fun _ _ h => h)
theorem nsF3_any (N : Nat) (w : World) (b : Nat) (s : Option (List Nat)) (h : Rc N w b s) (hN : N ≤ w.heap.size) : Calls Tryd.prog 14 #[ptr b] w (RetF N (pl pz) (fun v => ∃ a n c, v = .slice a n c) (fun u v l => Sw eI 2 u v l) b w s) :=
  (nums3_any N w b s h hN).mono fun _ _ g => RetF.of g (fun _ _ _ ⟨h1, _⟩ => ⟨by obtain ⟨a, c, q⟩ := h1.form; exact ⟨_, _, _, q⟩, h1⟩) (fun _ _ h => h)
/-- A table's last three fields. -/
def KT (x : List ByteArray) (rows : List (List Vl)) (r : List Nat) : Option (Tb × List Nat) := (pz r).bind fun f => (pz f.2).bind fun t => (pz t.2).bind fun z => some (⟨x, rows, f.1, t.1, z.1⟩, z.2)
theorem ptb_eq (l : List Nat) : ptb l = (pl pt l).bind fun x => (pl (pl pvl) x.2).bind fun y => KT x.1 y.1 y.2 := rfl
/-- Behind i rows: s', the source; C: the columns' slice. -/
def RT (n : Nat) (s : Option (List Nat)) (C : Value) (wr : World) (i : Nat) (s' : Option (List Nat)) (rs : List (Raw dR.s)) : Prop :=
  (s' = none ∧ s.bind ptb = none) ∨ ∃ (r : List Nat) (x1 : List ByteArray) (xs : List (List Vl)), s' = some r ∧ n ≤ 2097152 ∧ xs.length = i ∧ (∀ (j : Nat) (c : Raw dR.s) (x : List Vl), rs[j]? = some c → xs[j]? = some x → dR.r wr c.1 x) ∧ Sw eS 9 wr C x1 ∧ s.bind ptb = (prep (pl pvl) (n - i) r).bind fun y => KT x1 (xs ++ y.1) y.2
theorem Pt9.fin2 {β : Type} {N b : Nat} {w w1 u u' : World} {s : Option (List Nat)} {p : List Nat → Option (β × List Nat)} {rb rr : Nat} {T : TypeId} {cs cs2 : List Value} {Φ : World → List Nat → Prop} {Vf : Value → Prop} {R : World → Value → β → Prop} {v : Value} (hg : G w w1) (h : Pt9 N b w1 s p rb T cs Φ u) (hr2 : Blk u rr T cs2) (h3 : Chg (fun k => k = rr) u u') (hb : rr ≠ b ∧ w.heap.size ≤ rr ∧ N ≤ rr) (kΦ : ∀ u u' r, Kx [49, T] u u' → Φ u r → Φ u' r) (hV : Vf v) (hΦ : ∀ u r, Φ u r → ∃ x, s.bind p = some (x, r) ∧ R u v x) : RetF N p Vf R b w s (.returned v) u' := by
  obtain ⟨s', hs, hc, hB, hr⟩ := h
  have hs9 := hs.far (F := fun k => k = rr) (fun k hk => by subst hk; exact ⟨hb.2.2, hb.1⟩) h3
  refine ⟨v, rfl, hV, (hg.chg.trans hc).more h3 (fun k hk e => by omega), ?_⟩
  rcases hr with ⟨rfl, q⟩ | ⟨r, rfl, q⟩
  · rw [q]; exact ⟨hs9, fun x l' e => by cases e⟩
  · obtain ⟨x, q1, q2⟩ := hΦ _ r (kΦ _ _ _ (Kx.one h3 hr2 (by simp)) q)
    rw [q1]
    exact ⟨hs9, fun y l' e => by cases e; exact q2⟩
set_option maxRecDepth 100000 in
set_option maxHeartbeats 1000000 in
theorem table3_any (N : Nat) (w : World) (b : Nat) (s : Option (List Nat)) (h : Rc N w b s) (hN : N ≤ w.heap.size) (hT : TB b w) :
    Calls Tryd.prog 17 #[ptr b] w (RetF N ptb (fun v => ∃ (ca : Option Addr) (cn cc : Nat) (ra : Option Addr) (rn rc : Nat) (md gn st : Int), v = .agg #[.slice ca cn cc, .slice ra rn rc, I md, I gn, I st]) (fun u v x => ∀ (ca : Option Addr) (cn cc : Nat) (ra : Option Addr) (rn rc : Nat) (md gn st : Int), v = .agg #[.slice ca cn cc, .slice ra rn rc, I md, I gn, I st] → dT.r u [.slice ca cn cc, .slice ra rn rc, I md, I gn, I st] x) b w s) := by
  obtain ⟨xs0, hb0⟩ := h.blk
  have hbl := hb0.lt
  obtain ⟨wb, hwb⟩ : ∃ wb, wb = w.alloc (.cells #[.slice none 0 0, .slice none 0 0, I 0, I 0, I 0] 56) := ⟨_, rfl⟩
  obtain ⟨u0, hw0⟩ : ∃ u0, u0 = wb.alloc (.cells #[.slice none 0 0, .slice none 0 0, I 0, I 0, I 0] 56) := ⟨_, rfl⟩
  have hG1 : G w wb := by rw [hwb]; exact (G.refl w).alloc _
  have hR1 : Blk wb w.heap.size 56 [.slice none 0 0, .slice none 0 0, I 0, I 0, I 0] := by rw [hwb]; exact Blk.new w [.slice none 0 0, .slice none 0 0, I 0, I 0, I 0] _
  obtain ⟨rb, hrb⟩ : ∃ rb, rb = wb.heap.size := ⟨_, rfl⟩
  have hrl := hR1.lt
  have HP : Hid (Pt9 N b wb s ptb rb 56 [.slice none 0 0, .slice none 0 0, I 0, I 0, I 0] (fun _ r => s = some r) u0) := Pt9.start ptb (h.G hG1) (by rw [hw0]; exact (G.refl wb).alloc _) (by rw [hw0, hrb]; exact Blk.new wb [.slice none 0 0, .slice none 0 0, I 0, I 0, I 0] _)
  have HNE : Hid (rb ≠ b ∧ wb.heap.size ≤ rb ∧ N ≤ rb) := ⟨by omega, by omega, by omega⟩
  have HNR : Hid (w.heap.size ≠ b ∧ w.heap.size ≤ w.heap.size ∧ N ≤ w.heap.size) := ⟨by omega, by omega, hN⟩
  have HNW : Hid (N ≤ wb.heap.size) := by show _ ≤ _; omega
  have HT := hide (hT.G hG1)
  have HR1 := hide (And.intro hG1 hR1)
  have HW : Hid (u0 = (w.alloc (.cells #[.slice none 0 0, .slice none 0 0, I 0, I 0, I 0] 56)).alloc (.cells #[.slice none 0 0, .slice none 0 0, I 0, I 0, I 0] 56)) := by show _ = _; rw [hw0, hwb]
  have HRB : Hid (rb = w.heap.size + 1) := by show _ = _; rw [hrb, hwb]; simp
  have HBB : Hid (b < wb.heap.size) := by show _ < _; omega
  clear h hN hT hb0 hbl hw0 hrb hwb hG1 hR1 hrl
  go_enter Tryd.func17, Tryd.ntmps17
  go_wp2_with fail
  rw [show (w.alloc (.cells #[.slice none 0 0, .slice none 0 0, I 0, I 0, I 0] 56)).alloc (.cells #[.slice none 0 0, .slice none 0 0, I 0, I 0, I 0] 56) = u0 from HW.out.symm]
  try rw [show w.heap.size + 1 = rb from HRB.out.symm]
  obtain ⟨s1, hs1, hc1, hb1, hr1⟩ := HP.out
  refine (tsF3_any N _ b s1 hs1 (Nat.le_trans HNW.out hc1.size)).mono ?_
  rintro e w1 ⟨v1, rfl, ⟨ca, cn, cc, rfl⟩, hd1, hz1, hR1⟩
  have hB1 := hb1.chg hd1 HNE.out.1
  have k1 := hB1.cell
  have f1 := hB1.frozen
  replace HP := hide (Pt9.step (p := ptb) (q := (pl pt)) (Φ := (fun _ r => s = some r)) (R := fun u l => Sw eS 9 u (.slice ca cn cc) l) hs1 hc1 hr1 HNE.out.2.2 HNE.out.2.1 HNE.out.1 hd1 hz1 (fun x l' e => by exact hR1 x l' e) (chg_setCell (F := fun k => k = rb) (b := rb) (o := 0) _ (.slice ca cn cc) (.inl rfl)) hB1 (hB1.set 0 (.slice ca cn cc)) (fun _ _ _ _ h => h) (fun _ _ _ k h => h.kx k (by decide)) (fun u r h e => by
    have h0 := h
    rw [h0, show (some _).bind ptb = ptb _ from rfl, ptb_eq, e]; rfl))
  clear hs1 hc1 hb1 hr1 hd1 hz1 hR1 hB1
  go_wp2_with fail
  generalize (w1.setCell ⟨rb, 0, none⟩ (.slice ca cn cc)) = u1 at HP ⊢
  clear k1 f1
  obtain ⟨s2, hs2, hc2, hb2, hr2⟩ := HP.out
  refine (list3_any N _ b s2 hs2).mono ?_
  rintro e w2 ⟨v2, rfl, hd2, hcase⟩
  have kx2 : Kx [49] u1 w2 := by obtain ⟨_, q⟩ := hs2.blk; exact Kx.one hd2 q (by simp)
  obtain ⟨n, s3, rfl, hs3, hrel3⟩ : ∃ (n : Nat) (s3 : Option (List Nat)), v2 = I n ∧ Rc N w2 b s3 ∧ RT n s (.slice ca cn cc) w2 0 s3 [] := by
    rcases hr2 with ⟨rfl, hn⟩ | ⟨r0, rfl, ⟨r00, x1, h0, e1, g1⟩⟩
    · rcases hcase with ⟨n, l', hp, _⟩ | ⟨hp, hs3, rfl⟩
      · cases hp
      · exact ⟨0, none, rfl, hs3, .inl ⟨rfl, hn⟩⟩
    · have h0 : s = some r00 := h0
      have hbind : s.bind ptb = ((some r0).bind (pl (pl pvl))).bind fun y => KT x1 y.1 y.2 := by
        rw [h0, show (some r00).bind ptb = ptb r00 from rfl, ptb_eq, e1]; rfl
      rw [pl_pn] at hbind
      rcases hcase with ⟨n, l', hp, hs3, rfl⟩ | ⟨hp, hs3, rfl⟩
      · refine ⟨n, some l', rfl, hs3, .inr ⟨l', x1, [], rfl, ?_, rfl, fun j c x e => by simp at e, g1.kx kx2 (by decide), by rw [hbind, hp]; rfl⟩⟩
        have h1 := rc_len hs3
        have := pn_le hp; omega
      · exact ⟨0, none, rfl, hs3, .inl ⟨rfl, by rw [hbind, hp]; rfl⟩⟩
  have HS := hide (And.intro hs3 (And.intro (hc2.trans hd2) (And.intro (hb2.chg hd2 HNE.out.1) hrel3)))
  clear hs2 hc2 hb2 hr2 hd2 hcase kx2 hs3 hrel3 HP
  go_wp2_with fail
  go_loopw [5] (fun iv wr => ∃ (i : Nat) (s' : Option (List Nat)) (ra : Option Addr) (rn rc : Nat) (rs : List (Raw dR.s)), iv = I i ∧ i ≤ n ∧ Blk wr rb 56 [.slice ca cn cc, .slice ra rn rc, I 0, I 0, I 0] ∧ Sw (eR dR.s) 84 wr (.slice ra rn rc) rs ∧ Fresh wb (.slice ra rn rc) ∧ Cb b wb wr ∧ Rc N wr b s' ∧ rs.length = i ∧ RT n s (.slice ca cn cc) wr i s' rs) (fun iv _ => n - (RowKit.intOf iv).toNat)
  case atStart =>
    obtain ⟨q1, q2, q3, q4⟩ := HS.out
    exact ⟨0, s3, none, 0, 0, [], rfl, Nat.zero_le _, q3, Sw.nil _ _ _, Fresh.nil _, q2, q1, rfl, q4⟩
  case round =>
    obtain ⟨i, s', ra, rn, rc, rs, rfl, hin, hB, ho, hof, hch, hs, hxl, hrel'⟩ := hrel
    obtain ⟨wo, hwo⟩ : ∃ wo, wo = wr := ⟨_, rfl⟩
    subst hwo
    clear HS
    obtain ⟨p3, n3, c3, b3⟩ := hs.bad
    have k3 := b3.cell
    have HPE : Hid (s' = none ∨ i = n → Pt9 N b wb s ptb rb 56 [.slice ca cn cc, .slice ra rn rc, I 0, I 0, I 0] (fun u r => ∃ x1 rows, Sw eS 9 u (.slice ca cn cc) x1 ∧ NRow dR 84 u (.slice ra rn rc) rows ∧ s.bind ptb = KT x1 rows r) wo) := fun hq => by
      refine ⟨s', hs, hch, hB, ?_⟩
      rcases hrel' with q | ⟨r, x1, xs, q, q2, q3, q4, q5, q6⟩
      · exact .inl q
      · subst q
        rcases hq with q | ei
        · cases q
        · rw [ei, Nat.sub_self, prep] at q6
          exact .inr ⟨r, rfl, x1, xs, q5, ⟨rs, ho, by omega, q4⟩, by rw [q6]; simp⟩
    by_cases hlt : i < n
    · have i2 : (i : Int) < (n : Int) := by omega
      cases s' with
      | none =>
        have HP := hide (HPE.out (.inl rfl))
        simp only [Option.isNone_none] at k3
        clear hin ho hof hch hs hxl hrel' b3 hlt HPE hB
        go_wp2_with fail
        clear k3 i2
        obtain ⟨s5, hs5, hc5, hb5, hr5⟩ := HP.out
        refine (nF3_any N _ b s5 hs5).mono ?_
        rintro e w5 ⟨v5, rfl, ⟨md, rfl⟩, hd5, hz5, hR5⟩
        have hB5 := hb5.chg hd5 HNE.out.1
        have k5 := hB5.cell
        have f5 := hB5.frozen
        replace HP := hide (Pt9.step (p := ptb) (q := pz) (Φ := (fun u r => ∃ x1 rows, Sw eS 9 u (.slice ca cn cc) x1 ∧ NRow dR 84 u (.slice ra rn rc) rows ∧ s.bind ptb = KT x1 rows r)) (R := fun _ x => md = x ∧ R64 x) hs5 hc5 hr5 HNE.out.2.2 HNE.out.2.1 HNE.out.1 hd5 hz5 (fun x l' e => by have := hR5 x l' e; simp at this; exact this) (chg_setCell (F := fun k => k = rb) (b := rb) (o := 2) _ (I md) (.inl rfl)) hB5 (hB5.set 2 (I md)) (fun u u' r k ⟨x1, rows, h1, h2, h3⟩ => ⟨x1, rows, h1.kx k (by decide), h2.kx k (by decide) (by decide), h3⟩) (fun _ _ _ _ h => h) (fun u r h e => by
          obtain ⟨xc, xr, hS, hR, h0⟩ := h
          rw [h0]; simp [KT, e]))
        clear hs5 hc5 hb5 hr5 hd5 hz5 hR5 hB5
        go_wp2_with fail
        generalize (w5.setCell ⟨rb, 2, none⟩ (I md)) = u5 at HP ⊢
        clear k5 f5
        obtain ⟨s6, hs6, hc6, hb6, hr6⟩ := HP.out
        refine (nF3_any N _ b s6 hs6).mono ?_
        rintro e w6 ⟨v6, rfl, ⟨gn, rfl⟩, hd6, hz6, hR6⟩
        have hB6 := hb6.chg hd6 HNE.out.1
        have k6 := hB6.cell
        have f6 := hB6.frozen
        replace HP := hide (Pt9.step (p := ptb) (q := pz) (Φ := (fun u r' => ∃ r x, (fun u r => ∃ x1 rows, Sw eS 9 u (.slice ca cn cc) x1 ∧ NRow dR 84 u (.slice ra rn rc) rows ∧ s.bind ptb = KT x1 rows r) u r ∧ pz r = some (x, r') ∧ (fun _ x => md = x ∧ R64 x) u x)) (R := fun _ x => gn = x ∧ R64 x) hs6 hc6 hr6 HNE.out.2.2 HNE.out.2.1 HNE.out.1 hd6 hz6 (fun x l' e => by have := hR6 x l' e; simp at this; exact this) (chg_setCell (F := fun k => k = rb) (b := rb) (o := 3) _ (I gn) (.inl rfl)) hB6 (hB6.set 3 (I gn)) (fun u u' r' k ⟨r, x, h1, h2, h3⟩ => ⟨r, x, (fun u u' r k ⟨x1, rows, h1, h2, h3⟩ => ⟨x1, rows, h1.kx k (by decide), h2.kx k (by decide) (by decide), h3⟩) u u' r k h1, h2, (fun _ _ _ _ h => h) u u' x k h3⟩) (fun _ _ _ _ h => h) (fun u r h e => by
          obtain ⟨r1, x1, ⟨xc, xr, hS, hR, h0⟩, e1, g1⟩ := h
          rw [h0]; simp [KT, e1, e]))
        clear hs6 hc6 hb6 hr6 hd6 hz6 hR6 hB6
        go_wp2_with fail
        generalize (w6.setCell ⟨rb, 3, none⟩ (I gn)) = u6 at HP ⊢
        clear k6 f6
        obtain ⟨s7, hs7, hc7, hb7, hr7⟩ := HP.out
        refine (nF3_any N _ b s7 hs7).mono ?_
        rintro e w7 ⟨v7, rfl, ⟨st, rfl⟩, hd7, hz7, hR7⟩
        have hB7 := hb7.chg hd7 HNE.out.1
        have k7 := hB7.cell
        have f7 := hB7.frozen
        replace HP := hide (Pt9.step (p := ptb) (q := pz) (Φ := (fun u r' => ∃ r x, (fun u r' => ∃ r x, (fun u r => ∃ x1 rows, Sw eS 9 u (.slice ca cn cc) x1 ∧ NRow dR 84 u (.slice ra rn rc) rows ∧ s.bind ptb = KT x1 rows r) u r ∧ pz r = some (x, r') ∧ (fun _ x => md = x ∧ R64 x) u x) u r ∧ pz r = some (x, r') ∧ (fun _ x => gn = x ∧ R64 x) u x)) (R := fun _ x => st = x ∧ R64 x) hs7 hc7 hr7 HNE.out.2.2 HNE.out.2.1 HNE.out.1 hd7 hz7 (fun x l' e => by have := hR7 x l' e; simp at this; exact this) (chg_setCell (F := fun k => k = rb) (b := rb) (o := 4) _ (I st) (.inl rfl)) hB7 (hB7.set 4 (I st)) (fun u u' r' k ⟨r, x, h1, h2, h3⟩ => ⟨r, x, (fun u u' r' k ⟨r, x, h1, h2, h3⟩ => ⟨r, x, (fun u u' r k ⟨x1, rows, h1, h2, h3⟩ => ⟨x1, rows, h1.kx k (by decide), h2.kx k (by decide) (by decide), h3⟩) u u' r k h1, h2, (fun _ _ _ _ h => h) u u' x k h3⟩) u u' r k h1, h2, (fun _ _ _ _ h => h) u u' x k h3⟩) (fun _ _ _ _ h => h) (fun u r h e => by
          obtain ⟨r2, x2, ⟨r1, x1, ⟨xc, xr, hS, hR, h0⟩, e1, g1⟩, e2, g2⟩ := h
          rw [h0]; simp [KT, e1, e2, e]))
        clear hs7 hc7 hb7 hr7 hd7 hz7 hR7 hB7
        obtain ⟨s9, hs9, hc9, hb9, hr9⟩ := id HP.out
        have hq9 := HR1.out.2.chg hc9 HNR.out.1
        have c9 := hb9.cell
        have m9 := hq9.cell
        have z9 := hq9.frozen
        have HQ9 := hide hq9
        have HF : Hid (∀ u, Chg (fun k => k = w.heap.size) (w7.setCell ⟨rb, 4, none⟩ (I st)) u → RetF N ptb (fun v => ∃ (ca : Option Addr) (cn cc : Nat) (ra : Option Addr) (rn rc : Nat) (md gn st : Int), v = .agg #[.slice ca cn cc, .slice ra rn rc, I md, I gn, I st]) (fun u v x => ∀ (ca : Option Addr) (cn cc : Nat) (ra : Option Addr) (rn rc : Nat) (md gn st : Int), v = .agg #[.slice ca cn cc, .slice ra rn rc, I md, I gn, I st] → dT.r u [.slice ca cn cc, .slice ra rn rc, I md, I gn, I st] x) b w s (.returned (.agg #[.slice ca cn cc, .slice ra rn rc, I md, I gn, I st])) u) := fun u hu => Pt9.fin2 HR1.out.1 HP.out HQ9.out hu HNR.out (fun u u' r' k ⟨r, x, h1, h2, h3⟩ => ⟨r, x, (fun u u' r' k ⟨r, x, h1, h2, h3⟩ => ⟨r, x, (fun u u' r' k ⟨r, x, h1, h2, h3⟩ => ⟨r, x, (fun u u' r k ⟨x1, rows, h1, h2, h3⟩ => ⟨x1, rows, h1.kx k (by decide), h2.kx k (by decide) (by decide), h3⟩) u u' r k h1, h2, (fun _ _ _ _ h => h) u u' x k h3⟩) u u' r k h1, h2, (fun _ _ _ _ h => h) u u' x k h3⟩) u u' r k h1, h2, (fun _ _ _ _ h => h) u u' x k h3⟩) ⟨ca, cn, cc, ra, rn, rc, md, gn, st, rfl⟩ (fun u r h => by
          obtain ⟨r3, x3, ⟨r2, x2, ⟨r1, x1, ⟨xc, xr, hS, hR, h0⟩, e1, g1⟩, e2, g2⟩, e3, g3⟩ := h
          refine ⟨⟨xc, xr, x1, x2, x3⟩, ?_, ?_⟩
          · rw [h0]; simp [KT, e1, e2, e3]
          · intro y0 y1 y2 y3 y4 y5 y6 y7 y8 ev
            simp only [Value.agg.injEq, Value.int.injEq, Value.slice.injEq, List.cons.injEq, Array.mk.injEq, and_true, true_and] at ev
            obtain ⟨⟨rfl, rfl, rfl⟩, ⟨rfl, rfl, rfl⟩, rfl, rfl, rfl⟩ := ev
            exact ⟨_, _, by rw [g1.1, g2.1, g3.1], hS, hR⟩)
        clear hs9 hc9 hb9 hr9 HP hq9
        go_wp2_with fail
        have hC9 := (((((HQ9.out.set 0 (.slice ca cn cc)).set 1 (.slice ra rn rc)).set 2 (I md)).set 3 (I gn)).set 4 (I st))
        exact bodyPost_ret_by (v := .agg #[.slice ca cn cc, .slice ra rn rc, I md, I gn, I st]) (results_cell_row Tryd.results17 _ _ w.heap.size 56 _ (0, 0) _ rfl hC9.h Tryd.underlying56 rfl (by kernel_rfl)) rfl (HF.out _ ((((((chg_setCell (F := fun k => k = w.heap.size) (b := w.heap.size) (o := 0) _ (.slice ca cn cc) (.inl rfl)).trans (chg_setCell (F := fun k => k = w.heap.size) (b := w.heap.size) (o := 1) _ (.slice ra rn rc) (.inl rfl))).trans (chg_setCell (F := fun k => k = w.heap.size) (b := w.heap.size) (o := 2) _ (I md) (.inl rfl))).trans (chg_setCell (F := fun k => k = w.heap.size) (b := w.heap.size) (o := 3) _ (I gn) (.inl rfl))).trans (chg_setCell (F := fun k => k = w.heap.size) (b := w.heap.size) (o := 4) _ (I st) (.inl rfl)))))
      | some r =>
        obtain ⟨x1, xs, n21, hxs, hD, hcol, hpp⟩ : ∃ (x1 : List ByteArray) (xs : List (List Vl)), n ≤ 2097152 ∧ xs.length = i ∧ (∀ (j : Nat) (c : Raw dR.s) (x : List Vl), rs[j]? = some c → xs[j]? = some x → dR.r wo c.1 x) ∧ Sw eS 9 wo (.slice ca cn cc) x1 ∧ s.bind ptb = (prep (pl pvl) (n - i) r).bind fun y => KT x1 (xs ++ y.1) y.2 := by
          rcases hrel' with ⟨q, _⟩ | ⟨r', x1, xs, q, q2⟩
          · cases q
          · cases q; exact ⟨x1, xs, q2⟩
        have KL := hide (list3_any N wo b (some r) hs)
        have hob : ∀ k, (Value.slice ra rn rc).ownBlock = some k → ¬ k = b := fun k hk e => by subst e; exact ho.ne b3 (by decide) hk
        have HO := hide (And.intro ho (And.intro hof hob))
        have HC := hide (And.intro hch hB)
        have HB3 := hide b3
        have HX : Hid (rs.length = i ∧ n ≤ 2097152 ∧ i < n ∧ ∃ (x1 : List ByteArray) (xs : List (List Vl)), xs.length = i ∧ (∀ (j : Nat) (c : Raw dR.s) (x : List Vl), rs[j]? = some c → xs[j]? = some x → dR.r wo c.1 x) ∧ Sw eS 9 wo (.slice ca cn cc) x1 ∧ s.bind ptb = (prep (pl pvl) (n - i) r).bind fun y => KT x1 (xs ++ y.1) y.2) := ⟨hxl, n21, hlt, x1, xs, hxs, hD, hcol, hpp⟩
        have HNO : Hid (N ≤ wo.heap.size) := Nat.le_trans HNW.out hch.size
        have HTO := hide (HT.out.cb hch)
        simp only [Option.isNone_some] at k3
        clear hin ho hof hch hs hxl hrel' b3 hlt n21 hpp hob hxs hD hcol HPE hB
        go_wp2_with fail
        refine KL.out.mono ?_
        rintro e w3 ⟨v3, rfl, hc3, hcase⟩
        obtain ⟨m, s4, rfl, hs4, hrel4⟩ : ∃ (m : Nat) (s4 : Option (List Nat)), v3 = I m ∧ Rc N w3 b s4 ∧ ((s4 = none ∧ (some r).bind (pl pvl) = none) ∨ (∃ r4, s4 = some r4 ∧ m ≤ 2097152 ∧ (some r).bind (pl pvl) = prep pvl m r4)) := by
          rcases hcase with ⟨m, l', hp, hs4, rfl⟩ | ⟨hp, hs4, rfl⟩
          · refine ⟨m, some l', rfl, hs4, .inr ⟨l', rfl, ?_, by rw [pl_pn, hp]; rfl⟩⟩
            have h1 := rc_len hs4
            have := pn_le hp; omega
          · exact ⟨0, none, rfl, hs4, .inl ⟨rfl, by rw [pl_pn, hp]; rfl⟩⟩
        have H3 := hide (And.intro hs4 (And.intro hc3 hrel4))
        clear hs4 hc3 hrel4 hcase KL k3
        go_wp2_with fail
        go_loopw [6, 8] (fun ov jv wr => ∃ (j : Nat) (s' : Option (List Nat)) (rs2 : List (Raw dV.s)), jv = I j ∧ j ≤ m ∧ Sw (eR dV.s) 86 wr ov rs2 ∧ Fresh wo ov ∧ Cb b wo wr ∧ Rc N wr b s' ∧ rs2.length = j ∧ ((s' = none ∧ (some r).bind (pl pvl) = none) ∨ (∃ (r2 : List Nat) (ys : List Vl), s' = some r2 ∧ m ≤ 2097152 ∧ ys.length = j ∧ (∀ (t : Nat) (c : Raw dV.s) (x : Vl), rs2[t]? = some c → ys[t]? = some x → dV.r wr c.1 x) ∧ (some r).bind (pl pvl) = (prep pvl (m - j) r2).map fun y => (ys ++ y.1, y.2)))) (fun _ jv _ => m - (RowKit.intOf jv).toNat)
        case atStart =>
          obtain ⟨q1, q2, q3⟩ := H3.out
          refine ⟨0, s4, [], rfl, Nat.zero_le _, Sw.nil _ _ _, Fresh.nil _, q2, q1, rfl, ?_⟩
          rcases q3 with q | ⟨r4, q1, q2, q3⟩
          · exact .inl q
          · exact .inr ⟨r4, [], q1, q2, rfl, fun t c x e => by simp at e, by rw [q3]; simp⟩
        case round =>
          obtain ⟨j, s', rs2, rfl, hjm, ho2, hof2, hch2, hs2, hjl, hin2⟩ := hrel
          clear H3
          obtain ⟨p6, n6, c6, b6⟩ := hs2.bad
          have k6 := b6.cell
          have HEX : Hid (s' = none ∨ j = m → Rc N wr b (((some r).bind (pl pvl)).map (·.2)) ∧ (∀ x l', (some r).bind (pl pvl) = some (x, l') → NRow dV 86 wr u6 x)) := fun hq => by
            rcases hin2 with ⟨q, q2⟩ | ⟨r2, ys, q, q2, q3, q4, q5⟩
            · subst q; rw [q2]; exact ⟨hs2, fun x l' e => by cases e⟩
            · subst q
              rcases hq with q | ei
              · cases q
              · rw [ei, Nat.sub_self, prep] at q5
                have q5 : (some r).bind (pl pvl) = some (ys, r2) := by rw [q5]; simp
                rw [q5]
                exact ⟨hs2, fun x l' e => by cases e; exact ⟨rs2, ho2, by omega, q4⟩⟩
          by_cases hjt : j < m
          · have j2 : (j : Int) < (m : Int) := by omega
            cases s' with
            | none =>
              obtain ⟨hs2', hrow⟩ := HEX.out (.inl rfl)
              simp only [Option.isNone_none] at k6
              clear hs2
              have hs2 := hs2'
              clear hs2' hjm hjl hin2 b6 hjt HEX
              obtain ⟨oa, oc, hov⟩ := ho2.form
              generalize rs2.length = on at hov
              subst hov
              obtain ⟨ho, hof, hob⟩ := HO.out
              obtain ⟨hch, hB⟩ := HC.out
              have hA := (G.refl wr).alloc (.cells #[.slice oa on oc] 84)
              have hor := ho.chg hch2 hob
              have ho4 := hor.G hA
              obtain ⟨i0, hi0, hz0, hz1, hz2⟩ := info_Vs
              have hmx : (2097153 : Nat) ≤ maxLen := of_decide_eq_true (by kernel_rfl)
              have hxl := HX.out.1
              have n21 := HX.out.2.1
              have hlt := HX.out.2.2.1
              obtain ⟨c, hc⟩ : ∃ c : Raw dR.s, c.1 = [.slice oa on oc] := ⟨⟨[.slice oa on oc], rfl, fun u hu => by simp at hu; rcases hu with rfl; rfl⟩, rfl⟩
              have hlit : Row (eR dR.s).rel (wr.alloc (.cells #[.slice oa on oc] 84)) (.slice (some ⟨wr.heap.size, 0, none⟩) 1 1) [c] := by
                have := Row.lit (E := eR dR.s) wr 84 [c] 1 (by simp)
                rw [show (eR dR.s).fl [c] = [.slice oa on oc] by simp [Enc.fl, hc]] at this
                exact this
              obtain ⟨v5, w5, hr5, hs5, hch5, hob5⟩ := app_row (P := Tryd.prog) (tr := 54) (ns := [c]) i0 _ 24 Tryd.underlying54 hi0 hz0 hz1 hz2 rfl (by decide) ho4 hlit (by simp; omega) (by simp; omega)
              have kx1 : Kx [49, 84] wo wr := Kx.one hch2 HB3.out (by simp)
              have kx2 : Kx [49, 84] wr w5 := (Kx.of_G hA).trans (Kx.own hch5 ho4 (by simp))
              have hB5 : Blk w5 rb 56 [.slice ca cn cc, .slice ra rn rc, I 0, I 0, I 0] := (kx1.trans kx2).blk hB (by decide)
              have hcA : Cb b wb (wr.alloc (.cells #[.slice oa on oc] 84)) := (hch.trans hch2).trans hA.chg
              have hc5 : Cb b wb w5 := hcA.more hch5 (fun k hk q => absurd (hof k q) (by omega))
              have hf5 : Fresh wb v5 := fun k hk => by
                rcases hob5 with q | q
                · rw [q] at hk; exact hof k hk
                · rw [q] at hk; have h1 := Option.some.inj hk; have h2 := hcA.size; omega
              have hsc5 := (hs2.G hA).own (W := wb) (fun k hk => ⟨hof k hk, hob k hk⟩) HNW.out hch5
              obtain ⟨a5, c5, hv5⟩ := hs5.form
              generalize (rs ++ [c]).length = n5 at hv5
              subst hv5
              have h6 : Chg (fun k => k = rb) w5 (w5.setCell ⟨rb, 1, none⟩ (.slice a5 n5 c5)) := chg_setCell w5 _ (.inl rfl)
              have kx3 : Kx [49, 56] w5 (w5.setCell ⟨rb, 1, none⟩ (.slice a5 n5 c5)) := Kx.one h6 hB5 (by simp)
              have kx4 : Kx [49, 84, 56] wo (w5.setCell ⟨rb, 1, none⟩ (.slice a5 n5 c5)) := ((kx1.trans kx2).mono (fun t q => by simp at q ⊢; omega)).trans (kx3.mono (fun t q => by simp at q ⊢; omega))
              have kx5 : Kx [49, 84, 56] wr (w5.setCell ⟨rb, 1, none⟩ (.slice a5 n5 c5)) := (kx2.mono (fun t q => by simp at q ⊢; omega)).trans (kx3.mono (fun t q => by simp at q ⊢; omega))
              have HNX : Hid (RT n s (.slice ca cn cc) (w5.setCell ⟨rb, 1, none⟩ (.slice a5 n5 c5)) (i + 1) (((some r).bind (pl pvl)).map (·.2)) (rs ++ [c])) := by
                obtain ⟨hxl, n21, hlt, x1, xs, hxs, hD, hcol, hpp⟩ := HX.out
                show ((((pl pvl) r).map (·.2)) = none ∧ _) ∨ _
                have hrow : ∀ x l', pl pvl r = some (x, l') → NRow dV 86 wr (.slice oa on oc) x := hrow
                cases e : pl pvl r with
                | none =>
                  refine .inl ⟨rfl, ?_⟩
                  rw [hpp, show n - i = (n - (i + 1)) + 1 by omega]
                  exact prepB_stop (pl pvl) (KT x1) _ r xs e
                | some y =>
                  obtain ⟨x, r4⟩ := y
                  refine .inr ⟨r4, x1, xs ++ [x], by show (pl pvl r).map _ = _; rw [e]; rfl, n21, by simp [hxs], ?_, hcol.kx kx4 (by decide), ?_⟩
                  · exact nrow_step (fun t c' x' e1 e2 => dR.keep kx4 (by decide) (hD t c' x' e1 e2)) (by rw [hxl, hxs]) (dR.keep kx5 (by decide) (by rw [hc]; exact ⟨_, rfl, hrow x r4 e⟩))
                  · rw [hpp, show n - i = (n - (i + 1)) + 1 by omega]
                    exact prepB_step (pl pvl) (KT x1) _ r r4 x xs e
              have HR5 := hide hr5
              have HF : Hid (Blk (w5.setCell ⟨rb, 1, none⟩ (.slice a5 n5 c5)) rb 56 [.slice ca cn cc, .slice a5 n5 c5, I 0, I 0, I 0] ∧ Sw (eR dR.s) 84 (w5.setCell ⟨rb, 1, none⟩ (.slice a5 n5 c5)) (.slice a5 n5 c5) (rs ++ [c]) ∧ Fresh wb (.slice a5 n5 c5) ∧ Cb b wb (w5.setCell ⟨rb, 1, none⟩ (.slice a5 n5 c5)) ∧ Rc N (w5.setCell ⟨rb, 1, none⟩ (.slice a5 n5 c5)) b (((some r).bind (pl pvl)).map (·.2)) ∧ (rs ++ [c]).length = i + 1 ∧ i < n) :=
                ⟨hB5.set 1 _, hs5.kx kx3 (by decide), hf5, hc5.more h6 (fun k hk e => by have := HNE.out.2.1; omega), hsc5.far (F := fun k => k = rb) (fun k hk => by subst hk; exact ⟨HNE.out.2.2, HNE.out.1⟩) h6, by simp; exact hxl, hlt⟩
              have HWI : Hid (wrap64 ((i : Int) + 1) = ((i + 1 : Nat) : Int)) := by show _ = _; unfold wrap64; omega
              have kB := (((hB.chg hch2 HNE.out.1).G hA)).cell
              have kb0 := (hB.chg hch2 HNE.out.1).cell
              have kB5 := hB5.cell
              have fB5 := hB5.frozen
              clear ho hof hob hch hB hA hor ho4 hi0 hz0 hz1 hz2 hmx hxl n21 hlt hlit hr5 hs5 hch5 hob5 kx1 kx2 hB5 hcA hc5 hf5 hsc5 h6 kx3 kx4 kx5 hc ho2 hof2 hch2 hs2 hrow HX HO HC HB3
              go_wp2_with (first | (at_builtin; refine wpList_append_run rfl _ _ 54 rfl (.slice ra rn rc) (.slice (some ⟨wr.heap.size, 0, none⟩) 1 1) rfl rfl HR5.out ?_) | fail)
              try rw [HWI.out]
              obtain ⟨r1, r2, r3, r4, r5, r6, r7⟩ := HF.out
              refine ⟨⟨i + 1, _, a5, n5, c5, rs ++ [c], rfl, r7, r1, r2, r3, r4, r5, r6, HNX.out⟩, ?_⟩
              simp only [RowKit.intOf]; omega
            | some r1 =>
              obtain ⟨ys, m21, hys, hD2, hpp2⟩ : ∃ ys : List Vl, m ≤ 2097152 ∧ ys.length = j ∧ (∀ (t : Nat) (c : Raw dV.s) (x : Vl), rs2[t]? = some c → ys[t]? = some x → dV.r wr c.1 x) ∧ (some r).bind (pl pvl) = (prep pvl (m - j) r1).map fun y => (ys ++ y.1, y.2) := by
                rcases hin2 with ⟨q, _⟩ | ⟨r', ys, q, q2⟩
                · cases q
                · cases q; exact ⟨ys, q2⟩
              have KG := hide (value3_any N wr b (some r1) hs2 (Nat.le_trans HNO.out hch2.size) (HTO.out.cb hch2))
              have hob2 : ∀ k, u6.ownBlock = some k → ¬ k = b := fun k hk e => by subst e; exact ho2.ne b6 (by decide) hk
              have HO2 := hide (And.intro ho2 (And.intro hof2 hob2))
              have HC2 := hide hch2
              have HB6 := hide b6
              have HX2 := hide (And.intro hjl (And.intro m21 (And.intro hys (And.intro hpp2 (And.intro hjt hD2)))))
              simp only [Option.isNone_some] at k6
              clear hjm ho2 hof2 hch2 hs2 hjl hin2 b6 hjt m21 hpp2 hob2 hys hD2 HEX
              go_wp2_with fail
              refine KG.out.mono ?_
              rintro e w8 ⟨v8, rfl, ⟨vk, va, vc, vt, rfl⟩, hc8, hs8, hR8⟩
              obtain ⟨ho, hof, hob⟩ := HO2.out
              have hA := (G.refl w8).alloc (.cells #[I vk, I va, I vc, .string vt] 86)
              have ho4 := (ho.chg hc8 hob).G hA
              obtain ⟨i0, hi0, hz0, hz1, hz2⟩ := info_V
              have hmx : (2097153 : Nat) ≤ maxLen := of_decide_eq_true (by kernel_rfl)
              have hjl := HX2.out.1
              have m21 := HX2.out.2.1
              have hjt := HX2.out.2.2.2.2.1
              obtain ⟨c, hc⟩ : ∃ c : Raw dV.s, c.1 = [I vk, I va, I vc, .string vt] := ⟨⟨[I vk, I va, I vc, .string vt], rfl, fun u hu => by simp at hu; rcases hu with rfl | rfl | rfl | rfl <;> rfl⟩, rfl⟩
              have hlit : Row (eR dV.s).rel (w8.alloc (.cells #[I vk, I va, I vc, .string vt] 86)) (.slice (some ⟨w8.heap.size, 0, none⟩) 1 1) [c] := by
                have := Row.lit (E := eR dV.s) w8 86 [c] 1 (by simp)
                rw [show (eR dV.s).fl [c] = [I vk, I va, I vc, .string vt] by simp [Enc.fl, hc]] at this
                exact this
              obtain ⟨v9, w9, hr9, hs9, hch9, hob9⟩ := app_row (P := Tryd.prog) (tr := 84) (ns := [c]) i0 _ 40 Tryd.underlying84 hi0 hz0 hz1 hz2 rfl (by decide) ho4 hlit (by simp; omega) (by simp; omega)
              have hcA : Cb b wo (w8.alloc (.cells #[I vk, I va, I vc, .string vt] 86)) := (HC2.out.trans hc8).trans hA.chg
              have hc9 : Cb b wo w9 := hcA.more hch9 (fun k hk q => absurd (hof k q) (by omega))
              have hf9 : Fresh wo v9 := fun k hk => by
                rcases hob9 with q | q
                · rw [q] at hk; exact hof k hk
                · rw [q] at hk; have h1 := Option.some.inj hk; have h2 := hcA.size; omega
              have hsc9 := (hs8.G hA).own (W := wo) (fun k hk => ⟨hof k hk, hob k hk⟩) HNO.out hch9
              have kx1 : Kx [49, 86] wr w8 := Kx.one hc8 HB6.out (by simp)
              have kx2 : Kx [49, 86] w8 w9 := (Kx.of_G hA).trans (Kx.own hch9 ho4 (by simp))
              have hty : ∀ t ∈ dV.tys, t ∉ [49, 86] := by decide
              obtain ⟨s9, hs9e⟩ : ∃ s9, s9 = ((some r1).bind pvl).map (·.2) := ⟨_, rfl⟩
              rw [← hs9e] at hsc9
              have HNX : Hid ((s9 = none ∧ (some r).bind (pl pvl) = none) ∨ (∃ (r4 : List Nat) (zs : List Vl), s9 = some r4 ∧ m ≤ 2097152 ∧ zs.length = j + 1 ∧ (∀ (t : Nat) (c' : Raw dV.s) (x : Vl), (rs2 ++ [c])[t]? = some c' → zs[t]? = some x → dV.r w9 c'.1 x) ∧ (some r).bind (pl pvl) = (prep pvl (m - (j + 1)) r4).map fun y => (zs ++ y.1, y.2))) := by
                obtain ⟨hjl, m21, hys, hpp2, hjt, hD2⟩ := HX2.out
                have hR8 : ∀ x l', pvl r1 = some (x, l') → _ := hR8
                have hs9e : s9 = (pvl r1).map (·.2) := hs9e
                cases e : pvl r1 with
                | none =>
                  refine .inl ⟨by rw [hs9e, e]; rfl, ?_⟩
                  rw [hpp2, show m - j = (m - (j + 1)) + 1 by omega]
                  exact prep_stop pvl _ r1 ys e
                | some y =>
                  obtain ⟨x, r4⟩ := y
                  have hv := hR8 x r4 e
                  refine .inr ⟨r4, ys ++ [x], by rw [hs9e, e]; rfl, m21, by simp [hys], ?_, ?_⟩
                  · refine nrow_step (fun t c' x' e1 e2 => dV.keep (kx1.trans kx2) hty (hD2 t c' x' e1 e2)) (by rw [hjl, hys]) ?_
                    rw [hc]
                    show _ = eV.e _
                    simp at hv
                    simp [hv]
                  · rw [hpp2, show m - j = (m - (j + 1)) + 1 by omega]
                    exact prep_step pvl _ r1 r4 x ys e
              have HR9 := hide hr9
              have HF : Hid (∃ u, v9 = u ∧ Sw (eR dV.s) 86 w9 u (rs2 ++ [c]) ∧ Fresh wo u ∧ Cb b wo w9 ∧ Rc N w9 b s9 ∧ (rs2 ++ [c]).length = j + 1 ∧ j < m) := ⟨_, rfl, hs9, hf9, hc9, hsc9, by simp; exact hjl, hjt⟩
              have HWJ : Hid (wrap64 ((j : Int) + 1) = ((j + 1 : Nat) : Int)) := by show _ = _; unfold wrap64; omega
              clear hc8 hs8 hR8 ho hof hob hA ho4 hi0 hz0 hz1 hz2 hmx hjl m21 hjt hr9 hs9 hch9 hob9 hcA hc9 hf9 hsc9 KG HO2 HC2 HX2 k6 hs9e hlit kx1 kx2 hty HB6 hc
              go_wp2_with (first | (at_builtin; refine wpList_append_run rfl _ _ 84 rfl u6 (.slice (some ⟨w8.heap.size, 0, none⟩) 1 1) rfl rfl HR9.out ?_) | fail)
              try rw [HWJ.out]
              obtain ⟨u, rfl, r1, r2, r3, r4, r5, r6⟩ := HF.out
              refine ⟨⟨j + 1, s9, rs2 ++ [c], rfl, r6, r1, r2, r3, r4, r5, HNX.out⟩, ?_⟩
              simp only [RowKit.intOf]; omega
          · have j2 : ¬ (j : Int) < (m : Int) := by omega
            obtain ⟨hs2', hrow⟩ := HEX.out (.inr (by omega))
            clear hs2
            have hs2 := hs2'
            clear hs2' hjm hjl hin2 b6 hjt HEX
            obtain ⟨oa, oc, hov⟩ := ho2.form
            generalize rs2.length = on at hov
            subst hov
            obtain ⟨ho, hof, hob⟩ := HO.out
            obtain ⟨hch, hB⟩ := HC.out
            have hA := (G.refl wr).alloc (.cells #[.slice oa on oc] 84)
            have hor := ho.chg hch2 hob
            have ho4 := hor.G hA
            obtain ⟨i0, hi0, hz0, hz1, hz2⟩ := info_Vs
            have hmx : (2097153 : Nat) ≤ maxLen := of_decide_eq_true (by kernel_rfl)
            have hxl := HX.out.1
            have n21 := HX.out.2.1
            have hlt := HX.out.2.2.1
            obtain ⟨c, hc⟩ : ∃ c : Raw dR.s, c.1 = [.slice oa on oc] := ⟨⟨[.slice oa on oc], rfl, fun u hu => by simp at hu; rcases hu with rfl; rfl⟩, rfl⟩
            have hlit : Row (eR dR.s).rel (wr.alloc (.cells #[.slice oa on oc] 84)) (.slice (some ⟨wr.heap.size, 0, none⟩) 1 1) [c] := by
              have := Row.lit (E := eR dR.s) wr 84 [c] 1 (by simp)
              rw [show (eR dR.s).fl [c] = [.slice oa on oc] by simp [Enc.fl, hc]] at this
              exact this
            obtain ⟨v5, w5, hr5, hs5, hch5, hob5⟩ := app_row (P := Tryd.prog) (tr := 54) (ns := [c]) i0 _ 24 Tryd.underlying54 hi0 hz0 hz1 hz2 rfl (by decide) ho4 hlit (by simp; omega) (by simp; omega)
            have kx1 : Kx [49, 84] wo wr := Kx.one hch2 HB3.out (by simp)
            have kx2 : Kx [49, 84] wr w5 := (Kx.of_G hA).trans (Kx.own hch5 ho4 (by simp))
            have hB5 : Blk w5 rb 56 [.slice ca cn cc, .slice ra rn rc, I 0, I 0, I 0] := (kx1.trans kx2).blk hB (by decide)
            have hcA : Cb b wb (wr.alloc (.cells #[.slice oa on oc] 84)) := (hch.trans hch2).trans hA.chg
            have hc5 : Cb b wb w5 := hcA.more hch5 (fun k hk q => absurd (hof k q) (by omega))
            have hf5 : Fresh wb v5 := fun k hk => by
              rcases hob5 with q | q
              · rw [q] at hk; exact hof k hk
              · rw [q] at hk; have h1 := Option.some.inj hk; have h2 := hcA.size; omega
            have hsc5 := (hs2.G hA).own (W := wb) (fun k hk => ⟨hof k hk, hob k hk⟩) HNW.out hch5
            obtain ⟨a5, c5, hv5⟩ := hs5.form
            generalize (rs ++ [c]).length = n5 at hv5
            subst hv5
            have h6 : Chg (fun k => k = rb) w5 (w5.setCell ⟨rb, 1, none⟩ (.slice a5 n5 c5)) := chg_setCell w5 _ (.inl rfl)
            have kx3 : Kx [49, 56] w5 (w5.setCell ⟨rb, 1, none⟩ (.slice a5 n5 c5)) := Kx.one h6 hB5 (by simp)
            have kx4 : Kx [49, 84, 56] wo (w5.setCell ⟨rb, 1, none⟩ (.slice a5 n5 c5)) := ((kx1.trans kx2).mono (fun t q => by simp at q ⊢; omega)).trans (kx3.mono (fun t q => by simp at q ⊢; omega))
            have kx5 : Kx [49, 84, 56] wr (w5.setCell ⟨rb, 1, none⟩ (.slice a5 n5 c5)) := (kx2.mono (fun t q => by simp at q ⊢; omega)).trans (kx3.mono (fun t q => by simp at q ⊢; omega))
            have HNX : Hid (RT n s (.slice ca cn cc) (w5.setCell ⟨rb, 1, none⟩ (.slice a5 n5 c5)) (i + 1) (((some r).bind (pl pvl)).map (·.2)) (rs ++ [c])) := by
              obtain ⟨hxl, n21, hlt, x1, xs, hxs, hD, hcol, hpp⟩ := HX.out
              show ((((pl pvl) r).map (·.2)) = none ∧ _) ∨ _
              have hrow : ∀ x l', pl pvl r = some (x, l') → NRow dV 86 wr (.slice oa on oc) x := hrow
              cases e : pl pvl r with
              | none =>
                refine .inl ⟨rfl, ?_⟩
                rw [hpp, show n - i = (n - (i + 1)) + 1 by omega]
                exact prepB_stop (pl pvl) (KT x1) _ r xs e
              | some y =>
                obtain ⟨x, r4⟩ := y
                refine .inr ⟨r4, x1, xs ++ [x], by show (pl pvl r).map _ = _; rw [e]; rfl, n21, by simp [hxs], ?_, hcol.kx kx4 (by decide), ?_⟩
                · exact nrow_step (fun t c' x' e1 e2 => dR.keep kx4 (by decide) (hD t c' x' e1 e2)) (by rw [hxl, hxs]) (dR.keep kx5 (by decide) (by rw [hc]; exact ⟨_, rfl, hrow x r4 e⟩))
                · rw [hpp, show n - i = (n - (i + 1)) + 1 by omega]
                  exact prepB_step (pl pvl) (KT x1) _ r r4 x xs e
            have HR5 := hide hr5
            have HF : Hid (Blk (w5.setCell ⟨rb, 1, none⟩ (.slice a5 n5 c5)) rb 56 [.slice ca cn cc, .slice a5 n5 c5, I 0, I 0, I 0] ∧ Sw (eR dR.s) 84 (w5.setCell ⟨rb, 1, none⟩ (.slice a5 n5 c5)) (.slice a5 n5 c5) (rs ++ [c]) ∧ Fresh wb (.slice a5 n5 c5) ∧ Cb b wb (w5.setCell ⟨rb, 1, none⟩ (.slice a5 n5 c5)) ∧ Rc N (w5.setCell ⟨rb, 1, none⟩ (.slice a5 n5 c5)) b (((some r).bind (pl pvl)).map (·.2)) ∧ (rs ++ [c]).length = i + 1 ∧ i < n) :=
              ⟨hB5.set 1 _, hs5.kx kx3 (by decide), hf5, hc5.more h6 (fun k hk e => by have := HNE.out.2.1; omega), hsc5.far (F := fun k => k = rb) (fun k hk => by subst hk; exact ⟨HNE.out.2.2, HNE.out.1⟩) h6, by simp; exact hxl, hlt⟩
            have HWI : Hid (wrap64 ((i : Int) + 1) = ((i + 1 : Nat) : Int)) := by show _ = _; unfold wrap64; omega
            have kB := (((hB.chg hch2 HNE.out.1).G hA)).cell
            have kb0 := (hB.chg hch2 HNE.out.1).cell
            have kB5 := hB5.cell
            have fB5 := hB5.frozen
            clear ho hof hob hch hB hA hor ho4 hi0 hz0 hz1 hz2 hmx hxl n21 hlt hlit hr5 hs5 hch5 hob5 kx1 kx2 hB5 hcA hc5 hf5 hsc5 h6 kx3 kx4 kx5 hc ho2 hof2 hch2 hs2 hrow HX HO HC HB3
            go_wp2_with (first | (at_builtin; refine wpList_append_run rfl _ _ 54 rfl (.slice ra rn rc) (.slice (some ⟨wr.heap.size, 0, none⟩) 1 1) rfl rfl HR5.out ?_) | fail)
            try rw [HWI.out]
            obtain ⟨r1, r2, r3, r4, r5, r6, r7⟩ := HF.out
            refine ⟨⟨i + 1, _, a5, n5, c5, rs ++ [c], rfl, r7, r1, r2, r3, r4, r5, r6, HNX.out⟩, ?_⟩
            simp only [RowKit.intOf]; omega
    · have i2 : ¬ (i : Int) < (n : Int) := by omega
      have HP := hide (HPE.out (.inr (by omega)))
      clear hin ho hof hch hs hxl hrel' b3 hlt HPE hB
      go_wp2_with fail
      clear k3 i2
      obtain ⟨s5, hs5, hc5, hb5, hr5⟩ := HP.out
      refine (nF3_any N _ b s5 hs5).mono ?_
      rintro e w5 ⟨v5, rfl, ⟨md, rfl⟩, hd5, hz5, hR5⟩
      have hB5 := hb5.chg hd5 HNE.out.1
      have k5 := hB5.cell
      have f5 := hB5.frozen
      replace HP := hide (Pt9.step (p := ptb) (q := pz) (Φ := (fun u r => ∃ x1 rows, Sw eS 9 u (.slice ca cn cc) x1 ∧ NRow dR 84 u (.slice ra rn rc) rows ∧ s.bind ptb = KT x1 rows r)) (R := fun _ x => md = x ∧ R64 x) hs5 hc5 hr5 HNE.out.2.2 HNE.out.2.1 HNE.out.1 hd5 hz5 (fun x l' e => by have := hR5 x l' e; simp at this; exact this) (chg_setCell (F := fun k => k = rb) (b := rb) (o := 2) _ (I md) (.inl rfl)) hB5 (hB5.set 2 (I md)) (fun u u' r k ⟨x1, rows, h1, h2, h3⟩ => ⟨x1, rows, h1.kx k (by decide), h2.kx k (by decide) (by decide), h3⟩) (fun _ _ _ _ h => h) (fun u r h e => by
        obtain ⟨xc, xr, hS, hR, h0⟩ := h
        rw [h0]; simp [KT, e]))
      clear hs5 hc5 hb5 hr5 hd5 hz5 hR5 hB5
      go_wp2_with fail
      generalize (w5.setCell ⟨rb, 2, none⟩ (I md)) = u5 at HP ⊢
      clear k5 f5
      obtain ⟨s6, hs6, hc6, hb6, hr6⟩ := HP.out
      refine (nF3_any N _ b s6 hs6).mono ?_
      rintro e w6 ⟨v6, rfl, ⟨gn, rfl⟩, hd6, hz6, hR6⟩
      have hB6 := hb6.chg hd6 HNE.out.1
      have k6 := hB6.cell
      have f6 := hB6.frozen
      replace HP := hide (Pt9.step (p := ptb) (q := pz) (Φ := (fun u r' => ∃ r x, (fun u r => ∃ x1 rows, Sw eS 9 u (.slice ca cn cc) x1 ∧ NRow dR 84 u (.slice ra rn rc) rows ∧ s.bind ptb = KT x1 rows r) u r ∧ pz r = some (x, r') ∧ (fun _ x => md = x ∧ R64 x) u x)) (R := fun _ x => gn = x ∧ R64 x) hs6 hc6 hr6 HNE.out.2.2 HNE.out.2.1 HNE.out.1 hd6 hz6 (fun x l' e => by have := hR6 x l' e; simp at this; exact this) (chg_setCell (F := fun k => k = rb) (b := rb) (o := 3) _ (I gn) (.inl rfl)) hB6 (hB6.set 3 (I gn)) (fun u u' r' k ⟨r, x, h1, h2, h3⟩ => ⟨r, x, (fun u u' r k ⟨x1, rows, h1, h2, h3⟩ => ⟨x1, rows, h1.kx k (by decide), h2.kx k (by decide) (by decide), h3⟩) u u' r k h1, h2, (fun _ _ _ _ h => h) u u' x k h3⟩) (fun _ _ _ _ h => h) (fun u r h e => by
        obtain ⟨r1, x1, ⟨xc, xr, hS, hR, h0⟩, e1, g1⟩ := h
        rw [h0]; simp [KT, e1, e]))
      clear hs6 hc6 hb6 hr6 hd6 hz6 hR6 hB6
      go_wp2_with fail
      generalize (w6.setCell ⟨rb, 3, none⟩ (I gn)) = u6 at HP ⊢
      clear k6 f6
      obtain ⟨s7, hs7, hc7, hb7, hr7⟩ := HP.out
      refine (nF3_any N _ b s7 hs7).mono ?_
      rintro e w7 ⟨v7, rfl, ⟨st, rfl⟩, hd7, hz7, hR7⟩
      have hB7 := hb7.chg hd7 HNE.out.1
      have k7 := hB7.cell
      have f7 := hB7.frozen
      replace HP := hide (Pt9.step (p := ptb) (q := pz) (Φ := (fun u r' => ∃ r x, (fun u r' => ∃ r x, (fun u r => ∃ x1 rows, Sw eS 9 u (.slice ca cn cc) x1 ∧ NRow dR 84 u (.slice ra rn rc) rows ∧ s.bind ptb = KT x1 rows r) u r ∧ pz r = some (x, r') ∧ (fun _ x => md = x ∧ R64 x) u x) u r ∧ pz r = some (x, r') ∧ (fun _ x => gn = x ∧ R64 x) u x)) (R := fun _ x => st = x ∧ R64 x) hs7 hc7 hr7 HNE.out.2.2 HNE.out.2.1 HNE.out.1 hd7 hz7 (fun x l' e => by have := hR7 x l' e; simp at this; exact this) (chg_setCell (F := fun k => k = rb) (b := rb) (o := 4) _ (I st) (.inl rfl)) hB7 (hB7.set 4 (I st)) (fun u u' r' k ⟨r, x, h1, h2, h3⟩ => ⟨r, x, (fun u u' r' k ⟨r, x, h1, h2, h3⟩ => ⟨r, x, (fun u u' r k ⟨x1, rows, h1, h2, h3⟩ => ⟨x1, rows, h1.kx k (by decide), h2.kx k (by decide) (by decide), h3⟩) u u' r k h1, h2, (fun _ _ _ _ h => h) u u' x k h3⟩) u u' r k h1, h2, (fun _ _ _ _ h => h) u u' x k h3⟩) (fun _ _ _ _ h => h) (fun u r h e => by
        obtain ⟨r2, x2, ⟨r1, x1, ⟨xc, xr, hS, hR, h0⟩, e1, g1⟩, e2, g2⟩ := h
        rw [h0]; simp [KT, e1, e2, e]))
      clear hs7 hc7 hb7 hr7 hd7 hz7 hR7 hB7
      obtain ⟨s9, hs9, hc9, hb9, hr9⟩ := id HP.out
      have hq9 := HR1.out.2.chg hc9 HNR.out.1
      have c9 := hb9.cell
      have m9 := hq9.cell
      have z9 := hq9.frozen
      have HQ9 := hide hq9
      have HF : Hid (∀ u, Chg (fun k => k = w.heap.size) (w7.setCell ⟨rb, 4, none⟩ (I st)) u → RetF N ptb (fun v => ∃ (ca : Option Addr) (cn cc : Nat) (ra : Option Addr) (rn rc : Nat) (md gn st : Int), v = .agg #[.slice ca cn cc, .slice ra rn rc, I md, I gn, I st]) (fun u v x => ∀ (ca : Option Addr) (cn cc : Nat) (ra : Option Addr) (rn rc : Nat) (md gn st : Int), v = .agg #[.slice ca cn cc, .slice ra rn rc, I md, I gn, I st] → dT.r u [.slice ca cn cc, .slice ra rn rc, I md, I gn, I st] x) b w s (.returned (.agg #[.slice ca cn cc, .slice ra rn rc, I md, I gn, I st])) u) := fun u hu => Pt9.fin2 HR1.out.1 HP.out HQ9.out hu HNR.out (fun u u' r' k ⟨r, x, h1, h2, h3⟩ => ⟨r, x, (fun u u' r' k ⟨r, x, h1, h2, h3⟩ => ⟨r, x, (fun u u' r' k ⟨r, x, h1, h2, h3⟩ => ⟨r, x, (fun u u' r k ⟨x1, rows, h1, h2, h3⟩ => ⟨x1, rows, h1.kx k (by decide), h2.kx k (by decide) (by decide), h3⟩) u u' r k h1, h2, (fun _ _ _ _ h => h) u u' x k h3⟩) u u' r k h1, h2, (fun _ _ _ _ h => h) u u' x k h3⟩) u u' r k h1, h2, (fun _ _ _ _ h => h) u u' x k h3⟩) ⟨ca, cn, cc, ra, rn, rc, md, gn, st, rfl⟩ (fun u r h => by
        obtain ⟨r3, x3, ⟨r2, x2, ⟨r1, x1, ⟨xc, xr, hS, hR, h0⟩, e1, g1⟩, e2, g2⟩, e3, g3⟩ := h
        refine ⟨⟨xc, xr, x1, x2, x3⟩, ?_, ?_⟩
        · rw [h0]; simp [KT, e1, e2, e3]
        · intro y0 y1 y2 y3 y4 y5 y6 y7 y8 ev
          simp only [Value.agg.injEq, Value.int.injEq, Value.slice.injEq, List.cons.injEq, Array.mk.injEq, and_true, true_and] at ev
          obtain ⟨⟨rfl, rfl, rfl⟩, ⟨rfl, rfl, rfl⟩, rfl, rfl, rfl⟩ := ev
          exact ⟨_, _, by rw [g1.1, g2.1, g3.1], hS, hR⟩)
      clear hs9 hc9 hb9 hr9 HP hq9
      go_wp2_with fail
      have hC9 := (((((HQ9.out.set 0 (.slice ca cn cc)).set 1 (.slice ra rn rc)).set 2 (I md)).set 3 (I gn)).set 4 (I st))
      exact bodyPost_ret_by (v := .agg #[.slice ca cn cc, .slice ra rn rc, I md, I gn, I st]) (results_cell_row Tryd.results17 _ _ w.heap.size 56 _ (0, 0) _ rfl hC9.h Tryd.underlying56 rfl (by kernel_rfl)) rfl (HF.out _ ((((((chg_setCell (F := fun k => k = w.heap.size) (b := w.heap.size) (o := 0) _ (.slice ca cn cc) (.inl rfl)).trans (chg_setCell (F := fun k => k = w.heap.size) (b := w.heap.size) (o := 1) _ (.slice ra rn rc) (.inl rfl))).trans (chg_setCell (F := fun k => k = w.heap.size) (b := w.heap.size) (o := 2) _ (I md) (.inl rfl))).trans (chg_setCell (F := fun k => k = w.heap.size) (b := w.heap.size) (o := 3) _ (I gn) (.inl rfl))).trans (chg_setCell (F := fun k => k = w.heap.size) (b := w.heap.size) (o := 4) _ (I st) (.inl rfl)))))
end Go.Proofs.YtcdjjmjhdoanlaaDoor
