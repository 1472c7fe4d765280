/- Wire: structs, read. -/
import Derived.Test.YtcdjjmjhdoanlaaGreatDoorW42
namespace Go.Proofs.YtcdjjmjhdoanlaaGreatDoor
section
open Go.RowKit

abbrev dV : Nst Vl := Nst.enc eV
theorem info_V : ∃ i, Tryz.prog.info? 137 = some i ∧ i.zero = some (V 0 0 0 E0) ∧ i.size = 4 ∧ i.bytes = 40 := info_parts (by kernel_rfl)
theorem valN_any (N : Nat) (w : World) (b : Nat) (s : Option (List Nat)) (h : Sc N w b s) (hN : N ≤ w.heap.size) (hT : TB b w) :
    Calls Tryz.prog 95 #[ptr b] w (GetF N pvl (fun v => ∃ k a b s, v = V k a b s) (fun u v x => ∀ (q0 q1 q2 : Int) (q3 : ByteArray), v = V q0 q1 q2 q3 → dV.r u [I q0, I q1, I q2, .string q3] x) b w s) :=
  (value2_any N w b s h hN hT).mono fun _ _ ⟨v, h1, h2, h3, h4, h5⟩ => ⟨v, h1, h2, h3, h4, fun x l' e q0 q1 q2 q3 ev => by
    have := h5 x l' e
    rw [ev] at this
    simp at this
    obtain ⟨rfl, rfl, rfl, rfl⟩ := this
    rfl⟩
set_option maxRecDepth 100000 in
set_option maxHeartbeats 1000000 in
theorem getV_any (N : Nat) (w : World) (b : Nat) (s : Option (List Nat)) (h : Sc N w b s) (hN : N ≤ w.heap.size) (hT : TB b w) :
    Calls Tryz.prog 94 #[ptr b, .func (.func 95) #[] #[]] w (GetF N (pl pvl) (fun v => ∃ a n c, v = .slice a n c) (fun u v l => NRow dV 137 u v l) b w s) := by
  have KC := hide (count2_any N w b s h)
  have HT := hide hT
  clear h hT
  go_enter Tryz.func94, Tryz.ntmps94
  go_wp2_with fail
  refine KC.out.mono ?_
  rintro e w1 ⟨v1, rfl, hc1, hcase⟩
  have hst : ∃ (n : Nat) (s1 : Option (List Nat)), v1 = .int .u64 n ∧ n < 18446744073709551616 ∧ Sc N w1 b s1 ∧ s.bind (pl pvl) = s1.bind (fun r => if r.length < n then none else prep pvl n r) ∧ (s1 = none → n = 0) := by
    rcases hcase with ⟨n, l', hp, hs1, rfl⟩ | ⟨hp, hs1, rfl⟩
    · refine ⟨n, some l', rfl, by cases s with | none => cases hp | some l => exact pc_lt hp, hs1, ?_, fun q => by cases q⟩
      cases s with
      | none => cases hp
      | some l => show ((pc l).bind _) = _; rw [show pc l = some (n, l') from hp]; rfl
    · refine ⟨0, none, rfl, by decide, hs1, ?_, fun _ => rfl⟩
      cases s with
      | none => rfl
      | some l => show ((pc l).bind _) = _; rw [show pc l = none from hp]; rfl
  obtain ⟨n, s1, rfl, hn, hs1, hpl, h0⟩ := hst
  obtain ⟨p1, c1, bad1, l1, b1, hr1, _, hl1, h51, _⟩ := hs1.form
  have k1 := b1.cell
  have f1 := b1.frozen
  have u1 : IntKind.u64.wrap (l1.length : Int) = (l1.length : Int) := by rw [IntKind.wrap_u64]; omega
  have hstart : ∃ (w2 : World) (s2 : Option (List Nat)), (((l1.length : Int) < (n : Int) ∧ w2 = w1.setCell ⟨b, 1, none⟩ (.bool true)) ∨ (¬ (l1.length : Int) < (n : Int) ∧ w2 = w1)) ∧ Sc N w2 b s2 ∧ Cb b w1 w2 ∧ ((s2 = none ∧ s.bind (pl pvl) = none) ∨ (∃ r, s2 = some r ∧ n ≤ 2097152 ∧ s.bind (pl pvl) = prep pvl n r)) := by
    by_cases c : l1.length < n
    · have hsp := hs1.spoil
      refine ⟨_, none, .inl ⟨by omega, rfl⟩, hsp.1, hsp.2, .inl ⟨rfl, ?_⟩⟩
      rcases h51 with ⟨_, q⟩ | ⟨_, q⟩
      · rw [hpl, q]; rfl
      · rw [hpl, q]; show (if l1.length < n then none else _) = _; rw [if_pos c]
    · refine ⟨w1, s1, .inr ⟨by omega, rfl⟩, hs1, Chg.refl _ _, ?_⟩
      rcases h51 with ⟨_, q⟩ | ⟨_, q⟩
      · exact .inl ⟨q, by rw [hpl, q]; rfl⟩
      · exact .inr ⟨l1, q, by omega, by rw [hpl, q]; show (if l1.length < n then none else _) = _; rw [if_neg c]⟩
  obtain ⟨w2, s2, hw2, hs2, hc2, hrel2⟩ := hstart
  have HS := hide (And.intro hs2 (And.intro (hc1.trans hc2) hrel2))
  have HN := hide hn
  have HNN := hide hN
  clear hN hc1 hs1 hpl h0 b1 hr1 hl1 h51 hs2 hc2 hrel2 KC hcase hn
  rcases hw2 with ⟨i1, rfl⟩ | ⟨i1, rfl⟩
  · skip
    go_wp2_with fail
    go_loopw [21, 6] (fun iv ov wr => ∃ (i : Nat) (s' : Option (List Nat)) (rs : List (Raw (dV).s)), iv = .int .u64 i ∧ i ≤ n ∧ Sw (eR (dV).s) 137 wr ov rs ∧ Fresh w ov ∧ Cb b w wr ∧ Sc N wr b s' ∧ rs.length = i ∧ ((s' = none ∧ s.bind (pl pvl) = none) ∨ (∃ (r : List Nat) (xs : List (Vl)), s' = some r ∧ n ≤ 2097152 ∧ xs.length = i ∧ (∀ (j : Nat) (c : Raw (dV).s) (x : Vl), rs[j]? = some c → xs[j]? = some x → (dV).r wr c.1 x) ∧ s.bind (pl pvl) = (prep pvl (n - i) r).map fun y => (xs ++ y.1, y.2)))) (fun iv _ _ => n - (RowKit.intOf iv).toNat)
    case atStart =>
      obtain ⟨hs2, hc2, hrel2⟩ := HS.out
      refine ⟨0, s2, [], rfl, Nat.zero_le _, Sw.nil _ _ _, Fresh.nil _, hc2, hs2, rfl, ?_⟩
      rcases hrel2 with q | ⟨r, q1, q2, q3⟩
      · exact .inl q
      · exact .inr ⟨r, [], q1, q2, rfl, fun j c x e => by simp at e, by rw [q3]; simp⟩
    case round =>
      obtain ⟨i, s', rs, rfl, hin, ho, hof, hch, hs, hxl, hrel'⟩ := hrel
      clear HS k1 f1 u1 i1 
      obtain ⟨p3, n3, c3, b3⟩ := hs.bad
      have k3 := b3.cell
      by_cases hlt : i < n
      · have i2 : (i : Int) < (n : Int) := by omega
        cases s' with
        | none =>
          have hno : s.bind (pl pvl) = none := by
            rcases hrel' with ⟨_, q⟩ | ⟨r, xs, q, _⟩
            · exact q
            · cases q
          have HF : Hid (GetF N (pl pvl) (fun v => ∃ a n c, v = .slice a n c) (fun u v l => NRow dV 137 u v l) b w s (.returned (.slice none 0 0)) wr) := ⟨_, rfl, ⟨_, _, _, rfl⟩, hch, by rw [hno]; exact hs, fun x l' e => by rw [hno] at e; cases e⟩
          simp only [Option.isNone_none] at k3
          clear hin ho hof hch hs hxl hrel' b3 hlt hno
          go_wp2_with fail
          go_ret
          exact HF.out
        | some r =>
          obtain ⟨xs, n21, hxs, hD, hpp⟩ : ∃ xs : List (Vl), n ≤ 2097152 ∧ xs.length = i ∧ (∀ (j : Nat) (c : Raw (dV).s) (x : Vl), rs[j]? = some c → xs[j]? = some x → (dV).r wr c.1 x) ∧ s.bind (pl pvl) = (prep pvl (n - i) r).map fun y => (xs ++ y.1, y.2) := by
            rcases hrel' with ⟨q, _⟩ | ⟨r', xs, q, q2⟩
            · cases q
            · cases q; exact ⟨xs, q2⟩
          have KG := hide (valN_any N wr b (some r) hs (Nat.le_trans HNN.out hch.size) (HT.out.cb hch))
          have hob : ∀ k, u6.ownBlock = some k → ¬ k = b := fun k hk e => by subst e; exact ho.ne b3 (by decide) hk
          have HO := hide (And.intro ho (And.intro hof hob))
          have HC := hide hch
          have HB3 := hide b3
          have HX := hide (And.intro hxl (And.intro n21 (And.intro hxs (And.intro hpp (And.intro hlt hD)))))
          simp only [Option.isNone_some] at k3
          clear hin ho hof hch hs hxl hrel' b3 hlt n21 hpp hob hxs hD
          go_wp2_with fail
          refine KG.out.mono ?_
          rintro e w4 ⟨v4, rfl, ⟨q0, q1, q2, q3, rfl⟩, hc4, hs4, hR4⟩
          obtain ⟨ho, hof, hob⟩ := HO.out
          have hA := (G.refl w4).alloc (.cells #[I q0, I q1, I q2, .string q3] 137)
          have ho4' := ho.chg hc4 hob
          have ho4 := ho4'.G hA
          obtain ⟨i0, hi0, hz0, hz1, hz2⟩ := info_V
          have hmx : (2097153 : Nat) ≤ maxLen := of_decide_eq_true (by kernel_rfl)
          have hxl := HX.out.1
          have n21 := HX.out.2.1
          have hlt := HX.out.2.2.2.2.1
          obtain ⟨c, hc⟩ : ∃ c : Raw (dV).s, c.1 = [I q0, I q1, I q2, .string q3] := ⟨⟨[I q0, I q1, I q2, .string q3], rfl, fun u hu => by simp at hu; rcases hu with rfl | rfl | rfl | rfl <;> rfl⟩, rfl⟩
          have hlit : Row (eR (dV).s).rel (w4.alloc (.cells #[I q0, I q1, I q2, .string q3] 137)) (.slice (some ⟨w4.heap.size, 0, none⟩) 1 1) [c] := by
            have := Row.lit (E := eR (dV).s) w4 137 [c] 1 (by simp)
            rw [show (eR (dV).s).fl [c] = [I q0, I q1, I q2, .string q3] by simp [Enc.fl, hc]] at this
            exact this
          obtain ⟨v5, w5, hr5, hs5, hch5, hob5⟩ := app_row (P := Tryz.prog) (tr := 75) (ns := [c]) i0 _ 40 Tryz.underlying75 hi0 hz0 hz1 hz2 rfl (by decide) ho4 hlit (by simp; omega) (by simp; omega)
          have hcA : Cb b w (w4.alloc (.cells #[I q0, I q1, I q2, .string q3] 137)) := (HC.out.trans hc4).trans hA.chg
          have hc5 : Cb b w w5 := hcA.more hch5 (fun k hk q => absurd (hof k q) (by omega))
          have hf5 : Fresh w v5 := fun k hk => by
            rcases hob5 with q | q
            · rw [q] at hk; exact hof k hk
            · rw [q] at hk; have h1 := Option.some.inj hk; have h2 := hcA.size; omega
          have hsc5 := (hs4.G hA).own (W := w) (fun k hk => ⟨hof k hk, hob k hk⟩) HNN.out hch5
          have kx1 : Kx [62, 137] wr w4 := Kx.one hc4 HB3.out (by simp)
          have kx2 : Kx [62, 137] w4 w5 := (Kx.of_G hA).trans (Kx.own hch5 ho4 (by simp))
          have hty : ∀ t ∈ (dV).tys, t ∉ [62, 137] := by decide
          have HNX : Hid (((((some r).bind pvl).map (·.2)) = none ∧ s.bind (pl pvl) = none) ∨ (∃ (r4 : List Nat) (ys : List (Vl)), (((some r).bind pvl).map (·.2)) = some r4 ∧ n ≤ 2097152 ∧ ys.length = i + 1 ∧ (∀ (j : Nat) (c' : Raw (dV).s) (x : Vl), (rs ++ [c])[j]? = some c' → ys[j]? = some x → (dV).r w5 c'.1 x) ∧ s.bind (pl pvl) = (prep pvl (n - (i + 1)) r4).map fun y => (ys ++ y.1, y.2))) := by
            obtain ⟨hxl, n21, hxs, hpp, hlt, hD⟩ := HX.out
            have hR4 : ∀ x l', pvl r = some (x, l') → _ := hR4
            show ((((pvl r).map (·.2)) = none) ∧ _) ∨ (∃ r4 ys, (pvl r).map (·.2) = some r4 ∧ _)
            cases e : pvl r with
            | none =>
              refine .inl ⟨rfl, ?_⟩
              rw [hpp, show n - i = (n - (i + 1)) + 1 by omega]
              exact prep_stop pvl _ r xs e
            | some y =>
              obtain ⟨x, r4⟩ := y
              refine .inr ⟨r4, xs ++ [x], rfl, n21, by simp [hxs], ?_, ?_⟩
              · exact nrow_step (fun j c' x' e1 e2 => (dV).keep (kx1.trans kx2) hty (hD j c' x' e1 e2)) (by rw [hxl, hxs]) ((dV).keep kx2 hty (by rw [hc]; exact hR4 x r4 e q0 q1 q2 q3 rfl))
              · rw [hpp, show n - i = (n - (i + 1)) + 1 by omega]
                exact prep_step pvl _ r r4 x xs e
          have HR5 := hide hr5
          obtain ⟨s5, hs5e⟩ : ∃ s5, s5 = ((some r).bind pvl).map (·.2) := ⟨_, rfl⟩
          rw [← hs5e] at hsc5 HNX
          have HF : Hid (∃ u, v5 = u ∧ Sw (eR (dV).s) 137 w5 u (rs ++ [c]) ∧ Fresh w u ∧ Cb b w w5 ∧ Sc N w5 b s5 ∧ (rs ++ [c]).length = i + 1 ∧ i < n) := ⟨_, rfl, hs5, hf5, hc5, hsc5, by simp; exact hxl, hlt⟩
          have HW : Hid (IntKind.u64.wrap ((i : Int) + 1) = (i : Int) + 1) := by show _ = _; rw [IntKind.wrap_u64]; omega
          clear hc4 hs4 hR4 ho hof hob hA ho4 ho4' hi0 hz0 hz1 hz2 hmx hxl n21 hlt hr5 hs5 hch5 hob5 hcA hc5 hf5 hsc5 KG HO HC HX k3 hs5e hlit kx1 kx2 hty HB3 hc
          go_wp2_with (first | (at_builtin; refine wpList_append_run rfl _ _ 75 rfl u6 (.slice (some ⟨w4.heap.size, 0, none⟩) 1 1) rfl rfl HR5.out ?_) | fail)
          try rw [HW.out]
          obtain ⟨u, rfl, r1, r2, r3, r4, r5, r6⟩ := HF.out
          refine ⟨⟨i + 1, s5, rs ++ [c], rfl, r6, r1, r2, r3, r4, r5, HNX.out⟩, ?_⟩
          simp only [RowKit.intOf]; omega
      · have i2 : ¬ (i : Int) < (n : Int) := by omega
        have ei : i = n := by omega
        obtain ⟨oa, oc, hov⟩ := ho.form
        have HF : Hid (GetF N (pl pvl) (fun v => ∃ a n c, v = .slice a n c) (fun u v l => NRow dV 137 u v l) b w s (.returned u6) wr) := by
          refine ⟨_, rfl, ⟨_, _, _, hov⟩, hch, ?_⟩
          rcases hrel' with ⟨q, q2⟩ | ⟨r, xs, q, q2, q3, q4, q5⟩
          · subst q; rw [q2]; exact ⟨hs, fun x l' e => by cases e⟩
          · subst q
            rw [ei, Nat.sub_self, prep] at q5
            have q5 : s.bind (pl pvl) = some (xs, r) := by rw [q5]; simp
            rw [q5]
            exact ⟨hs, fun x l' e => by cases e; exact ⟨rs, ho, by omega, q4⟩⟩
        clear hin ho hof hch hs hxl hrel' b3 hlt ei hov
        go_wp2_with fail
        go_ret
        exact HF.out
  · have d1 : decide ((l1.length : Int) < (n : Int)) = false := decide_eq_false i1
    have d2 : decide (l1.length < n) = false := decide_eq_false (by omega)
    go_wp2_with fail
    go_loopw [21, 6] (fun iv ov wr => ∃ (i : Nat) (s' : Option (List Nat)) (rs : List (Raw (dV).s)), iv = .int .u64 i ∧ i ≤ n ∧ Sw (eR (dV).s) 137 wr ov rs ∧ Fresh w ov ∧ Cb b w wr ∧ Sc N wr b s' ∧ rs.length = i ∧ ((s' = none ∧ s.bind (pl pvl) = none) ∨ (∃ (r : List Nat) (xs : List (Vl)), s' = some r ∧ n ≤ 2097152 ∧ xs.length = i ∧ (∀ (j : Nat) (c : Raw (dV).s) (x : Vl), rs[j]? = some c → xs[j]? = some x → (dV).r wr c.1 x) ∧ s.bind (pl pvl) = (prep pvl (n - i) r).map fun y => (xs ++ y.1, y.2)))) (fun iv _ _ => n - (RowKit.intOf iv).toNat)
    case atStart =>
      obtain ⟨hs2, hc2, hrel2⟩ := HS.out
      refine ⟨0, s2, [], rfl, Nat.zero_le _, Sw.nil _ _ _, Fresh.nil _, hc2, hs2, rfl, ?_⟩
      rcases hrel2 with q | ⟨r, q1, q2, q3⟩
      · exact .inl q
      · exact .inr ⟨r, [], q1, q2, rfl, fun j c x e => by simp at e, by rw [q3]; simp⟩
    case round =>
      obtain ⟨i, s', rs, rfl, hin, ho, hof, hch, hs, hxl, hrel'⟩ := hrel
      clear HS k1 f1 u1 i1 d1 d2
      obtain ⟨p3, n3, c3, b3⟩ := hs.bad
      have k3 := b3.cell
      by_cases hlt : i < n
      · have i2 : (i : Int) < (n : Int) := by omega
        cases s' with
        | none =>
          have hno : s.bind (pl pvl) = none := by
            rcases hrel' with ⟨_, q⟩ | ⟨r, xs, q, _⟩
            · exact q
            · cases q
          have HF : Hid (GetF N (pl pvl) (fun v => ∃ a n c, v = .slice a n c) (fun u v l => NRow dV 137 u v l) b w s (.returned (.slice none 0 0)) wr) := ⟨_, rfl, ⟨_, _, _, rfl⟩, hch, by rw [hno]; exact hs, fun x l' e => by rw [hno] at e; cases e⟩
          simp only [Option.isNone_none] at k3
          clear hin ho hof hch hs hxl hrel' b3 hlt hno
          go_wp2_with fail
          go_ret
          exact HF.out
        | some r =>
          obtain ⟨xs, n21, hxs, hD, hpp⟩ : ∃ xs : List (Vl), n ≤ 2097152 ∧ xs.length = i ∧ (∀ (j : Nat) (c : Raw (dV).s) (x : Vl), rs[j]? = some c → xs[j]? = some x → (dV).r wr c.1 x) ∧ s.bind (pl pvl) = (prep pvl (n - i) r).map fun y => (xs ++ y.1, y.2) := by
            rcases hrel' with ⟨q, _⟩ | ⟨r', xs, q, q2⟩
            · cases q
            · cases q; exact ⟨xs, q2⟩
          have KG := hide (valN_any N wr b (some r) hs (Nat.le_trans HNN.out hch.size) (HT.out.cb hch))
          have hob : ∀ k, u6.ownBlock = some k → ¬ k = b := fun k hk e => by subst e; exact ho.ne b3 (by decide) hk
          have HO := hide (And.intro ho (And.intro hof hob))
          have HC := hide hch
          have HB3 := hide b3
          have HX := hide (And.intro hxl (And.intro n21 (And.intro hxs (And.intro hpp (And.intro hlt hD)))))
          simp only [Option.isNone_some] at k3
          clear hin ho hof hch hs hxl hrel' b3 hlt n21 hpp hob hxs hD
          go_wp2_with fail
          refine KG.out.mono ?_
          rintro e w4 ⟨v4, rfl, ⟨q0, q1, q2, q3, rfl⟩, hc4, hs4, hR4⟩
          obtain ⟨ho, hof, hob⟩ := HO.out
          have hA := (G.refl w4).alloc (.cells #[I q0, I q1, I q2, .string q3] 137)
          have ho4' := ho.chg hc4 hob
          have ho4 := ho4'.G hA
          obtain ⟨i0, hi0, hz0, hz1, hz2⟩ := info_V
          have hmx : (2097153 : Nat) ≤ maxLen := of_decide_eq_true (by kernel_rfl)
          have hxl := HX.out.1
          have n21 := HX.out.2.1
          have hlt := HX.out.2.2.2.2.1
          obtain ⟨c, hc⟩ : ∃ c : Raw (dV).s, c.1 = [I q0, I q1, I q2, .string q3] := ⟨⟨[I q0, I q1, I q2, .string q3], rfl, fun u hu => by simp at hu; rcases hu with rfl | rfl | rfl | rfl <;> rfl⟩, rfl⟩
          have hlit : Row (eR (dV).s).rel (w4.alloc (.cells #[I q0, I q1, I q2, .string q3] 137)) (.slice (some ⟨w4.heap.size, 0, none⟩) 1 1) [c] := by
            have := Row.lit (E := eR (dV).s) w4 137 [c] 1 (by simp)
            rw [show (eR (dV).s).fl [c] = [I q0, I q1, I q2, .string q3] by simp [Enc.fl, hc]] at this
            exact this
          obtain ⟨v5, w5, hr5, hs5, hch5, hob5⟩ := app_row (P := Tryz.prog) (tr := 75) (ns := [c]) i0 _ 40 Tryz.underlying75 hi0 hz0 hz1 hz2 rfl (by decide) ho4 hlit (by simp; omega) (by simp; omega)
          have hcA : Cb b w (w4.alloc (.cells #[I q0, I q1, I q2, .string q3] 137)) := (HC.out.trans hc4).trans hA.chg
          have hc5 : Cb b w w5 := hcA.more hch5 (fun k hk q => absurd (hof k q) (by omega))
          have hf5 : Fresh w v5 := fun k hk => by
            rcases hob5 with q | q
            · rw [q] at hk; exact hof k hk
            · rw [q] at hk; have h1 := Option.some.inj hk; have h2 := hcA.size; omega
          have hsc5 := (hs4.G hA).own (W := w) (fun k hk => ⟨hof k hk, hob k hk⟩) HNN.out hch5
          have kx1 : Kx [62, 137] wr w4 := Kx.one hc4 HB3.out (by simp)
          have kx2 : Kx [62, 137] w4 w5 := (Kx.of_G hA).trans (Kx.own hch5 ho4 (by simp))
          have hty : ∀ t ∈ (dV).tys, t ∉ [62, 137] := by decide
          have HNX : Hid (((((some r).bind pvl).map (·.2)) = none ∧ s.bind (pl pvl) = none) ∨ (∃ (r4 : List Nat) (ys : List (Vl)), (((some r).bind pvl).map (·.2)) = some r4 ∧ n ≤ 2097152 ∧ ys.length = i + 1 ∧ (∀ (j : Nat) (c' : Raw (dV).s) (x : Vl), (rs ++ [c])[j]? = some c' → ys[j]? = some x → (dV).r w5 c'.1 x) ∧ s.bind (pl pvl) = (prep pvl (n - (i + 1)) r4).map fun y => (ys ++ y.1, y.2))) := by
            obtain ⟨hxl, n21, hxs, hpp, hlt, hD⟩ := HX.out
            have hR4 : ∀ x l', pvl r = some (x, l') → _ := hR4
            show ((((pvl r).map (·.2)) = none) ∧ _) ∨ (∃ r4 ys, (pvl r).map (·.2) = some r4 ∧ _)
            cases e : pvl r with
            | none =>
              refine .inl ⟨rfl, ?_⟩
              rw [hpp, show n - i = (n - (i + 1)) + 1 by omega]
              exact prep_stop pvl _ r xs e
            | some y =>
              obtain ⟨x, r4⟩ := y
              refine .inr ⟨r4, xs ++ [x], rfl, n21, by simp [hxs], ?_, ?_⟩
              · exact nrow_step (fun j c' x' e1 e2 => (dV).keep (kx1.trans kx2) hty (hD j c' x' e1 e2)) (by rw [hxl, hxs]) ((dV).keep kx2 hty (by rw [hc]; exact hR4 x r4 e q0 q1 q2 q3 rfl))
              · rw [hpp, show n - i = (n - (i + 1)) + 1 by omega]
                exact prep_step pvl _ r r4 x xs e
          have HR5 := hide hr5
          obtain ⟨s5, hs5e⟩ : ∃ s5, s5 = ((some r).bind pvl).map (·.2) := ⟨_, rfl⟩
          rw [← hs5e] at hsc5 HNX
          have HF : Hid (∃ u, v5 = u ∧ Sw (eR (dV).s) 137 w5 u (rs ++ [c]) ∧ Fresh w u ∧ Cb b w w5 ∧ Sc N w5 b s5 ∧ (rs ++ [c]).length = i + 1 ∧ i < n) := ⟨_, rfl, hs5, hf5, hc5, hsc5, by simp; exact hxl, hlt⟩
          have HW : Hid (IntKind.u64.wrap ((i : Int) + 1) = (i : Int) + 1) := by show _ = _; rw [IntKind.wrap_u64]; omega
          clear hc4 hs4 hR4 ho hof hob hA ho4 ho4' hi0 hz0 hz1 hz2 hmx hxl n21 hlt hr5 hs5 hch5 hob5 hcA hc5 hf5 hsc5 KG HO HC HX k3 hs5e hlit kx1 kx2 hty HB3 hc
          go_wp2_with (first | (at_builtin; refine wpList_append_run rfl _ _ 75 rfl u6 (.slice (some ⟨w4.heap.size, 0, none⟩) 1 1) rfl rfl HR5.out ?_) | fail)
          try rw [HW.out]
          obtain ⟨u, rfl, r1, r2, r3, r4, r5, r6⟩ := HF.out
          refine ⟨⟨i + 1, s5, rs ++ [c], rfl, r6, r1, r2, r3, r4, r5, HNX.out⟩, ?_⟩
          simp only [RowKit.intOf]; omega
      · have i2 : ¬ (i : Int) < (n : Int) := by omega
        have ei : i = n := by omega
        obtain ⟨oa, oc, hov⟩ := ho.form
        have HF : Hid (GetF N (pl pvl) (fun v => ∃ a n c, v = .slice a n c) (fun u v l => NRow dV 137 u v l) b w s (.returned u6) wr) := by
          refine ⟨_, rfl, ⟨_, _, _, hov⟩, hch, ?_⟩
          rcases hrel' with ⟨q, q2⟩ | ⟨r, xs, q, q2, q3, q4, q5⟩
          · subst q; rw [q2]; exact ⟨hs, fun x l' e => by cases e⟩
          · subst q
            rw [ei, Nat.sub_self, prep] at q5
            have q5 : s.bind (pl pvl) = some (xs, r) := by rw [q5]; simp
            rw [q5]
            exact ⟨hs, fun x l' e => by cases e; exact ⟨rs, ho, by omega, q4⟩⟩
        clear hin ho hof hch hs hxl hrel' b3 hlt ei hov
        go_wp2_with fail
        go_ret
        exact HF.out
end
open Go.RowKit

/-- A property. -/
structure Pr where
  key : ByteArray
  v : Vl
abbrev ePr : Enc Pr := ⟨fun x => [.string x.key, I x.v.k, I x.v.a, I x.v.b, .string x.v.s], 5, fun _ => rfl, fun _ u hu => by simp at hu; rcases hu with rfl | rfl | rfl | rfl | rfl <;> rfl⟩
abbrev dP : Nst Pr := Nst.enc ePr
/-- A property, read. -/
def ppr (l : List Nat) : Option (Pr × List Nat) := (pt l).bind fun x => (pvl x.2).bind fun y => some (⟨x.1, y.1⟩, y.2)
theorem info_P : ∃ i, Tryz.prog.info? 156 = some i ∧ i.zero = some (.agg #[.string E0, I 0, I 0, I 0, .string E0]) ∧ i.size = 5 ∧ i.bytes = 56 := info_parts (by kernel_rfl)
/-- All fields are read. -/
theorem Ps.fin {β : Type} {N b : Nat} {w u u' : World} {s : Option (List Nat)} {p : List Nat → Option (β × List Nat)} {rb : Nat} {T : TypeId} {cs : List Value} {Φ : World → List Nat → Prop} {Vf : Value → Prop} {R : World → Value → β → Prop} {v : Value} (h : Ps N b w s p rb T cs Φ u) (h3 : Chg (fun k => k = rb) u u') (hb : rb ≠ b ∧ w.heap.size ≤ rb ∧ N ≤ rb) (kΦ : ∀ u u' r, Kx [62, T] u u' → Φ u r → Φ u' r) (hV : Vf v) (hΦ : ∀ u r, Φ u r → ∃ x, s.bind p = some (x, r) ∧ R u v x) : GetF N p Vf R b w s (.returned v) u' := by
  obtain ⟨s', hs, hc, hB, hr⟩ := h
  have hs9 := hs.far (F := fun k => k = rb) (fun k hk => by subst hk; exact ⟨hb.2.2, hb.1⟩) h3
  refine ⟨v, rfl, hV, hc.more h3 (fun k hk e => by omega), ?_⟩
  rcases hr with ⟨rfl, q⟩ | ⟨r, rfl, q⟩
  · rw [q]; exact ⟨hs9, fun x l' e => by cases e⟩
  · obtain ⟨x, q1, q2⟩ := hΦ _ r (kΦ _ _ _ (Kx.one h3 hB (by simp)) q)
    rw [q1]
    exact ⟨hs9, fun y l' e => by cases e; exact q2⟩
set_option maxRecDepth 100000 in
set_option maxHeartbeats 1000000 in
theorem prop2_any (N : Nat) (w : World) (b : Nat) (s : Option (List Nat)) (h : Sc N w b s) (hN : N ≤ w.heap.size) (hT : TB b w) :
    Calls Tryz.prog 85 #[ptr b] w (GetF N ppr (fun v => ∃ (key : ByteArray) (vk va vc : Int) (vt : ByteArray), v = .agg #[.string key, I vk, I va, I vc, .string vt]) (fun u v x => ∀ (key : ByteArray) (vk va vc : Int) (vt : ByteArray), v = .agg #[.string key, I vk, I va, I vc, .string vt] → (dP).r u [.string key, I vk, I va, I vc, .string vt] x) b w s) := by
  obtain ⟨xs0, hb0⟩ := h.blk
  have hbl := hb0.lt
  obtain ⟨u0, hw0⟩ : ∃ u0, u0 = w.alloc (.cells #[.string { data := #[] }, I 0, I 0, I 0, .string { data := #[] }] 156) := ⟨_, rfl⟩
  obtain ⟨rb, hrb⟩ : ∃ rb, rb = w.heap.size := ⟨_, rfl⟩
  have HP : Hid (Ps N b w s ppr rb 156 [.string { data := #[] }, I 0, I 0, I 0, .string { data := #[] }] (fun _ r => s = some r) u0) := Ps.start ppr h (by rw [hw0]; exact (G.refl w).alloc _) (by rw [hw0, hrb]; exact Blk.new w [.string { data := #[] }, I 0, I 0, I 0, .string { data := #[] }] _)
  have HNE : Hid (rb ≠ b ∧ w.heap.size ≤ rb ∧ N ≤ rb) := ⟨by omega, by omega, by omega⟩
  have HNW := hide hN
  have HW := hide hw0
  have HRB := hide hrb
  have HT := hide hT
  clear h hN hT hb0 hbl hw0 hrb
  go_enter Tryz.func85, Tryz.ntmps85
  go_wp2_with fail
  rw [show w.alloc (.cells #[.string { data := #[] }, I 0, I 0, I 0, .string { data := #[] }] 156) = u0 from HW.out.symm]
  rw [← HRB.out]
  obtain ⟨s1, hs1, hc1, hb1, hr1⟩ := HP.out
  refine (tF_any N _ b s1 hs1).mono ?_
  rintro e w1 ⟨v1, rfl, ⟨key, rfl, hzkey⟩, hd1, hz1, hR1⟩
  have hB1 := hb1.chg hd1 HNE.out.1
  have k1 := hB1.cell
  have f1 := hB1.frozen
  replace HP := hide (Ps.step (p := ppr) (q := pt) (Φ := (fun _ r => s = some r)) (R := fun _ x => key = x) hs1 hc1 hr1 HNE.out.2.2 HNE.out.2.1 HNE.out.1 hd1 hz1 (fun x l' e => by have := hR1 x l' e; simp at this; exact this) (chg_setCell (F := fun k => k = rb) (b := rb) (o := 0) _ (.string key) (.inl rfl)) hB1 (hB1.set 0 (.string key)) (fun _ _ _ _ h => h) (fun _ _ _ _ h => h) (fun u r h e => by
    have h0 := h
    rw [h0]
    show ppr _ = none
    simp [ppr, e]))
  clear hs1 hc1 hb1 hr1 hd1 hz1 hR1 hB1
  go_wp2_with fail
  generalize (w1.setCell ⟨rb, 0, none⟩ (.string key)) = u1 at HP ⊢
  clear k1 f1
  obtain ⟨s2, hs2, hc2, hb2, hr2⟩ := HP.out
  refine (value2_any N _ b s2 hs2 (Nat.le_trans HNW.out hc2.size) (HT.out.cb hc2)).mono ?_
  rintro e w2 ⟨v2, rfl, ⟨vk, va, vc, vt, rfl⟩, hd2, hz2, hR2⟩
  have hB2 := hb2.chg hd2 HNE.out.1
  have k2 := hB2.cell
  have f2 := hB2.frozen
  replace HP := hide (Ps.step (p := ppr) (q := pvl) (Φ := (fun u r' => ∃ r x, (fun _ r => s = some r) u r ∧ pt r = some (x, r') ∧ (fun _ x => key = x) u x)) (R := fun _ x => vk = x.k ∧ va = x.a ∧ vc = x.b ∧ vt = x.s) hs2 hc2 hr2 HNE.out.2.2 HNE.out.2.1 HNE.out.1 hd2 hz2 (fun x l' e => by have := hR2 x l' e; simp at this; exact this) ((((chg_setCell (F := fun k => k = rb) (b := rb) (o := 1) _ (I vk) (.inl rfl)).trans (chg_setCell (F := fun k => k = rb) (b := rb) (o := 2) _ (I va) (.inl rfl))).trans (chg_setCell (F := fun k => k = rb) (b := rb) (o := 3) _ (I vc) (.inl rfl))).trans (chg_setCell (F := fun k => k = rb) (b := rb) (o := 4) _ (.string vt) (.inl rfl))) hB2 ((((hB2.set 1 (I vk)).set 2 (I va)).set 3 (I vc)).set 4 (.string vt)) (fun u u' r' k ⟨r, x, h1, h2, h3⟩ => ⟨r, x, (fun _ _ _ _ h => h) u u' r k h1, h2, (fun _ _ _ _ h => h) u u' x k h3⟩) (fun _ _ _ _ h => h) (fun u r h e => by
    obtain ⟨r1, x1, h0, e1, g1⟩ := h
    rw [h0]
    show ppr _ = none
    simp [ppr, e1, e]))
  clear hs2 hc2 hb2 hr2 hd2 hz2 hR2 hB2
  obtain ⟨s9, hs9, hc9, hb9, hr9⟩ := id HP.out
  have HB9 := hide hb9
  have HF : Hid (∀ u, Chg (fun k => k = rb) ((((w2.setCell ⟨rb, 1, none⟩ (I vk)).setCell ⟨rb, 2, none⟩ (I va)).setCell ⟨rb, 3, none⟩ (I vc)).setCell ⟨rb, 4, none⟩ (.string vt)) u → GetF N ppr (fun v => ∃ (key : ByteArray) (vk va vc : Int) (vt : ByteArray), v = .agg #[.string key, I vk, I va, I vc, .string vt]) (fun u v x => ∀ (key : ByteArray) (vk va vc : Int) (vt : ByteArray), v = .agg #[.string key, I vk, I va, I vc, .string vt] → (dP).r u [.string key, I vk, I va, I vc, .string vt] x) b w s (.returned (.agg #[.string key, I vk, I va, I vc, .string vt])) u) := fun u hu => Ps.fin HP.out hu HNE.out (fun u u' r' k ⟨r, x, h1, h2, h3⟩ => ⟨r, x, (fun u u' r' k ⟨r, x, h1, h2, h3⟩ => ⟨r, x, (fun _ _ _ _ h => h) u u' r k h1, h2, (fun _ _ _ _ h => h) u u' x k h3⟩) u u' r k h1, h2, (fun _ _ _ _ h => h) u u' x k h3⟩) ⟨key, vk, va, vc, vt, rfl⟩ (fun u r h => by
    obtain ⟨r2, x2, ⟨r1, x1, h0, e1, g1⟩, e2, g2⟩ := h
    refine ⟨⟨x1, x2⟩, ?_, ?_⟩
    · rw [h0]
      show ppr _ = _
      simp [ppr, e1, e2]
    · intro y0 y1 y2 y3 y4 ev
      simp only [Value.agg.injEq, Value.int.injEq, Value.string.injEq, List.cons.injEq, Array.mk.injEq, and_true, true_and] at ev
      obtain ⟨rfl, rfl, rfl, rfl, rfl⟩ := ev
      obtain ⟨h1, h2, h3, h4⟩ := g2
      show _ = ePr.e _
      simp [g1, h1, h2, h3, h4])
  clear hs9 hc9 hb9 hr9 HP
  go_wp2_with fail
  have hC9 := (((((HB9.out.set 0 (.string key)).set 1 (I vk)).set 2 (I va)).set 3 (I vc)).set 4 (.string vt))
  exact bodyPost_ret_by (v := .agg #[.string key, I vk, I va, I vc, .string vt]) (results_cell_row Tryz.results85 _ _ rb 156 _ (0, 0) _ rfl hC9.h Tryz.underlying156 rfl (by kernel_rfl)) rfl (HF.out _ ((((((chg_setCell (F := fun k => k = rb) (b := rb) (o := 0) _ (.string key) (.inl rfl)).trans (chg_setCell (F := fun k => k = rb) (b := rb) (o := 1) _ (I vk) (.inl rfl))).trans (chg_setCell (F := fun k => k = rb) (b := rb) (o := 2) _ (I va) (.inl rfl))).trans (chg_setCell (F := fun k => k = rb) (b := rb) (o := 3) _ (I vc) (.inl rfl))).trans (chg_setCell (F := fun k => k = rb) (b := rb) (o := 4) _ (.string vt) (.inl rfl)))))
end Go.Proofs.YtcdjjmjhdoanlaaGreatDoor
