/- Wire: nodes, edges, tables, read. -/
import Derived.Test.YtcdjjmjhdoanlaaGreatDoorW44
namespace Go.Proofs.YtcdjjmjhdoanlaaGreatDoor
open Go.RowKit

set_option maxRecDepth 100000 in
set_option maxHeartbeats 1000000 in
theorem getP_any (N : Nat) (w : World) (b : Nat) (s : Option (List Nat)) (h : Sc N w b s) (hN : N ≤ w.heap.size) (hT : TB b w) :
    Calls Tryz.prog 84 #[ptr b, .func (.func 85) #[] #[]] w (GetF N (pl ppr) (fun v => ∃ a n c, v = .slice a n c) (fun u v l => NRow dP 156 u v l) b w s) := by
  have KC := hide (count2_any N w b s h)
  have HT := hide hT
  clear h hT
  go_enter Tryz.func84, Tryz.ntmps84
  go_wp2_with fail
  refine KC.out.mono ?_
  rintro e w1 ⟨v1, rfl, hc1, hcase⟩
  have hst : ∃ (n : Nat) (s1 : Option (List Nat)), v1 = .int .u64 n ∧ n < 18446744073709551616 ∧ Sc N w1 b s1 ∧ s.bind (pl ppr) = s1.bind (fun r => if r.length < n then none else prep ppr n r) ∧ (s1 = none → n = 0) := by
    rcases hcase with ⟨n, l', hp, hs1, rfl⟩ | ⟨hp, hs1, rfl⟩
    · refine ⟨n, some l', rfl, by cases s with | none => cases hp | some l => exact pc_lt hp, hs1, ?_, fun q => by cases q⟩
      cases s with
      | none => cases hp
      | some l => show ((pc l).bind _) = _; rw [show pc l = some (n, l') from hp]; rfl
    · refine ⟨0, none, rfl, by decide, hs1, ?_, fun _ => rfl⟩
      cases s with
      | none => rfl
      | some l => show ((pc l).bind _) = _; rw [show pc l = none from hp]; rfl
  obtain ⟨n, s1, rfl, hn, hs1, hpl, h0⟩ := hst
  obtain ⟨p1, c1, bad1, l1, b1, hr1, _, hl1, h51, _⟩ := hs1.form
  have k1 := b1.cell
  have f1 := b1.frozen
  have u1 : IntKind.u64.wrap (l1.length : Int) = (l1.length : Int) := by rw [IntKind.wrap_u64]; omega
  have hstart : ∃ (w2 : World) (s2 : Option (List Nat)), (((l1.length : Int) < (n : Int) ∧ w2 = w1.setCell ⟨b, 1, none⟩ (.bool true)) ∨ (¬ (l1.length : Int) < (n : Int) ∧ w2 = w1)) ∧ Sc N w2 b s2 ∧ Cb b w1 w2 ∧ ((s2 = none ∧ s.bind (pl ppr) = none) ∨ (∃ r, s2 = some r ∧ n ≤ 2097152 ∧ s.bind (pl ppr) = prep ppr n r)) := by
    by_cases c : l1.length < n
    · have hsp := hs1.spoil
      refine ⟨_, none, .inl ⟨by omega, rfl⟩, hsp.1, hsp.2, .inl ⟨rfl, ?_⟩⟩
      rcases h51 with ⟨_, q⟩ | ⟨_, q⟩
      · rw [hpl, q]; rfl
      · rw [hpl, q]; show (if l1.length < n then none else _) = _; rw [if_pos c]
    · refine ⟨w1, s1, .inr ⟨by omega, rfl⟩, hs1, Chg.refl _ _, ?_⟩
      rcases h51 with ⟨_, q⟩ | ⟨_, q⟩
      · exact .inl ⟨q, by rw [hpl, q]; rfl⟩
      · exact .inr ⟨l1, q, by omega, by rw [hpl, q]; show (if l1.length < n then none else _) = _; rw [if_neg c]⟩
  obtain ⟨w2, s2, hw2, hs2, hc2, hrel2⟩ := hstart
  have HS := hide (And.intro hs2 (And.intro (hc1.trans hc2) hrel2))
  have HN := hide hn
  have HNN := hide hN
  clear hN hc1 hs1 hpl h0 b1 hr1 hl1 h51 hs2 hc2 hrel2 KC hcase hn
  rcases hw2 with ⟨i1, rfl⟩ | ⟨i1, rfl⟩
  · skip
    go_wp2_with fail
    go_loopw [21, 6] (fun iv ov wr => ∃ (i : Nat) (s' : Option (List Nat)) (rs : List (Raw (dP).s)), iv = .int .u64 i ∧ i ≤ n ∧ Sw (eR (dP).s) 156 wr ov rs ∧ Fresh w ov ∧ Cb b w wr ∧ Sc N wr b s' ∧ rs.length = i ∧ ((s' = none ∧ s.bind (pl ppr) = none) ∨ (∃ (r : List Nat) (xs : List (Pr)), s' = some r ∧ n ≤ 2097152 ∧ xs.length = i ∧ (∀ (j : Nat) (c : Raw (dP).s) (x : Pr), rs[j]? = some c → xs[j]? = some x → (dP).r wr c.1 x) ∧ s.bind (pl ppr) = (prep ppr (n - i) r).map fun y => (xs ++ y.1, y.2)))) (fun iv _ _ => n - (RowKit.intOf iv).toNat)
    case atStart =>
      obtain ⟨hs2, hc2, hrel2⟩ := HS.out
      refine ⟨0, s2, [], rfl, Nat.zero_le _, Sw.nil _ _ _, Fresh.nil _, hc2, hs2, rfl, ?_⟩
      rcases hrel2 with q | ⟨r, q1, q2, q3⟩
      · exact .inl q
      · exact .inr ⟨r, [], q1, q2, rfl, fun j c x e => by simp at e, by rw [q3]; simp⟩
    case round =>
      obtain ⟨i, s', rs, rfl, hin, ho, hof, hch, hs, hxl, hrel'⟩ := hrel
      clear HS k1 f1 u1 i1 
      obtain ⟨p3, n3, c3, b3⟩ := hs.bad
      have k3 := b3.cell
      by_cases hlt : i < n
      · have i2 : (i : Int) < (n : Int) := by omega
        cases s' with
        | none =>
          have hno : s.bind (pl ppr) = none := by
            rcases hrel' with ⟨_, q⟩ | ⟨r, xs, q, _⟩
            · exact q
            · cases q
          have HF : Hid (GetF N (pl ppr) (fun v => ∃ a n c, v = .slice a n c) (fun u v l => NRow dP 156 u v l) b w s (.returned (.slice none 0 0)) wr) := ⟨_, rfl, ⟨_, _, _, rfl⟩, hch, by rw [hno]; exact hs, fun x l' e => by rw [hno] at e; cases e⟩
          simp only [Option.isNone_none] at k3
          clear hin ho hof hch hs hxl hrel' b3 hlt hno
          go_wp2_with fail
          go_ret
          exact HF.out
        | some r =>
          obtain ⟨xs, n21, hxs, hD, hpp⟩ : ∃ xs : List (Pr), n ≤ 2097152 ∧ xs.length = i ∧ (∀ (j : Nat) (c : Raw (dP).s) (x : Pr), rs[j]? = some c → xs[j]? = some x → (dP).r wr c.1 x) ∧ s.bind (pl ppr) = (prep ppr (n - i) r).map fun y => (xs ++ y.1, y.2) := by
            rcases hrel' with ⟨q, _⟩ | ⟨r', xs, q, q2⟩
            · cases q
            · cases q; exact ⟨xs, q2⟩
          have KG := hide (prop2_any N wr b (some r) hs (Nat.le_trans HNN.out hch.size) (HT.out.cb hch))
          have hob : ∀ k, u6.ownBlock = some k → ¬ k = b := fun k hk e => by subst e; exact ho.ne b3 (by decide) hk
          have HO := hide (And.intro ho (And.intro hof hob))
          have HC := hide hch
          have HB3 := hide b3
          have HX := hide (And.intro hxl (And.intro n21 (And.intro hxs (And.intro hpp (And.intro hlt hD)))))
          simp only [Option.isNone_some] at k3
          clear hin ho hof hch hs hxl hrel' b3 hlt n21 hpp hob hxs hD
          go_wp2_with fail
          refine KG.out.mono ?_
          rintro e w4 ⟨v4, rfl, ⟨q0, q1, q2, q3, q4, rfl⟩, hc4, hs4, hR4⟩
          obtain ⟨ho, hof, hob⟩ := HO.out
          have hA := (G.refl w4).alloc (.cells #[.string q0, I q1, I q2, I q3, .string q4] 156)
          have ho4' := ho.chg hc4 hob
          have ho4 := ho4'.G hA
          obtain ⟨i0, hi0, hz0, hz1, hz2⟩ := info_P
          have hmx : (2097153 : Nat) ≤ maxLen := of_decide_eq_true (by kernel_rfl)
          have hxl := HX.out.1
          have n21 := HX.out.2.1
          have hlt := HX.out.2.2.2.2.1
          obtain ⟨c, hc⟩ : ∃ c : Raw (dP).s, c.1 = [.string q0, I q1, I q2, I q3, .string q4] := ⟨⟨[.string q0, I q1, I q2, I q3, .string q4], rfl, fun u hu => by simp at hu; rcases hu with rfl | rfl | rfl | rfl | rfl <;> rfl⟩, rfl⟩
          have hlit : Row (eR (dP).s).rel (w4.alloc (.cells #[.string q0, I q1, I q2, I q3, .string q4] 156)) (.slice (some ⟨w4.heap.size, 0, none⟩) 1 1) [c] := by
            have := Row.lit (E := eR (dP).s) w4 156 [c] 1 (by simp)
            rw [show (eR (dP).s).fl [c] = [.string q0, I q1, I q2, I q3, .string q4] by simp [Enc.fl, hc]] at this
            exact this
          obtain ⟨v5, w5, hr5, hs5, hch5, hob5⟩ := app_row (P := Tryz.prog) (tr := 112) (ns := [c]) i0 _ 56 Tryz.underlying112 hi0 hz0 hz1 hz2 rfl (by decide) ho4 hlit (by simp; omega) (by simp; omega)
          have hcA : Cb b w (w4.alloc (.cells #[.string q0, I q1, I q2, I q3, .string q4] 156)) := (HC.out.trans hc4).trans hA.chg
          have hc5 : Cb b w w5 := hcA.more hch5 (fun k hk q => absurd (hof k q) (by omega))
          have hf5 : Fresh w v5 := fun k hk => by
            rcases hob5 with q | q
            · rw [q] at hk; exact hof k hk
            · rw [q] at hk; have h1 := Option.some.inj hk; have h2 := hcA.size; omega
          have hsc5 := (hs4.G hA).own (W := w) (fun k hk => ⟨hof k hk, hob k hk⟩) HNN.out hch5
          have kx1 : Kx [62, 156] wr w4 := Kx.one hc4 HB3.out (by simp)
          have kx2 : Kx [62, 156] w4 w5 := (Kx.of_G hA).trans (Kx.own hch5 ho4 (by simp))
          have hty : ∀ t ∈ (dP).tys, t ∉ [62, 156] := by decide
          have HNX : Hid (((((some r).bind ppr).map (·.2)) = none ∧ s.bind (pl ppr) = none) ∨ (∃ (r4 : List Nat) (ys : List (Pr)), (((some r).bind ppr).map (·.2)) = some r4 ∧ n ≤ 2097152 ∧ ys.length = i + 1 ∧ (∀ (j : Nat) (c' : Raw (dP).s) (x : Pr), (rs ++ [c])[j]? = some c' → ys[j]? = some x → (dP).r w5 c'.1 x) ∧ s.bind (pl ppr) = (prep ppr (n - (i + 1)) r4).map fun y => (ys ++ y.1, y.2))) := by
            obtain ⟨hxl, n21, hxs, hpp, hlt, hD⟩ := HX.out
            have hR4 : ∀ x l', ppr r = some (x, l') → _ := hR4
            show ((((ppr r).map (·.2)) = none) ∧ _) ∨ (∃ r4 ys, (ppr r).map (·.2) = some r4 ∧ _)
            cases e : ppr r with
            | none =>
              refine .inl ⟨rfl, ?_⟩
              rw [hpp, show n - i = (n - (i + 1)) + 1 by omega]
              exact prep_stop ppr _ r xs e
            | some y =>
              obtain ⟨x, r4⟩ := y
              refine .inr ⟨r4, xs ++ [x], rfl, n21, by simp [hxs], ?_, ?_⟩
              · exact nrow_step (fun j c' x' e1 e2 => (dP).keep (kx1.trans kx2) hty (hD j c' x' e1 e2)) (by rw [hxl, hxs]) ((dP).keep kx2 hty (by rw [hc]; exact hR4 x r4 e q0 q1 q2 q3 q4 rfl))
              · rw [hpp, show n - i = (n - (i + 1)) + 1 by omega]
                exact prep_step ppr _ r r4 x xs e
          have HR5 := hide hr5
          obtain ⟨s5, hs5e⟩ : ∃ s5, s5 = ((some r).bind ppr).map (·.2) := ⟨_, rfl⟩
          rw [← hs5e] at hsc5 HNX
          have HF : Hid (∃ u, v5 = u ∧ Sw (eR (dP).s) 156 w5 u (rs ++ [c]) ∧ Fresh w u ∧ Cb b w w5 ∧ Sc N w5 b s5 ∧ (rs ++ [c]).length = i + 1 ∧ i < n) := ⟨_, rfl, hs5, hf5, hc5, hsc5, by simp; exact hxl, hlt⟩
          have HW : Hid (IntKind.u64.wrap ((i : Int) + 1) = (i : Int) + 1) := by show _ = _; rw [IntKind.wrap_u64]; omega
          clear hc4 hs4 hR4 ho hof hob hA ho4 ho4' hi0 hz0 hz1 hz2 hmx hxl n21 hlt hr5 hs5 hch5 hob5 hcA hc5 hf5 hsc5 KG HO HC HX k3 hs5e hlit kx1 kx2 hty HB3 hc
          go_wp2_with (first | (at_builtin; refine wpList_append_run rfl _ _ 112 rfl u6 (.slice (some ⟨w4.heap.size, 0, none⟩) 1 1) rfl rfl HR5.out ?_) | fail)
          try rw [HW.out]
          obtain ⟨u, rfl, r1, r2, r3, r4, r5, r6⟩ := HF.out
          refine ⟨⟨i + 1, s5, rs ++ [c], rfl, r6, r1, r2, r3, r4, r5, HNX.out⟩, ?_⟩
          simp only [RowKit.intOf]; omega
      · have i2 : ¬ (i : Int) < (n : Int) := by omega
        have ei : i = n := by omega
        obtain ⟨oa, oc, hov⟩ := ho.form
        have HF : Hid (GetF N (pl ppr) (fun v => ∃ a n c, v = .slice a n c) (fun u v l => NRow dP 156 u v l) b w s (.returned u6) wr) := by
          refine ⟨_, rfl, ⟨_, _, _, hov⟩, hch, ?_⟩
          rcases hrel' with ⟨q, q2⟩ | ⟨r, xs, q, q2, q3, q4, q5⟩
          · subst q; rw [q2]; exact ⟨hs, fun x l' e => by cases e⟩
          · subst q
            rw [ei, Nat.sub_self, prep] at q5
            have q5 : s.bind (pl ppr) = some (xs, r) := by rw [q5]; simp
            rw [q5]
            exact ⟨hs, fun x l' e => by cases e; exact ⟨rs, ho, by omega, q4⟩⟩
        clear hin ho hof hch hs hxl hrel' b3 hlt ei hov
        go_wp2_with fail
        go_ret
        exact HF.out
  · have d1 : decide ((l1.length : Int) < (n : Int)) = false := decide_eq_false i1
    have d2 : decide (l1.length < n) = false := decide_eq_false (by omega)
    go_wp2_with fail
    go_loopw [21, 6] (fun iv ov wr => ∃ (i : Nat) (s' : Option (List Nat)) (rs : List (Raw (dP).s)), iv = .int .u64 i ∧ i ≤ n ∧ Sw (eR (dP).s) 156 wr ov rs ∧ Fresh w ov ∧ Cb b w wr ∧ Sc N wr b s' ∧ rs.length = i ∧ ((s' = none ∧ s.bind (pl ppr) = none) ∨ (∃ (r : List Nat) (xs : List (Pr)), s' = some r ∧ n ≤ 2097152 ∧ xs.length = i ∧ (∀ (j : Nat) (c : Raw (dP).s) (x : Pr), rs[j]? = some c → xs[j]? = some x → (dP).r wr c.1 x) ∧ s.bind (pl ppr) = (prep ppr (n - i) r).map fun y => (xs ++ y.1, y.2)))) (fun iv _ _ => n - (RowKit.intOf iv).toNat)
    case atStart =>
      obtain ⟨hs2, hc2, hrel2⟩ := HS.out
      refine ⟨0, s2, [], rfl, Nat.zero_le _, Sw.nil _ _ _, Fresh.nil _, hc2, hs2, rfl, ?_⟩
      rcases hrel2 with q | ⟨r, q1, q2, q3⟩
      · exact .inl q
      · exact .inr ⟨r, [], q1, q2, rfl, fun j c x e => by simp at e, by rw [q3]; simp⟩
    case round =>
      obtain ⟨i, s', rs, rfl, hin, ho, hof, hch, hs, hxl, hrel'⟩ := hrel
      clear HS k1 f1 u1 i1 d1 d2
      obtain ⟨p3, n3, c3, b3⟩ := hs.bad
      have k3 := b3.cell
      by_cases hlt : i < n
      · have i2 : (i : Int) < (n : Int) := by omega
        cases s' with
        | none =>
          have hno : s.bind (pl ppr) = none := by
            rcases hrel' with ⟨_, q⟩ | ⟨r, xs, q, _⟩
            · exact q
            · cases q
          have HF : Hid (GetF N (pl ppr) (fun v => ∃ a n c, v = .slice a n c) (fun u v l => NRow dP 156 u v l) b w s (.returned (.slice none 0 0)) wr) := ⟨_, rfl, ⟨_, _, _, rfl⟩, hch, by rw [hno]; exact hs, fun x l' e => by rw [hno] at e; cases e⟩
          simp only [Option.isNone_none] at k3
          clear hin ho hof hch hs hxl hrel' b3 hlt hno
          go_wp2_with fail
          go_ret
          exact HF.out
        | some r =>
          obtain ⟨xs, n21, hxs, hD, hpp⟩ : ∃ xs : List (Pr), n ≤ 2097152 ∧ xs.length = i ∧ (∀ (j : Nat) (c : Raw (dP).s) (x : Pr), rs[j]? = some c → xs[j]? = some x → (dP).r wr c.1 x) ∧ s.bind (pl ppr) = (prep ppr (n - i) r).map fun y => (xs ++ y.1, y.2) := by
            rcases hrel' with ⟨q, _⟩ | ⟨r', xs, q, q2⟩
            · cases q
            · cases q; exact ⟨xs, q2⟩
          have KG := hide (prop2_any N wr b (some r) hs (Nat.le_trans HNN.out hch.size) (HT.out.cb hch))
          have hob : ∀ k, u6.ownBlock = some k → ¬ k = b := fun k hk e => by subst e; exact ho.ne b3 (by decide) hk
          have HO := hide (And.intro ho (And.intro hof hob))
          have HC := hide hch
          have HB3 := hide b3
          have HX := hide (And.intro hxl (And.intro n21 (And.intro hxs (And.intro hpp (And.intro hlt hD)))))
          simp only [Option.isNone_some] at k3
          clear hin ho hof hch hs hxl hrel' b3 hlt n21 hpp hob hxs hD
          go_wp2_with fail
          refine KG.out.mono ?_
          rintro e w4 ⟨v4, rfl, ⟨q0, q1, q2, q3, q4, rfl⟩, hc4, hs4, hR4⟩
          obtain ⟨ho, hof, hob⟩ := HO.out
          have hA := (G.refl w4).alloc (.cells #[.string q0, I q1, I q2, I q3, .string q4] 156)
          have ho4' := ho.chg hc4 hob
          have ho4 := ho4'.G hA
          obtain ⟨i0, hi0, hz0, hz1, hz2⟩ := info_P
          have hmx : (2097153 : Nat) ≤ maxLen := of_decide_eq_true (by kernel_rfl)
          have hxl := HX.out.1
          have n21 := HX.out.2.1
          have hlt := HX.out.2.2.2.2.1
          obtain ⟨c, hc⟩ : ∃ c : Raw (dP).s, c.1 = [.string q0, I q1, I q2, I q3, .string q4] := ⟨⟨[.string q0, I q1, I q2, I q3, .string q4], rfl, fun u hu => by simp at hu; rcases hu with rfl | rfl | rfl | rfl | rfl <;> rfl⟩, rfl⟩
          have hlit : Row (eR (dP).s).rel (w4.alloc (.cells #[.string q0, I q1, I q2, I q3, .string q4] 156)) (.slice (some ⟨w4.heap.size, 0, none⟩) 1 1) [c] := by
            have := Row.lit (E := eR (dP).s) w4 156 [c] 1 (by simp)
            rw [show (eR (dP).s).fl [c] = [.string q0, I q1, I q2, I q3, .string q4] by simp [Enc.fl, hc]] at this
            exact this
          obtain ⟨v5, w5, hr5, hs5, hch5, hob5⟩ := app_row (P := Tryz.prog) (tr := 112) (ns := [c]) i0 _ 56 Tryz.underlying112 hi0 hz0 hz1 hz2 rfl (by decide) ho4 hlit (by simp; omega) (by simp; omega)
          have hcA : Cb b w (w4.alloc (.cells #[.string q0, I q1, I q2, I q3, .string q4] 156)) := (HC.out.trans hc4).trans hA.chg
          have hc5 : Cb b w w5 := hcA.more hch5 (fun k hk q => absurd (hof k q) (by omega))
          have hf5 : Fresh w v5 := fun k hk => by
            rcases hob5 with q | q
            · rw [q] at hk; exact hof k hk
            · rw [q] at hk; have h1 := Option.some.inj hk; have h2 := hcA.size; omega
          have hsc5 := (hs4.G hA).own (W := w) (fun k hk => ⟨hof k hk, hob k hk⟩) HNN.out hch5
          have kx1 : Kx [62, 156] wr w4 := Kx.one hc4 HB3.out (by simp)
          have kx2 : Kx [62, 156] w4 w5 := (Kx.of_G hA).trans (Kx.own hch5 ho4 (by simp))
          have hty : ∀ t ∈ (dP).tys, t ∉ [62, 156] := by decide
          have HNX : Hid (((((some r).bind ppr).map (·.2)) = none ∧ s.bind (pl ppr) = none) ∨ (∃ (r4 : List Nat) (ys : List (Pr)), (((some r).bind ppr).map (·.2)) = some r4 ∧ n ≤ 2097152 ∧ ys.length = i + 1 ∧ (∀ (j : Nat) (c' : Raw (dP).s) (x : Pr), (rs ++ [c])[j]? = some c' → ys[j]? = some x → (dP).r w5 c'.1 x) ∧ s.bind (pl ppr) = (prep ppr (n - (i + 1)) r4).map fun y => (ys ++ y.1, y.2))) := by
            obtain ⟨hxl, n21, hxs, hpp, hlt, hD⟩ := HX.out
            have hR4 : ∀ x l', ppr r = some (x, l') → _ := hR4
            show ((((ppr r).map (·.2)) = none) ∧ _) ∨ (∃ r4 ys, (ppr r).map (·.2) = some r4 ∧ _)
            cases e : ppr r with
            | none =>
              refine .inl ⟨rfl, ?_⟩
              rw [hpp, show n - i = (n - (i + 1)) + 1 by omega]
              exact prep_stop ppr _ r xs e
            | some y =>
              obtain ⟨x, r4⟩ := y
              refine .inr ⟨r4, xs ++ [x], rfl, n21, by simp [hxs], ?_, ?_⟩
              · exact nrow_step (fun j c' x' e1 e2 => (dP).keep (kx1.trans kx2) hty (hD j c' x' e1 e2)) (by rw [hxl, hxs]) ((dP).keep kx2 hty (by rw [hc]; exact hR4 x r4 e q0 q1 q2 q3 q4 rfl))
              · rw [hpp, show n - i = (n - (i + 1)) + 1 by omega]
                exact prep_step ppr _ r r4 x xs e
          have HR5 := hide hr5
          obtain ⟨s5, hs5e⟩ : ∃ s5, s5 = ((some r).bind ppr).map (·.2) := ⟨_, rfl⟩
          rw [← hs5e] at hsc5 HNX
          have HF : Hid (∃ u, v5 = u ∧ Sw (eR (dP).s) 156 w5 u (rs ++ [c]) ∧ Fresh w u ∧ Cb b w w5 ∧ Sc N w5 b s5 ∧ (rs ++ [c]).length = i + 1 ∧ i < n) := ⟨_, rfl, hs5, hf5, hc5, hsc5, by simp; exact hxl, hlt⟩
          have HW : Hid (IntKind.u64.wrap ((i : Int) + 1) = (i : Int) + 1) := by show _ = _; rw [IntKind.wrap_u64]; omega
          clear hc4 hs4 hR4 ho hof hob hA ho4 ho4' hi0 hz0 hz1 hz2 hmx hxl n21 hlt hr5 hs5 hch5 hob5 hcA hc5 hf5 hsc5 KG HO HC HX k3 hs5e hlit kx1 kx2 hty HB3 hc
          go_wp2_with (first | (at_builtin; refine wpList_append_run rfl _ _ 112 rfl u6 (.slice (some ⟨w4.heap.size, 0, none⟩) 1 1) rfl rfl HR5.out ?_) | fail)
          try rw [HW.out]
          obtain ⟨u, rfl, r1, r2, r3, r4, r5, r6⟩ := HF.out
          refine ⟨⟨i + 1, s5, rs ++ [c], rfl, r6, r1, r2, r3, r4, r5, HNX.out⟩, ?_⟩
          simp only [RowKit.intOf]; omega
      · have i2 : ¬ (i : Int) < (n : Int) := by omega
        have ei : i = n := by omega
        obtain ⟨oa, oc, hov⟩ := ho.form
        have HF : Hid (GetF N (pl ppr) (fun v => ∃ a n c, v = .slice a n c) (fun u v l => NRow dP 156 u v l) b w s (.returned u6) wr) := by
          refine ⟨_, rfl, ⟨_, _, _, hov⟩, hch, ?_⟩
          rcases hrel' with ⟨q, q2⟩ | ⟨r, xs, q, q2, q3, q4, q5⟩
          · subst q; rw [q2]; exact ⟨hs, fun x l' e => by cases e⟩
          · subst q
            rw [ei, Nat.sub_self, prep] at q5
            have q5 : s.bind (pl ppr) = some (xs, r) := by rw [q5]; simp
            rw [q5]
            exact ⟨hs, fun x l' e => by cases e; exact ⟨rs, ho, by omega, q4⟩⟩
        clear hin ho hof hch hs hxl hrel' b3 hlt ei hov
        go_wp2_with fail
        go_ret
        exact HF.out
abbrev dR : Nst (List Vl) := Nst.list dV 137
theorem info_Vs : ∃ i, Tryz.prog.info? 75 = some i ∧ i.zero = some (.slice none 0 0) ∧ i.size = 1 ∧ i.bytes = 24 := info_parts (by kernel_rfl)
set_option maxRecDepth 100000 in
set_option maxHeartbeats 1000000 in
theorem row2_any (N : Nat) (w : World) (b : Nat) (s : Option (List Nat)) (h : Sc N w b s) (hN : N ≤ w.heap.size) (hT : TB b w) :
    Calls Tryz.prog 83 #[ptr b] w (GetF N (pl pvl) (fun v => ∃ a n c, v = .slice a n c) (fun u v x => ∀ (q0 : Option Addr) (q1 q2 : Nat), v = .slice q0 q1 q2 → dR.r u [.slice q0 q1 q2] x) b w s) := by
  have KV := hide (getV_any N w b s h hN hT)
  clear h hN hT
  go_enter Tryz.func83, Tryz.ntmps83
  go_wp2_with fail
  refine KV.out.mono ?_
  rintro e w1 ⟨v1, rfl, ⟨a, n, c, rfl⟩, h3, h4, h5⟩
  have HF : Hid (GetF N (pl pvl) (fun v => ∃ a n c, v = .slice a n c) (fun u v x => ∀ (q0 : Option Addr) (q1 q2 : Nat), v = .slice q0 q1 q2 → dR.r u [.slice q0 q1 q2] x) b w s (.returned (.slice a n c)) w1) := ⟨_, rfl, ⟨a, n, c, rfl⟩, h3, h4, fun x l' e q0 q1 q2 ev => by
    have := h5 x l' e
    rw [ev] at this
    exact ⟨_, rfl, this⟩⟩
  clear KV h3 h4 h5
  go_wp2_with fail
  go_ret
  exact HF.out
set_option maxRecDepth 100000 in
set_option maxHeartbeats 1000000 in
theorem getR_any (N : Nat) (w : World) (b : Nat) (s : Option (List Nat)) (h : Sc N w b s) (hN : N ≤ w.heap.size) (hT : TB b w) :
    Calls Tryz.prog 82 #[ptr b, .func (.func 83) #[] #[]] w (GetF N (pl (pl pvl)) (fun v => ∃ a n c, v = .slice a n c) (fun u v l => NRow dR 75 u v l) b w s) := by
  have KC := hide (count2_any N w b s h)
  have HT := hide hT
  clear h hT
  go_enter Tryz.func82, Tryz.ntmps82
  go_wp2_with fail
  refine KC.out.mono ?_
  rintro e w1 ⟨v1, rfl, hc1, hcase⟩
  have hst : ∃ (n : Nat) (s1 : Option (List Nat)), v1 = .int .u64 n ∧ n < 18446744073709551616 ∧ Sc N w1 b s1 ∧ s.bind (pl (pl pvl)) = s1.bind (fun r => if r.length < n then none else prep (pl pvl) n r) ∧ (s1 = none → n = 0) := by
    rcases hcase with ⟨n, l', hp, hs1, rfl⟩ | ⟨hp, hs1, rfl⟩
    · refine ⟨n, some l', rfl, by cases s with | none => cases hp | some l => exact pc_lt hp, hs1, ?_, fun q => by cases q⟩
      cases s with
      | none => cases hp
      | some l => show ((pc l).bind _) = _; rw [show pc l = some (n, l') from hp]; rfl
    · refine ⟨0, none, rfl, by decide, hs1, ?_, fun _ => rfl⟩
      cases s with
      | none => rfl
      | some l => show ((pc l).bind _) = _; rw [show pc l = none from hp]; rfl
  obtain ⟨n, s1, rfl, hn, hs1, hpl, h0⟩ := hst
  obtain ⟨p1, c1, bad1, l1, b1, hr1, _, hl1, h51, _⟩ := hs1.form
  have k1 := b1.cell
  have f1 := b1.frozen
  have u1 : IntKind.u64.wrap (l1.length : Int) = (l1.length : Int) := by rw [IntKind.wrap_u64]; omega
  have hstart : ∃ (w2 : World) (s2 : Option (List Nat)), (((l1.length : Int) < (n : Int) ∧ w2 = w1.setCell ⟨b, 1, none⟩ (.bool true)) ∨ (¬ (l1.length : Int) < (n : Int) ∧ w2 = w1)) ∧ Sc N w2 b s2 ∧ Cb b w1 w2 ∧ ((s2 = none ∧ s.bind (pl (pl pvl)) = none) ∨ (∃ r, s2 = some r ∧ n ≤ 2097152 ∧ s.bind (pl (pl pvl)) = prep (pl pvl) n r)) := by
    by_cases c : l1.length < n
    · have hsp := hs1.spoil
      refine ⟨_, none, .inl ⟨by omega, rfl⟩, hsp.1, hsp.2, .inl ⟨rfl, ?_⟩⟩
      rcases h51 with ⟨_, q⟩ | ⟨_, q⟩
      · rw [hpl, q]; rfl
      · rw [hpl, q]; show (if l1.length < n then none else _) = _; rw [if_pos c]
    · refine ⟨w1, s1, .inr ⟨by omega, rfl⟩, hs1, Chg.refl _ _, ?_⟩
      rcases h51 with ⟨_, q⟩ | ⟨_, q⟩
      · exact .inl ⟨q, by rw [hpl, q]; rfl⟩
      · exact .inr ⟨l1, q, by omega, by rw [hpl, q]; show (if l1.length < n then none else _) = _; rw [if_neg c]⟩
  obtain ⟨w2, s2, hw2, hs2, hc2, hrel2⟩ := hstart
  have HS := hide (And.intro hs2 (And.intro (hc1.trans hc2) hrel2))
  have HN := hide hn
  have HNN := hide hN
  clear hN hc1 hs1 hpl h0 b1 hr1 hl1 h51 hs2 hc2 hrel2 KC hcase hn
  rcases hw2 with ⟨i1, rfl⟩ | ⟨i1, rfl⟩
  · skip
    go_wp2_with fail
    go_loopw [21, 6] (fun iv ov wr => ∃ (i : Nat) (s' : Option (List Nat)) (rs : List (Raw (dR).s)), iv = .int .u64 i ∧ i ≤ n ∧ Sw (eR (dR).s) 75 wr ov rs ∧ Fresh w ov ∧ Cb b w wr ∧ Sc N wr b s' ∧ rs.length = i ∧ ((s' = none ∧ s.bind (pl (pl pvl)) = none) ∨ (∃ (r : List Nat) (xs : List (List Vl)), s' = some r ∧ n ≤ 2097152 ∧ xs.length = i ∧ (∀ (j : Nat) (c : Raw (dR).s) (x : List Vl), rs[j]? = some c → xs[j]? = some x → (dR).r wr c.1 x) ∧ s.bind (pl (pl pvl)) = (prep (pl pvl) (n - i) r).map fun y => (xs ++ y.1, y.2)))) (fun iv _ _ => n - (RowKit.intOf iv).toNat)
    case atStart =>
      obtain ⟨hs2, hc2, hrel2⟩ := HS.out
      refine ⟨0, s2, [], rfl, Nat.zero_le _, Sw.nil _ _ _, Fresh.nil _, hc2, hs2, rfl, ?_⟩
      rcases hrel2 with q | ⟨r, q1, q2, q3⟩
      · exact .inl q
      · exact .inr ⟨r, [], q1, q2, rfl, fun j c x e => by simp at e, by rw [q3]; simp⟩
    case round =>
      obtain ⟨i, s', rs, rfl, hin, ho, hof, hch, hs, hxl, hrel'⟩ := hrel
      clear HS k1 f1 u1 i1 
      obtain ⟨p3, n3, c3, b3⟩ := hs.bad
      have k3 := b3.cell
      by_cases hlt : i < n
      · have i2 : (i : Int) < (n : Int) := by omega
        cases s' with
        | none =>
          have hno : s.bind (pl (pl pvl)) = none := by
            rcases hrel' with ⟨_, q⟩ | ⟨r, xs, q, _⟩
            · exact q
            · cases q
          have HF : Hid (GetF N (pl (pl pvl)) (fun v => ∃ a n c, v = .slice a n c) (fun u v l => NRow dR 75 u v l) b w s (.returned (.slice none 0 0)) wr) := ⟨_, rfl, ⟨_, _, _, rfl⟩, hch, by rw [hno]; exact hs, fun x l' e => by rw [hno] at e; cases e⟩
          simp only [Option.isNone_none] at k3
          clear hin ho hof hch hs hxl hrel' b3 hlt hno
          go_wp2_with fail
          go_ret
          exact HF.out
        | some r =>
          obtain ⟨xs, n21, hxs, hD, hpp⟩ : ∃ xs : List (List Vl), n ≤ 2097152 ∧ xs.length = i ∧ (∀ (j : Nat) (c : Raw (dR).s) (x : List Vl), rs[j]? = some c → xs[j]? = some x → (dR).r wr c.1 x) ∧ s.bind (pl (pl pvl)) = (prep (pl pvl) (n - i) r).map fun y => (xs ++ y.1, y.2) := by
            rcases hrel' with ⟨q, _⟩ | ⟨r', xs, q, q2⟩
            · cases q
            · cases q; exact ⟨xs, q2⟩
          have KG := hide (row2_any N wr b (some r) hs (Nat.le_trans HNN.out hch.size) (HT.out.cb hch))
          have hob : ∀ k, u6.ownBlock = some k → ¬ k = b := fun k hk e => by subst e; exact ho.ne b3 (by decide) hk
          have HO := hide (And.intro ho (And.intro hof hob))
          have HC := hide hch
          have HB3 := hide b3
          have HX := hide (And.intro hxl (And.intro n21 (And.intro hxs (And.intro hpp (And.intro hlt hD)))))
          simp only [Option.isNone_some] at k3
          clear hin ho hof hch hs hxl hrel' b3 hlt n21 hpp hob hxs hD
          go_wp2_with fail
          refine KG.out.mono ?_
          rintro e w4 ⟨v4, rfl, ⟨q0, q1, q2, rfl⟩, hc4, hs4, hR4⟩
          obtain ⟨ho, hof, hob⟩ := HO.out
          have hA := (G.refl w4).alloc (.cells #[.slice q0 q1 q2] 75)
          have ho4' := ho.chg hc4 hob
          have ho4 := ho4'.G hA
          obtain ⟨i0, hi0, hz0, hz1, hz2⟩ := info_Vs
          have hmx : (2097153 : Nat) ≤ maxLen := of_decide_eq_true (by kernel_rfl)
          have hxl := HX.out.1
          have n21 := HX.out.2.1
          have hlt := HX.out.2.2.2.2.1
          obtain ⟨c, hc⟩ : ∃ c : Raw (dR).s, c.1 = [.slice q0 q1 q2] := ⟨⟨[.slice q0 q1 q2], rfl, fun u hu => by simp at hu; rcases hu with rfl <;> rfl⟩, rfl⟩
          have hlit : Row (eR (dR).s).rel (w4.alloc (.cells #[.slice q0 q1 q2] 75)) (.slice (some ⟨w4.heap.size, 0, none⟩) 1 1) [c] := by
            have := Row.lit (E := eR (dR).s) w4 75 [c] 1 (by simp)
            rw [show (eR (dR).s).fl [c] = [.slice q0 q1 q2] by simp [Enc.fl, hc]] at this
            exact this
          obtain ⟨v5, w5, hr5, hs5, hch5, hob5⟩ := app_row (P := Tryz.prog) (tr := 72) (ns := [c]) i0 _ 24 Tryz.underlying72 hi0 hz0 hz1 hz2 rfl (by decide) ho4 hlit (by simp; omega) (by simp; omega)
          have hcA : Cb b w (w4.alloc (.cells #[.slice q0 q1 q2] 75)) := (HC.out.trans hc4).trans hA.chg
          have hc5 : Cb b w w5 := hcA.more hch5 (fun k hk q => absurd (hof k q) (by omega))
          have hf5 : Fresh w v5 := fun k hk => by
            rcases hob5 with q | q
            · rw [q] at hk; exact hof k hk
            · rw [q] at hk; have h1 := Option.some.inj hk; have h2 := hcA.size; omega
          have hsc5 := (hs4.G hA).own (W := w) (fun k hk => ⟨hof k hk, hob k hk⟩) HNN.out hch5
          have kx1 : Kx [62, 75] wr w4 := Kx.one hc4 HB3.out (by simp)
          have kx2 : Kx [62, 75] w4 w5 := (Kx.of_G hA).trans (Kx.own hch5 ho4 (by simp))
          have hty : ∀ t ∈ (dR).tys, t ∉ [62, 75] := by decide
          have HNX : Hid (((((some r).bind (pl pvl)).map (·.2)) = none ∧ s.bind (pl (pl pvl)) = none) ∨ (∃ (r4 : List Nat) (ys : List (List Vl)), (((some r).bind (pl pvl)).map (·.2)) = some r4 ∧ n ≤ 2097152 ∧ ys.length = i + 1 ∧ (∀ (j : Nat) (c' : Raw (dR).s) (x : List Vl), (rs ++ [c])[j]? = some c' → ys[j]? = some x → (dR).r w5 c'.1 x) ∧ s.bind (pl (pl pvl)) = (prep (pl pvl) (n - (i + 1)) r4).map fun y => (ys ++ y.1, y.2))) := by
            obtain ⟨hxl, n21, hxs, hpp, hlt, hD⟩ := HX.out
            have hR4 : ∀ x l', (pl pvl) r = some (x, l') → _ := hR4
            show (((((pl pvl) r).map (·.2)) = none) ∧ _) ∨ (∃ r4 ys, ((pl pvl) r).map (·.2) = some r4 ∧ _)
            cases e : (pl pvl) r with
            | none =>
              refine .inl ⟨rfl, ?_⟩
              rw [hpp, show n - i = (n - (i + 1)) + 1 by omega]
              exact prep_stop (pl pvl) _ r xs e
            | some y =>
              obtain ⟨x, r4⟩ := y
              refine .inr ⟨r4, xs ++ [x], rfl, n21, by simp [hxs], ?_, ?_⟩
              · exact nrow_step (fun j c' x' e1 e2 => (dR).keep (kx1.trans kx2) hty (hD j c' x' e1 e2)) (by rw [hxl, hxs]) ((dR).keep kx2 hty (by rw [hc]; exact hR4 x r4 e q0 q1 q2 rfl))
              · rw [hpp, show n - i = (n - (i + 1)) + 1 by omega]
                exact prep_step (pl pvl) _ r r4 x xs e
          have HR5 := hide hr5
          obtain ⟨s5, hs5e⟩ : ∃ s5, s5 = ((some r).bind (pl pvl)).map (·.2) := ⟨_, rfl⟩
          rw [← hs5e] at hsc5 HNX
          have HF : Hid (∃ u, v5 = u ∧ Sw (eR (dR).s) 75 w5 u (rs ++ [c]) ∧ Fresh w u ∧ Cb b w w5 ∧ Sc N w5 b s5 ∧ (rs ++ [c]).length = i + 1 ∧ i < n) := ⟨_, rfl, hs5, hf5, hc5, hsc5, by simp; exact hxl, hlt⟩
          have HW : Hid (IntKind.u64.wrap ((i : Int) + 1) = (i : Int) + 1) := by show _ = _; rw [IntKind.wrap_u64]; omega
          clear hc4 hs4 hR4 ho hof hob hA ho4 ho4' hi0 hz0 hz1 hz2 hmx hxl n21 hlt hr5 hs5 hch5 hob5 hcA hc5 hf5 hsc5 KG HO HC HX k3 hs5e hlit kx1 kx2 hty HB3 hc
          go_wp2_with (first | (at_builtin; refine wpList_append_run rfl _ _ 72 rfl u6 (.slice (some ⟨w4.heap.size, 0, none⟩) 1 1) rfl rfl HR5.out ?_) | fail)
          try rw [HW.out]
          obtain ⟨u, rfl, r1, r2, r3, r4, r5, r6⟩ := HF.out
          refine ⟨⟨i + 1, s5, rs ++ [c], rfl, r6, r1, r2, r3, r4, r5, HNX.out⟩, ?_⟩
          simp only [RowKit.intOf]; omega
      · have i2 : ¬ (i : Int) < (n : Int) := by omega
        have ei : i = n := by omega
        obtain ⟨oa, oc, hov⟩ := ho.form
        have HF : Hid (GetF N (pl (pl pvl)) (fun v => ∃ a n c, v = .slice a n c) (fun u v l => NRow dR 75 u v l) b w s (.returned u6) wr) := by
          refine ⟨_, rfl, ⟨_, _, _, hov⟩, hch, ?_⟩
          rcases hrel' with ⟨q, q2⟩ | ⟨r, xs, q, q2, q3, q4, q5⟩
          · subst q; rw [q2]; exact ⟨hs, fun x l' e => by cases e⟩
          · subst q
            rw [ei, Nat.sub_self, prep] at q5
            have q5 : s.bind (pl (pl pvl)) = some (xs, r) := by rw [q5]; simp
            rw [q5]
            exact ⟨hs, fun x l' e => by cases e; exact ⟨rs, ho, by omega, q4⟩⟩
        clear hin ho hof hch hs hxl hrel' b3 hlt ei hov
        go_wp2_with fail
        go_ret
        exact HF.out
  · have d1 : decide ((l1.length : Int) < (n : Int)) = false := decide_eq_false i1
    have d2 : decide (l1.length < n) = false := decide_eq_false (by omega)
    go_wp2_with fail
    go_loopw [21, 6] (fun iv ov wr => ∃ (i : Nat) (s' : Option (List Nat)) (rs : List (Raw (dR).s)), iv = .int .u64 i ∧ i ≤ n ∧ Sw (eR (dR).s) 75 wr ov rs ∧ Fresh w ov ∧ Cb b w wr ∧ Sc N wr b s' ∧ rs.length = i ∧ ((s' = none ∧ s.bind (pl (pl pvl)) = none) ∨ (∃ (r : List Nat) (xs : List (List Vl)), s' = some r ∧ n ≤ 2097152 ∧ xs.length = i ∧ (∀ (j : Nat) (c : Raw (dR).s) (x : List Vl), rs[j]? = some c → xs[j]? = some x → (dR).r wr c.1 x) ∧ s.bind (pl (pl pvl)) = (prep (pl pvl) (n - i) r).map fun y => (xs ++ y.1, y.2)))) (fun iv _ _ => n - (RowKit.intOf iv).toNat)
    case atStart =>
      obtain ⟨hs2, hc2, hrel2⟩ := HS.out
      refine ⟨0, s2, [], rfl, Nat.zero_le _, Sw.nil _ _ _, Fresh.nil _, hc2, hs2, rfl, ?_⟩
      rcases hrel2 with q | ⟨r, q1, q2, q3⟩
      · exact .inl q
      · exact .inr ⟨r, [], q1, q2, rfl, fun j c x e => by simp at e, by rw [q3]; simp⟩
    case round =>
      obtain ⟨i, s', rs, rfl, hin, ho, hof, hch, hs, hxl, hrel'⟩ := hrel
      clear HS k1 f1 u1 i1 d1 d2
      obtain ⟨p3, n3, c3, b3⟩ := hs.bad
      have k3 := b3.cell
      by_cases hlt : i < n
      · have i2 : (i : Int) < (n : Int) := by omega
        cases s' with
        | none =>
          have hno : s.bind (pl (pl pvl)) = none := by
            rcases hrel' with ⟨_, q⟩ | ⟨r, xs, q, _⟩
            · exact q
            · cases q
          have HF : Hid (GetF N (pl (pl pvl)) (fun v => ∃ a n c, v = .slice a n c) (fun u v l => NRow dR 75 u v l) b w s (.returned (.slice none 0 0)) wr) := ⟨_, rfl, ⟨_, _, _, rfl⟩, hch, by rw [hno]; exact hs, fun x l' e => by rw [hno] at e; cases e⟩
          simp only [Option.isNone_none] at k3
          clear hin ho hof hch hs hxl hrel' b3 hlt hno
          go_wp2_with fail
          go_ret
          exact HF.out
        | some r =>
          obtain ⟨xs, n21, hxs, hD, hpp⟩ : ∃ xs : List (List Vl), n ≤ 2097152 ∧ xs.length = i ∧ (∀ (j : Nat) (c : Raw (dR).s) (x : List Vl), rs[j]? = some c → xs[j]? = some x → (dR).r wr c.1 x) ∧ s.bind (pl (pl pvl)) = (prep (pl pvl) (n - i) r).map fun y => (xs ++ y.1, y.2) := by
            rcases hrel' with ⟨q, _⟩ | ⟨r', xs, q, q2⟩
            · cases q
            · cases q; exact ⟨xs, q2⟩
          have KG := hide (row2_any N wr b (some r) hs (Nat.le_trans HNN.out hch.size) (HT.out.cb hch))
          have hob : ∀ k, u6.ownBlock = some k → ¬ k = b := fun k hk e => by subst e; exact ho.ne b3 (by decide) hk
          have HO := hide (And.intro ho (And.intro hof hob))
          have HC := hide hch
          have HB3 := hide b3
          have HX := hide (And.intro hxl (And.intro n21 (And.intro hxs (And.intro hpp (And.intro hlt hD)))))
          simp only [Option.isNone_some] at k3
          clear hin ho hof hch hs hxl hrel' b3 hlt n21 hpp hob hxs hD
          go_wp2_with fail
          refine KG.out.mono ?_
          rintro e w4 ⟨v4, rfl, ⟨q0, q1, q2, rfl⟩, hc4, hs4, hR4⟩
          obtain ⟨ho, hof, hob⟩ := HO.out
          have hA := (G.refl w4).alloc (.cells #[.slice q0 q1 q2] 75)
          have ho4' := ho.chg hc4 hob
          have ho4 := ho4'.G hA
          obtain ⟨i0, hi0, hz0, hz1, hz2⟩ := info_Vs
          have hmx : (2097153 : Nat) ≤ maxLen := of_decide_eq_true (by kernel_rfl)
          have hxl := HX.out.1
          have n21 := HX.out.2.1
          have hlt := HX.out.2.2.2.2.1
          obtain ⟨c, hc⟩ : ∃ c : Raw (dR).s, c.1 = [.slice q0 q1 q2] := ⟨⟨[.slice q0 q1 q2], rfl, fun u hu => by simp at hu; rcases hu with rfl <;> rfl⟩, rfl⟩
          have hlit : Row (eR (dR).s).rel (w4.alloc (.cells #[.slice q0 q1 q2] 75)) (.slice (some ⟨w4.heap.size, 0, none⟩) 1 1) [c] := by
            have := Row.lit (E := eR (dR).s) w4 75 [c] 1 (by simp)
            rw [show (eR (dR).s).fl [c] = [.slice q0 q1 q2] by simp [Enc.fl, hc]] at this
            exact this
          obtain ⟨v5, w5, hr5, hs5, hch5, hob5⟩ := app_row (P := Tryz.prog) (tr := 72) (ns := [c]) i0 _ 24 Tryz.underlying72 hi0 hz0 hz1 hz2 rfl (by decide) ho4 hlit (by simp; omega) (by simp; omega)
          have hcA : Cb b w (w4.alloc (.cells #[.slice q0 q1 q2] 75)) := (HC.out.trans hc4).trans hA.chg
          have hc5 : Cb b w w5 := hcA.more hch5 (fun k hk q => absurd (hof k q) (by omega))
          have hf5 : Fresh w v5 := fun k hk => by
            rcases hob5 with q | q
            · rw [q] at hk; exact hof k hk
            · rw [q] at hk; have h1 := Option.some.inj hk; have h2 := hcA.size; omega
          have hsc5 := (hs4.G hA).own (W := w) (fun k hk => ⟨hof k hk, hob k hk⟩) HNN.out hch5
          have kx1 : Kx [62, 75] wr w4 := Kx.one hc4 HB3.out (by simp)
          have kx2 : Kx [62, 75] w4 w5 := (Kx.of_G hA).trans (Kx.own hch5 ho4 (by simp))
          have hty : ∀ t ∈ (dR).tys, t ∉ [62, 75] := by decide
          have HNX : Hid (((((some r).bind (pl pvl)).map (·.2)) = none ∧ s.bind (pl (pl pvl)) = none) ∨ (∃ (r4 : List Nat) (ys : List (List Vl)), (((some r).bind (pl pvl)).map (·.2)) = some r4 ∧ n ≤ 2097152 ∧ ys.length = i + 1 ∧ (∀ (j : Nat) (c' : Raw (dR).s) (x : List Vl), (rs ++ [c])[j]? = some c' → ys[j]? = some x → (dR).r w5 c'.1 x) ∧ s.bind (pl (pl pvl)) = (prep (pl pvl) (n - (i + 1)) r4).map fun y => (ys ++ y.1, y.2))) := by
            obtain ⟨hxl, n21, hxs, hpp, hlt, hD⟩ := HX.out
            have hR4 : ∀ x l', (pl pvl) r = some (x, l') → _ := hR4
            show (((((pl pvl) r).map (·.2)) = none) ∧ _) ∨ (∃ r4 ys, ((pl pvl) r).map (·.2) = some r4 ∧ _)
            cases e : (pl pvl) r with
            | none =>
              refine .inl ⟨rfl, ?_⟩
              rw [hpp, show n - i = (n - (i + 1)) + 1 by omega]
              exact prep_stop (pl pvl) _ r xs e
            | some y =>
              obtain ⟨x, r4⟩ := y
              refine .inr ⟨r4, xs ++ [x], rfl, n21, by simp [hxs], ?_, ?_⟩
              · exact nrow_step (fun j c' x' e1 e2 => (dR).keep (kx1.trans kx2) hty (hD j c' x' e1 e2)) (by rw [hxl, hxs]) ((dR).keep kx2 hty (by rw [hc]; exact hR4 x r4 e q0 q1 q2 rfl))
              · rw [hpp, show n - i = (n - (i + 1)) + 1 by omega]
                exact prep_step (pl pvl) _ r r4 x xs e
          have HR5 := hide hr5
          obtain ⟨s5, hs5e⟩ : ∃ s5, s5 = ((some r).bind (pl pvl)).map (·.2) := ⟨_, rfl⟩
          rw [← hs5e] at hsc5 HNX
          have HF : Hid (∃ u, v5 = u ∧ Sw (eR (dR).s) 75 w5 u (rs ++ [c]) ∧ Fresh w u ∧ Cb b w w5 ∧ Sc N w5 b s5 ∧ (rs ++ [c]).length = i + 1 ∧ i < n) := ⟨_, rfl, hs5, hf5, hc5, hsc5, by simp; exact hxl, hlt⟩
          have HW : Hid (IntKind.u64.wrap ((i : Int) + 1) = (i : Int) + 1) := by show _ = _; rw [IntKind.wrap_u64]; omega
          clear hc4 hs4 hR4 ho hof hob hA ho4 ho4' hi0 hz0 hz1 hz2 hmx hxl n21 hlt hr5 hs5 hch5 hob5 hcA hc5 hf5 hsc5 KG HO HC HX k3 hs5e hlit kx1 kx2 hty HB3 hc
          go_wp2_with (first | (at_builtin; refine wpList_append_run rfl _ _ 72 rfl u6 (.slice (some ⟨w4.heap.size, 0, none⟩) 1 1) rfl rfl HR5.out ?_) | fail)
          try rw [HW.out]
          obtain ⟨u, rfl, r1, r2, r3, r4, r5, r6⟩ := HF.out
          refine ⟨⟨i + 1, s5, rs ++ [c], rfl, r6, r1, r2, r3, r4, r5, HNX.out⟩, ?_⟩
          simp only [RowKit.intOf]; omega
      · have i2 : ¬ (i : Int) < (n : Int) := by omega
        have ei : i = n := by omega
        obtain ⟨oa, oc, hov⟩ := ho.form
        have HF : Hid (GetF N (pl (pl pvl)) (fun v => ∃ a n c, v = .slice a n c) (fun u v l => NRow dR 75 u v l) b w s (.returned u6) wr) := by
          refine ⟨_, rfl, ⟨_, _, _, hov⟩, hch, ?_⟩
          rcases hrel' with ⟨q, q2⟩ | ⟨r, xs, q, q2, q3, q4, q5⟩
          · subst q; rw [q2]; exact ⟨hs, fun x l' e => by cases e⟩
          · subst q
            rw [ei, Nat.sub_self, prep] at q5
            have q5 : s.bind (pl (pl pvl)) = some (xs, r) := by rw [q5]; simp
            rw [q5]
            exact ⟨hs, fun x l' e => by cases e; exact ⟨rs, ho, by omega, q4⟩⟩
        clear hin ho hof hch hs hxl hrel' b3 hlt ei hov
        go_wp2_with fail
        go_ret
        exact HF.out
/-- A node, an edge, a table. -/
structure Nd where
  id : Int
  lb : ByteArray
  ps : List Pr
structure Ed where
  id : Int
  ty : ByteArray
  fr : Int
  dst : Int
  ps : List Pr
structure Tb where
  cols : List ByteArray
  rows : List (List Vl)
  made : Int
  gone : Int
  set : Int
abbrev dN : Nst Nd := ⟨3, [156], fun w cs x => ∃ v, cs = [I x.id, .string x.lb, v] ∧ NRow dP 156 w v x.ps, fun k ht h => by
  obtain ⟨v, e, h⟩ := h
  exact ⟨v, e, h.kx k (ht _ (by simp)) (fun t q => by simp at q)⟩⟩
abbrev dE : Nst Ed := ⟨5, [156], fun w cs x => ∃ v, cs = [I x.id, .string x.ty, I x.fr, I x.dst, v] ∧ NRow dP 156 w v x.ps, fun k ht h => by
  obtain ⟨v, e, h⟩ := h
  exact ⟨v, e, h.kx k (ht _ (by simp)) (fun t q => by simp at q)⟩⟩
abbrev dT : Nst Tb := ⟨5, [9, 75, 137], fun w cs x => ∃ u v, cs = [u, v, I x.made, I x.gone, I x.set] ∧ Sw eS 9 w u x.cols ∧ NRow dR 75 w v x.rows, fun k ht h => by
  obtain ⟨u, v, e, h, h2⟩ := h
  exact ⟨u, v, e, h.kx k (ht _ (by simp)), h2.kx k (ht _ (by simp)) (fun t q => ht t (by simp at q; simp [q]))⟩⟩
def pnd (l : List Nat) : Option (Nd × List Nat) := (pz l).bind fun x => (pt x.2).bind fun y => (pl ppr y.2).bind fun z => some (⟨x.1, y.1, z.1⟩, z.2)
def ped (l : List Nat) : Option (Ed × List Nat) := (pz l).bind fun x => (pt x.2).bind fun y => (pz y.2).bind fun f => (pz f.2).bind fun t => (pl ppr t.2).bind fun z => some (⟨x.1, y.1, f.1, t.1, z.1⟩, z.2)
def ptb (l : List Nat) : Option (Tb × List Nat) := (pl pt l).bind fun x => (pl (pl pvl) x.2).bind fun y => (pz y.2).bind fun f => (pz f.2).bind fun t => (pz t.2).bind fun z => some (⟨x.1, y.1, f.1, t.1, z.1⟩, z.2)
theorem info_N : ∃ i, Tryz.prog.info? 114 = some i ∧ i.zero = some (.agg #[I 0, .string E0, .slice none 0 0]) ∧ i.size = 3 ∧ i.bytes = 48 := info_parts (by kernel_rfl)
theorem info_E : ∃ i, Tryz.prog.info? 119 = some i ∧ i.zero = some (.agg #[I 0, .string E0, I 0, I 0, .slice none 0 0]) ∧ i.size = 5 ∧ i.bytes = 64 := info_parts (by kernel_rfl)
theorem info_T : ∃ i, Tryz.prog.info? 74 = some i ∧ i.zero = some (.agg #[.slice none 0 0, .slice none 0 0, I 0, I 0, I 0]) ∧ i.size = 5 ∧ i.bytes = 72 := info_parts (by kernel_rfl)
theorem getSF_any (N : Nat) (w : World) (b : Nat) (s : Option (List Nat)) (h : Sc N w b s) (hN : N ≤ w.heap.size) : Calls Tryz.prog 52 #[ptr b, .func (.func 46) #[] #[]] w (GetF N (pl pt) (fun v => ∃ a n c, v = .slice a n c) (fun u v l => Sw eS 9 u v l) b w s) :=
  (getS_any N w b s h hN).mono fun _ _ g => GetF.of g (fun _ _ _ ⟨h1, _⟩ => ⟨by obtain ⟨a, c, q⟩ := h1.form; exact ⟨_, _, _, q⟩, h1⟩) (fun _ _ h => h)
theorem getIF_any (N : Nat) (w : World) (b : Nat) (s : Option (List Nat)) (h : Sc N w b s) (hN : N ≤ w.heap.size) : Calls Tryz.prog 44 #[ptr b, .func (.func 45) #[] #[]] w (GetF N (pl pz) (fun v => ∃ a n c, v = .slice a n c) (fun u v l => Sw eI 2 u v l) b w s) :=
  (getI_any N w b s h hN).mono fun _ _ g => GetF.of g (fun _ _ _ ⟨h1, _⟩ => ⟨by obtain ⟨a, c, q⟩ := h1.form; exact ⟨_, _, _, q⟩, h1⟩) (fun _ _ h => h)
set_option maxRecDepth 100000 in
set_option maxHeartbeats 1000000 in
theorem node2_any (N : Nat) (w : World) (b : Nat) (s : Option (List Nat)) (h : Sc N w b s) (hN : N ≤ w.heap.size) (hT : TB b w) :
    Calls Tryz.prog 56 #[ptr b] w (GetF N pnd (fun v => ∃ (nid : Int) (lb : ByteArray) (pa : Option Addr) (pn pc : Nat), v = .agg #[I nid, .string lb, .slice pa pn pc]) (fun u v x => ∀ (nid : Int) (lb : ByteArray) (pa : Option Addr) (pn pc : Nat), v = .agg #[I nid, .string lb, .slice pa pn pc] → (dN).r u [I nid, .string lb, .slice pa pn pc] x) b w s) := by
  obtain ⟨xs0, hb0⟩ := h.blk
  have hbl := hb0.lt
  obtain ⟨u0, hw0⟩ : ∃ u0, u0 = w.alloc (.cells #[I 0, .string { data := #[] }, .slice none 0 0] 114) := ⟨_, rfl⟩
  obtain ⟨rb, hrb⟩ : ∃ rb, rb = w.heap.size := ⟨_, rfl⟩
  have HP : Hid (Ps N b w s pnd rb 114 [I 0, .string { data := #[] }, .slice none 0 0] (fun _ r => s = some r) u0) := Ps.start pnd h (by rw [hw0]; exact (G.refl w).alloc _) (by rw [hw0, hrb]; exact Blk.new w [I 0, .string { data := #[] }, .slice none 0 0] _)
  have HNE : Hid (rb ≠ b ∧ w.heap.size ≤ rb ∧ N ≤ rb) := ⟨by omega, by omega, by omega⟩
  have HNW := hide hN
  have HW := hide hw0
  have HRB := hide hrb
  have HT := hide hT
  clear h hN hT hb0 hbl hw0 hrb
  go_enter Tryz.func56, Tryz.ntmps56
  go_wp2_with fail
  rw [show w.alloc (.cells #[I 0, .string { data := #[] }, .slice none 0 0] 114) = u0 from HW.out.symm]
  rw [← HRB.out]
  obtain ⟨s1, hs1, hc1, hb1, hr1⟩ := HP.out
  refine (nF_any N _ b s1 hs1).mono ?_
  rintro e w1 ⟨v1, rfl, ⟨nid, rfl⟩, hd1, hz1, hR1⟩
  have hB1 := hb1.chg hd1 HNE.out.1
  have k1 := hB1.cell
  have f1 := hB1.frozen
  replace HP := hide (Ps.step (p := pnd) (q := pz) (Φ := (fun _ r => s = some r)) (R := fun _ x => nid = x ∧ R64 x) hs1 hc1 hr1 HNE.out.2.2 HNE.out.2.1 HNE.out.1 hd1 hz1 (fun x l' e => by have := hR1 x l' e; simp at this; exact this) (chg_setCell (F := fun k => k = rb) (b := rb) (o := 0) _ (I nid) (.inl rfl)) hB1 (hB1.set 0 (I nid)) (fun _ _ _ _ h => h) (fun _ _ _ _ h => h) (fun u r h e => by
    have h0 := h
    rw [h0]
    show pnd _ = none
    simp [pnd, e]))
  clear hs1 hc1 hb1 hr1 hd1 hz1 hR1 hB1
  go_wp2_with fail
  generalize (w1.setCell ⟨rb, 0, none⟩ (I nid)) = u1 at HP ⊢
  clear k1 f1
  obtain ⟨s2, hs2, hc2, hb2, hr2⟩ := HP.out
  refine (tF_any N _ b s2 hs2).mono ?_
  rintro e w2 ⟨v2, rfl, ⟨lb, rfl, hzlb⟩, hd2, hz2, hR2⟩
  have hB2 := hb2.chg hd2 HNE.out.1
  have k2 := hB2.cell
  have f2 := hB2.frozen
  replace HP := hide (Ps.step (p := pnd) (q := pt) (Φ := (fun u r' => ∃ r x, (fun _ r => s = some r) u r ∧ pz r = some (x, r') ∧ (fun _ x => nid = x ∧ R64 x) u x)) (R := fun _ x => lb = x) hs2 hc2 hr2 HNE.out.2.2 HNE.out.2.1 HNE.out.1 hd2 hz2 (fun x l' e => by have := hR2 x l' e; simp at this; exact this) (chg_setCell (F := fun k => k = rb) (b := rb) (o := 1) _ (.string lb) (.inl rfl)) hB2 (hB2.set 1 (.string lb)) (fun u u' r' k ⟨r, x, h1, h2, h3⟩ => ⟨r, x, (fun _ _ _ _ h => h) u u' r k h1, h2, (fun _ _ _ _ h => h) u u' x k h3⟩) (fun _ _ _ _ h => h) (fun u r h e => by
    obtain ⟨r1, x1, h0, e1, g1⟩ := h
    rw [h0]
    show pnd _ = none
    simp [pnd, e1, e]))
  clear hs2 hc2 hb2 hr2 hd2 hz2 hR2 hB2
  go_wp2_with fail
  generalize (w2.setCell ⟨rb, 1, none⟩ (.string lb)) = u2 at HP ⊢
  clear k2 f2
  obtain ⟨s3, hs3, hc3, hb3, hr3⟩ := HP.out
  refine (getP_any N _ b s3 hs3 (Nat.le_trans HNW.out hc3.size) (HT.out.cb hc3)).mono ?_
  rintro e w3 ⟨v3, rfl, ⟨pa, pn, pc, rfl⟩, hd3, hz3, hR3⟩
  have hB3 := hb3.chg hd3 HNE.out.1
  have k3 := hB3.cell
  have f3 := hB3.frozen
  replace HP := hide (Ps.step (p := pnd) (q := (pl ppr)) (Φ := (fun u r' => ∃ r x, (fun u r' => ∃ r x, (fun _ r => s = some r) u r ∧ pz r = some (x, r') ∧ (fun _ x => nid = x ∧ R64 x) u x) u r ∧ pt r = some (x, r') ∧ (fun _ x => lb = x) u x)) (R := fun u l => NRow dP 156 u (.slice pa pn pc) l) hs3 hc3 hr3 HNE.out.2.2 HNE.out.2.1 HNE.out.1 hd3 hz3 (fun x l' e => by exact hR3 x l' e) (chg_setCell (F := fun k => k = rb) (b := rb) (o := 2) _ (.slice pa pn pc) (.inl rfl)) hB3 (hB3.set 2 (.slice pa pn pc)) (fun u u' r' k ⟨r, x, h1, h2, h3⟩ => ⟨r, x, (fun u u' r' k ⟨r, x, h1, h2, h3⟩ => ⟨r, x, (fun _ _ _ _ h => h) u u' r k h1, h2, (fun _ _ _ _ h => h) u u' x k h3⟩) u u' r k h1, h2, (fun _ _ _ _ h => h) u u' x k h3⟩) (fun _ _ _ k h => h.kx k (by decide) (by decide)) (fun u r h e => by
    obtain ⟨r2, x2, ⟨r1, x1, h0, e1, g1⟩, e2, g2⟩ := h
    rw [h0]
    show pnd _ = none
    simp [pnd, e1, e2, e]))
  clear hs3 hc3 hb3 hr3 hd3 hz3 hR3 hB3
  obtain ⟨s9, hs9, hc9, hb9, hr9⟩ := id HP.out
  have HB9 := hide hb9
  have HF : Hid (∀ u, Chg (fun k => k = rb) (w3.setCell ⟨rb, 2, none⟩ (.slice pa pn pc)) u → GetF N pnd (fun v => ∃ (nid : Int) (lb : ByteArray) (pa : Option Addr) (pn pc : Nat), v = .agg #[I nid, .string lb, .slice pa pn pc]) (fun u v x => ∀ (nid : Int) (lb : ByteArray) (pa : Option Addr) (pn pc : Nat), v = .agg #[I nid, .string lb, .slice pa pn pc] → (dN).r u [I nid, .string lb, .slice pa pn pc] x) b w s (.returned (.agg #[I nid, .string lb, .slice pa pn pc])) u) := fun u hu => Ps.fin HP.out hu HNE.out (fun u u' r' k ⟨r, x, h1, h2, h3⟩ => ⟨r, x, (fun u u' r' k ⟨r, x, h1, h2, h3⟩ => ⟨r, x, (fun u u' r' k ⟨r, x, h1, h2, h3⟩ => ⟨r, x, (fun _ _ _ _ h => h) u u' r k h1, h2, (fun _ _ _ _ h => h) u u' x k h3⟩) u u' r k h1, h2, (fun _ _ _ _ h => h) u u' x k h3⟩) u u' r k h1, h2, (fun _ _ _ k h => h.kx k (by decide) (by decide)) u u' x k h3⟩) ⟨nid, lb, pa, pn, pc, rfl⟩ (fun u r h => by
    obtain ⟨r3, x3, ⟨r2, x2, ⟨r1, x1, h0, e1, g1⟩, e2, g2⟩, e3, g3⟩ := h
    refine ⟨⟨x1, x2, x3⟩, ?_, ?_⟩
    · rw [h0]
      show pnd _ = _
      simp [pnd, e1, e2, e3]
    · intro y0 y1 y2 y3 y4 ev
      simp only [Value.agg.injEq, Value.int.injEq, Value.string.injEq, Value.slice.injEq, List.cons.injEq, Array.mk.injEq, and_true, true_and] at ev
      obtain ⟨rfl, rfl, rfl, rfl, rfl⟩ := ev
      exact ⟨_, by rw [g1.1, g2], g3⟩)
  clear hs9 hc9 hb9 hr9 HP
  go_wp2_with fail
  have hC9 := (((HB9.out.set 0 (I nid)).set 1 (.string lb)).set 2 (.slice pa pn pc))
  exact bodyPost_ret_by (v := .agg #[I nid, .string lb, .slice pa pn pc]) (results_cell_row Tryz.results56 _ _ rb 114 _ (0, 0) _ rfl hC9.h Tryz.underlying114 rfl (by kernel_rfl)) rfl (HF.out _ ((((chg_setCell (F := fun k => k = rb) (b := rb) (o := 0) _ (I nid) (.inl rfl)).trans (chg_setCell (F := fun k => k = rb) (b := rb) (o := 1) _ (.string lb) (.inl rfl))).trans (chg_setCell (F := fun k => k = rb) (b := rb) (o := 2) _ (.slice pa pn pc) (.inl rfl)))))
set_option maxRecDepth 100000 in
set_option maxHeartbeats 1000000 in
theorem edge2_any (N : Nat) (w : World) (b : Nat) (s : Option (List Nat)) (h : Sc N w b s) (hN : N ≤ w.heap.size) (hT : TB b w) :
    Calls Tryz.prog 58 #[ptr b] w (GetF N ped (fun v => ∃ (nid : Int) (lb : ByteArray) (fr tt : Int) (pa : Option Addr) (pn pc : Nat), v = .agg #[I nid, .string lb, I fr, I tt, .slice pa pn pc]) (fun u v x => ∀ (nid : Int) (lb : ByteArray) (fr tt : Int) (pa : Option Addr) (pn pc : Nat), v = .agg #[I nid, .string lb, I fr, I tt, .slice pa pn pc] → (dE).r u [I nid, .string lb, I fr, I tt, .slice pa pn pc] x) b w s) := by
  obtain ⟨xs0, hb0⟩ := h.blk
  have hbl := hb0.lt
  obtain ⟨u0, hw0⟩ : ∃ u0, u0 = w.alloc (.cells #[I 0, .string { data := #[] }, I 0, I 0, .slice none 0 0] 119) := ⟨_, rfl⟩
  obtain ⟨rb, hrb⟩ : ∃ rb, rb = w.heap.size := ⟨_, rfl⟩
  have HP : Hid (Ps N b w s ped rb 119 [I 0, .string { data := #[] }, I 0, I 0, .slice none 0 0] (fun _ r => s = some r) u0) := Ps.start ped h (by rw [hw0]; exact (G.refl w).alloc _) (by rw [hw0, hrb]; exact Blk.new w [I 0, .string { data := #[] }, I 0, I 0, .slice none 0 0] _)
  have HNE : Hid (rb ≠ b ∧ w.heap.size ≤ rb ∧ N ≤ rb) := ⟨by omega, by omega, by omega⟩
  have HNW := hide hN
  have HW := hide hw0
  have HRB := hide hrb
  have HT := hide hT
  clear h hN hT hb0 hbl hw0 hrb
  go_enter Tryz.func58, Tryz.ntmps58
  go_wp2_with fail
  rw [show w.alloc (.cells #[I 0, .string { data := #[] }, I 0, I 0, .slice none 0 0] 119) = u0 from HW.out.symm]
  rw [← HRB.out]
  obtain ⟨s1, hs1, hc1, hb1, hr1⟩ := HP.out
  refine (nF_any N _ b s1 hs1).mono ?_
  rintro e w1 ⟨v1, rfl, ⟨nid, rfl⟩, hd1, hz1, hR1⟩
  have hB1 := hb1.chg hd1 HNE.out.1
  have k1 := hB1.cell
  have f1 := hB1.frozen
  replace HP := hide (Ps.step (p := ped) (q := pz) (Φ := (fun _ r => s = some r)) (R := fun _ x => nid = x ∧ R64 x) hs1 hc1 hr1 HNE.out.2.2 HNE.out.2.1 HNE.out.1 hd1 hz1 (fun x l' e => by have := hR1 x l' e; simp at this; exact this) (chg_setCell (F := fun k => k = rb) (b := rb) (o := 0) _ (I nid) (.inl rfl)) hB1 (hB1.set 0 (I nid)) (fun _ _ _ _ h => h) (fun _ _ _ _ h => h) (fun u r h e => by
    have h0 := h
    rw [h0]
    show ped _ = none
    simp [ped, e]))
  clear hs1 hc1 hb1 hr1 hd1 hz1 hR1 hB1
  go_wp2_with fail
  generalize (w1.setCell ⟨rb, 0, none⟩ (I nid)) = u1 at HP ⊢
  clear k1 f1
  obtain ⟨s2, hs2, hc2, hb2, hr2⟩ := HP.out
  refine (tF_any N _ b s2 hs2).mono ?_
  rintro e w2 ⟨v2, rfl, ⟨lb, rfl, hzlb⟩, hd2, hz2, hR2⟩
  have hB2 := hb2.chg hd2 HNE.out.1
  have k2 := hB2.cell
  have f2 := hB2.frozen
  replace HP := hide (Ps.step (p := ped) (q := pt) (Φ := (fun u r' => ∃ r x, (fun _ r => s = some r) u r ∧ pz r = some (x, r') ∧ (fun _ x => nid = x ∧ R64 x) u x)) (R := fun _ x => lb = x) hs2 hc2 hr2 HNE.out.2.2 HNE.out.2.1 HNE.out.1 hd2 hz2 (fun x l' e => by have := hR2 x l' e; simp at this; exact this) (chg_setCell (F := fun k => k = rb) (b := rb) (o := 1) _ (.string lb) (.inl rfl)) hB2 (hB2.set 1 (.string lb)) (fun u u' r' k ⟨r, x, h1, h2, h3⟩ => ⟨r, x, (fun _ _ _ _ h => h) u u' r k h1, h2, (fun _ _ _ _ h => h) u u' x k h3⟩) (fun _ _ _ _ h => h) (fun u r h e => by
    obtain ⟨r1, x1, h0, e1, g1⟩ := h
    rw [h0]
    show ped _ = none
    simp [ped, e1, e]))
  clear hs2 hc2 hb2 hr2 hd2 hz2 hR2 hB2
  go_wp2_with fail
  generalize (w2.setCell ⟨rb, 1, none⟩ (.string lb)) = u2 at HP ⊢
  clear k2 f2
  obtain ⟨s3, hs3, hc3, hb3, hr3⟩ := HP.out
  refine (nF_any N _ b s3 hs3).mono ?_
  rintro e w3 ⟨v3, rfl, ⟨fr, rfl⟩, hd3, hz3, hR3⟩
  have hB3 := hb3.chg hd3 HNE.out.1
  have k3 := hB3.cell
  have f3 := hB3.frozen
  replace HP := hide (Ps.step (p := ped) (q := pz) (Φ := (fun u r' => ∃ r x, (fun u r' => ∃ r x, (fun _ r => s = some r) u r ∧ pz r = some (x, r') ∧ (fun _ x => nid = x ∧ R64 x) u x) u r ∧ pt r = some (x, r') ∧ (fun _ x => lb = x) u x)) (R := fun _ x => fr = x ∧ R64 x) hs3 hc3 hr3 HNE.out.2.2 HNE.out.2.1 HNE.out.1 hd3 hz3 (fun x l' e => by have := hR3 x l' e; simp at this; exact this) (chg_setCell (F := fun k => k = rb) (b := rb) (o := 2) _ (I fr) (.inl rfl)) hB3 (hB3.set 2 (I fr)) (fun u u' r' k ⟨r, x, h1, h2, h3⟩ => ⟨r, x, (fun u u' r' k ⟨r, x, h1, h2, h3⟩ => ⟨r, x, (fun _ _ _ _ h => h) u u' r k h1, h2, (fun _ _ _ _ h => h) u u' x k h3⟩) u u' r k h1, h2, (fun _ _ _ _ h => h) u u' x k h3⟩) (fun _ _ _ _ h => h) (fun u r h e => by
    obtain ⟨r2, x2, ⟨r1, x1, h0, e1, g1⟩, e2, g2⟩ := h
    rw [h0]
    show ped _ = none
    simp [ped, e1, e2, e]))
  clear hs3 hc3 hb3 hr3 hd3 hz3 hR3 hB3
  go_wp2_with fail
  generalize (w3.setCell ⟨rb, 2, none⟩ (I fr)) = u3 at HP ⊢
  clear k3 f3
  obtain ⟨s4, hs4, hc4, hb4, hr4⟩ := HP.out
  refine (nF_any N _ b s4 hs4).mono ?_
  rintro e w4 ⟨v4, rfl, ⟨tt, rfl⟩, hd4, hz4, hR4⟩
  have hB4 := hb4.chg hd4 HNE.out.1
  have k4 := hB4.cell
  have f4 := hB4.frozen
  replace HP := hide (Ps.step (p := ped) (q := pz) (Φ := (fun u r' => ∃ r x, (fun u r' => ∃ r x, (fun u r' => ∃ r x, (fun _ r => s = some r) u r ∧ pz r = some (x, r') ∧ (fun _ x => nid = x ∧ R64 x) u x) u r ∧ pt r = some (x, r') ∧ (fun _ x => lb = x) u x) u r ∧ pz r = some (x, r') ∧ (fun _ x => fr = x ∧ R64 x) u x)) (R := fun _ x => tt = x ∧ R64 x) hs4 hc4 hr4 HNE.out.2.2 HNE.out.2.1 HNE.out.1 hd4 hz4 (fun x l' e => by have := hR4 x l' e; simp at this; exact this) (chg_setCell (F := fun k => k = rb) (b := rb) (o := 3) _ (I tt) (.inl rfl)) hB4 (hB4.set 3 (I tt)) (fun u u' r' k ⟨r, x, h1, h2, h3⟩ => ⟨r, x, (fun u u' r' k ⟨r, x, h1, h2, h3⟩ => ⟨r, x, (fun u u' r' k ⟨r, x, h1, h2, h3⟩ => ⟨r, x, (fun _ _ _ _ h => h) u u' r k h1, h2, (fun _ _ _ _ h => h) u u' x k h3⟩) u u' r k h1, h2, (fun _ _ _ _ h => h) u u' x k h3⟩) u u' r k h1, h2, (fun _ _ _ _ h => h) u u' x k h3⟩) (fun _ _ _ _ h => h) (fun u r h e => by
    obtain ⟨r3, x3, ⟨r2, x2, ⟨r1, x1, h0, e1, g1⟩, e2, g2⟩, e3, g3⟩ := h
    rw [h0]
    show ped _ = none
    simp [ped, e1, e2, e3, e]))
  clear hs4 hc4 hb4 hr4 hd4 hz4 hR4 hB4
  go_wp2_with fail
  generalize (w4.setCell ⟨rb, 3, none⟩ (I tt)) = u4 at HP ⊢
  clear k4 f4
  obtain ⟨s5, hs5, hc5, hb5, hr5⟩ := HP.out
  refine (getP_any N _ b s5 hs5 (Nat.le_trans HNW.out hc5.size) (HT.out.cb hc5)).mono ?_
  rintro e w5 ⟨v5, rfl, ⟨pa, pn, pc, rfl⟩, hd5, hz5, hR5⟩
  have hB5 := hb5.chg hd5 HNE.out.1
  have k5 := hB5.cell
  have f5 := hB5.frozen
  replace HP := hide (Ps.step (p := ped) (q := (pl ppr)) (Φ := (fun u r' => ∃ r x, (fun u r' => ∃ r x, (fun u r' => ∃ r x, (fun u r' => ∃ r x, (fun _ r => s = some r) u r ∧ pz r = some (x, r') ∧ (fun _ x => nid = x ∧ R64 x) u x) u r ∧ pt r = some (x, r') ∧ (fun _ x => lb = x) u x) u r ∧ pz r = some (x, r') ∧ (fun _ x => fr = x ∧ R64 x) u x) u r ∧ pz r = some (x, r') ∧ (fun _ x => tt = x ∧ R64 x) u x)) (R := fun u l => NRow dP 156 u (.slice pa pn pc) l) hs5 hc5 hr5 HNE.out.2.2 HNE.out.2.1 HNE.out.1 hd5 hz5 (fun x l' e => by exact hR5 x l' e) (chg_setCell (F := fun k => k = rb) (b := rb) (o := 4) _ (.slice pa pn pc) (.inl rfl)) hB5 (hB5.set 4 (.slice pa pn pc)) (fun u u' r' k ⟨r, x, h1, h2, h3⟩ => ⟨r, x, (fun u u' r' k ⟨r, x, h1, h2, h3⟩ => ⟨r, x, (fun u u' r' k ⟨r, x, h1, h2, h3⟩ => ⟨r, x, (fun u u' r' k ⟨r, x, h1, h2, h3⟩ => ⟨r, x, (fun _ _ _ _ h => h) u u' r k h1, h2, (fun _ _ _ _ h => h) u u' x k h3⟩) u u' r k h1, h2, (fun _ _ _ _ h => h) u u' x k h3⟩) u u' r k h1, h2, (fun _ _ _ _ h => h) u u' x k h3⟩) u u' r k h1, h2, (fun _ _ _ _ h => h) u u' x k h3⟩) (fun _ _ _ k h => h.kx k (by decide) (by decide)) (fun u r h e => by
    obtain ⟨r4, x4, ⟨r3, x3, ⟨r2, x2, ⟨r1, x1, h0, e1, g1⟩, e2, g2⟩, e3, g3⟩, e4, g4⟩ := h
    rw [h0]
    show ped _ = none
    simp [ped, e1, e2, e3, e4, e]))
  clear hs5 hc5 hb5 hr5 hd5 hz5 hR5 hB5
  obtain ⟨s9, hs9, hc9, hb9, hr9⟩ := id HP.out
  have HB9 := hide hb9
  have HF : Hid (∀ u, Chg (fun k => k = rb) (w5.setCell ⟨rb, 4, none⟩ (.slice pa pn pc)) u → GetF N ped (fun v => ∃ (nid : Int) (lb : ByteArray) (fr tt : Int) (pa : Option Addr) (pn pc : Nat), v = .agg #[I nid, .string lb, I fr, I tt, .slice pa pn pc]) (fun u v x => ∀ (nid : Int) (lb : ByteArray) (fr tt : Int) (pa : Option Addr) (pn pc : Nat), v = .agg #[I nid, .string lb, I fr, I tt, .slice pa pn pc] → (dE).r u [I nid, .string lb, I fr, I tt, .slice pa pn pc] x) b w s (.returned (.agg #[I nid, .string lb, I fr, I tt, .slice pa pn pc])) u) := fun u hu => Ps.fin HP.out hu HNE.out (fun u u' r' k ⟨r, x, h1, h2, h3⟩ => ⟨r, x, (fun u u' r' k ⟨r, x, h1, h2, h3⟩ => ⟨r, x, (fun u u' r' k ⟨r, x, h1, h2, h3⟩ => ⟨r, x, (fun u u' r' k ⟨r, x, h1, h2, h3⟩ => ⟨r, x, (fun u u' r' k ⟨r, x, h1, h2, h3⟩ => ⟨r, x, (fun _ _ _ _ h => h) u u' r k h1, h2, (fun _ _ _ _ h => h) u u' x k h3⟩) u u' r k h1, h2, (fun _ _ _ _ h => h) u u' x k h3⟩) u u' r k h1, h2, (fun _ _ _ _ h => h) u u' x k h3⟩) u u' r k h1, h2, (fun _ _ _ _ h => h) u u' x k h3⟩) u u' r k h1, h2, (fun _ _ _ k h => h.kx k (by decide) (by decide)) u u' x k h3⟩) ⟨nid, lb, fr, tt, pa, pn, pc, rfl⟩ (fun u r h => by
    obtain ⟨r5, x5, ⟨r4, x4, ⟨r3, x3, ⟨r2, x2, ⟨r1, x1, h0, e1, g1⟩, e2, g2⟩, e3, g3⟩, e4, g4⟩, e5, g5⟩ := h
    refine ⟨⟨x1, x2, x3, x4, x5⟩, ?_, ?_⟩
    · rw [h0]
      show ped _ = _
      simp [ped, e1, e2, e3, e4, e5]
    · intro y0 y1 y2 y3 y4 y5 y6 ev
      simp only [Value.agg.injEq, Value.int.injEq, Value.string.injEq, Value.slice.injEq, List.cons.injEq, Array.mk.injEq, and_true, true_and] at ev
      obtain ⟨rfl, rfl, rfl, rfl, rfl, rfl, rfl⟩ := ev
      exact ⟨_, by rw [g1.1, g2, g3.1, g4.1], g5⟩)
  clear hs9 hc9 hb9 hr9 HP
  go_wp2_with fail
  have hC9 := (((((HB9.out.set 0 (I nid)).set 1 (.string lb)).set 2 (I fr)).set 3 (I tt)).set 4 (.slice pa pn pc))
  exact bodyPost_ret_by (v := .agg #[I nid, .string lb, I fr, I tt, .slice pa pn pc]) (results_cell_row Tryz.results58 _ _ rb 119 _ (0, 0) _ rfl hC9.h Tryz.underlying119 rfl (by kernel_rfl)) rfl (HF.out _ ((((((chg_setCell (F := fun k => k = rb) (b := rb) (o := 0) _ (I nid) (.inl rfl)).trans (chg_setCell (F := fun k => k = rb) (b := rb) (o := 1) _ (.string lb) (.inl rfl))).trans (chg_setCell (F := fun k => k = rb) (b := rb) (o := 2) _ (I fr) (.inl rfl))).trans (chg_setCell (F := fun k => k = rb) (b := rb) (o := 3) _ (I tt) (.inl rfl))).trans (chg_setCell (F := fun k => k = rb) (b := rb) (o := 4) _ (.slice pa pn pc) (.inl rfl)))))
set_option maxRecDepth 100000 in
set_option maxHeartbeats 1000000 in
theorem table2_any (N : Nat) (w : World) (b : Nat) (s : Option (List Nat)) (h : Sc N w b s) (hN : N ≤ w.heap.size) (hT : TB b w) :
    Calls Tryz.prog 54 #[ptr b] w (GetF N ptb (fun v => ∃ (ca : Option Addr) (cn cc : Nat) (ra : Option Addr) (rn rc : Nat) (md gn st : Int), v = .agg #[.slice ca cn cc, .slice ra rn rc, I md, I gn, I st]) (fun u v x => ∀ (ca : Option Addr) (cn cc : Nat) (ra : Option Addr) (rn rc : Nat) (md gn st : Int), v = .agg #[.slice ca cn cc, .slice ra rn rc, I md, I gn, I st] → (dT).r u [.slice ca cn cc, .slice ra rn rc, I md, I gn, I st] x) b w s) := by
  obtain ⟨xs0, hb0⟩ := h.blk
  have hbl := hb0.lt
  obtain ⟨u0, hw0⟩ : ∃ u0, u0 = w.alloc (.cells #[.slice none 0 0, .slice none 0 0, I 0, I 0, I 0] 74) := ⟨_, rfl⟩
  obtain ⟨rb, hrb⟩ : ∃ rb, rb = w.heap.size := ⟨_, rfl⟩
  have HP : Hid (Ps N b w s ptb rb 74 [.slice none 0 0, .slice none 0 0, I 0, I 0, I 0] (fun _ r => s = some r) u0) := Ps.start ptb h (by rw [hw0]; exact (G.refl w).alloc _) (by rw [hw0, hrb]; exact Blk.new w [.slice none 0 0, .slice none 0 0, I 0, I 0, I 0] _)
  have HNE : Hid (rb ≠ b ∧ w.heap.size ≤ rb ∧ N ≤ rb) := ⟨by omega, by omega, by omega⟩
  have HNW := hide hN
  have HW := hide hw0
  have HRB := hide hrb
  have HT := hide hT
  clear h hN hT hb0 hbl hw0 hrb
  go_enter Tryz.func54, Tryz.ntmps54
  go_wp2_with fail
  rw [show w.alloc (.cells #[.slice none 0 0, .slice none 0 0, I 0, I 0, I 0] 74) = u0 from HW.out.symm]
  rw [← HRB.out]
  obtain ⟨s1, hs1, hc1, hb1, hr1⟩ := HP.out
  refine (getSF_any N _ b s1 hs1 (Nat.le_trans HNW.out hc1.size)).mono ?_
  rintro e w1 ⟨v1, rfl, ⟨ca, cn, cc, rfl⟩, hd1, hz1, hR1⟩
  have hB1 := hb1.chg hd1 HNE.out.1
  have k1 := hB1.cell
  have f1 := hB1.frozen
  replace HP := hide (Ps.step (p := ptb) (q := (pl pt)) (Φ := (fun _ r => s = some r)) (R := fun u l => Sw eS 9 u (.slice ca cn cc) l) hs1 hc1 hr1 HNE.out.2.2 HNE.out.2.1 HNE.out.1 hd1 hz1 (fun x l' e => by exact hR1 x l' e) (chg_setCell (F := fun k => k = rb) (b := rb) (o := 0) _ (.slice ca cn cc) (.inl rfl)) hB1 (hB1.set 0 (.slice ca cn cc)) (fun _ _ _ _ h => h) (fun _ _ _ k h => h.kx k (by decide)) (fun u r h e => by
    have h0 := h
    rw [h0]
    show ptb _ = none
    simp [ptb, e]))
  clear hs1 hc1 hb1 hr1 hd1 hz1 hR1 hB1
  go_wp2_with fail
  generalize (w1.setCell ⟨rb, 0, none⟩ (.slice ca cn cc)) = u1 at HP ⊢
  clear k1 f1
  obtain ⟨s2, hs2, hc2, hb2, hr2⟩ := HP.out
  refine (getR_any N _ b s2 hs2 (Nat.le_trans HNW.out hc2.size) (HT.out.cb hc2)).mono ?_
  rintro e w2 ⟨v2, rfl, ⟨ra, rn, rc, rfl⟩, hd2, hz2, hR2⟩
  have hB2 := hb2.chg hd2 HNE.out.1
  have k2 := hB2.cell
  have f2 := hB2.frozen
  replace HP := hide (Ps.step (p := ptb) (q := (pl (pl pvl))) (Φ := (fun u r' => ∃ r x, (fun _ r => s = some r) u r ∧ (pl pt) r = some (x, r') ∧ (fun u l => Sw eS 9 u (.slice ca cn cc) l) u x)) (R := fun u l => NRow dR 75 u (.slice ra rn rc) l) hs2 hc2 hr2 HNE.out.2.2 HNE.out.2.1 HNE.out.1 hd2 hz2 (fun x l' e => by exact hR2 x l' e) (chg_setCell (F := fun k => k = rb) (b := rb) (o := 1) _ (.slice ra rn rc) (.inl rfl)) hB2 (hB2.set 1 (.slice ra rn rc)) (fun u u' r' k ⟨r, x, h1, h2, h3⟩ => ⟨r, x, (fun _ _ _ _ h => h) u u' r k h1, h2, (fun _ _ _ k h => h.kx k (by decide)) u u' x k h3⟩) (fun _ _ _ k h => h.kx k (by decide) (by decide)) (fun u r h e => by
    obtain ⟨r1, x1, h0, e1, g1⟩ := h
    rw [h0]
    show ptb _ = none
    simp [ptb, e1, e]))
  clear hs2 hc2 hb2 hr2 hd2 hz2 hR2 hB2
  go_wp2_with fail
  generalize (w2.setCell ⟨rb, 1, none⟩ (.slice ra rn rc)) = u2 at HP ⊢
  clear k2 f2
  obtain ⟨s3, hs3, hc3, hb3, hr3⟩ := HP.out
  refine (nF_any N _ b s3 hs3).mono ?_
  rintro e w3 ⟨v3, rfl, ⟨md, rfl⟩, hd3, hz3, hR3⟩
  have hB3 := hb3.chg hd3 HNE.out.1
  have k3 := hB3.cell
  have f3 := hB3.frozen
  replace HP := hide (Ps.step (p := ptb) (q := pz) (Φ := (fun u r' => ∃ r x, (fun u r' => ∃ r x, (fun _ r => s = some r) u r ∧ (pl pt) r = some (x, r') ∧ (fun u l => Sw eS 9 u (.slice ca cn cc) l) u x) u r ∧ (pl (pl pvl)) r = some (x, r') ∧ (fun u l => NRow dR 75 u (.slice ra rn rc) l) u x)) (R := fun _ x => md = x ∧ R64 x) hs3 hc3 hr3 HNE.out.2.2 HNE.out.2.1 HNE.out.1 hd3 hz3 (fun x l' e => by have := hR3 x l' e; simp at this; exact this) (chg_setCell (F := fun k => k = rb) (b := rb) (o := 2) _ (I md) (.inl rfl)) hB3 (hB3.set 2 (I md)) (fun u u' r' k ⟨r, x, h1, h2, h3⟩ => ⟨r, x, (fun u u' r' k ⟨r, x, h1, h2, h3⟩ => ⟨r, x, (fun _ _ _ _ h => h) u u' r k h1, h2, (fun _ _ _ k h => h.kx k (by decide)) u u' x k h3⟩) u u' r k h1, h2, (fun _ _ _ k h => h.kx k (by decide) (by decide)) u u' x k h3⟩) (fun _ _ _ _ h => h) (fun u r h e => by
    obtain ⟨r2, x2, ⟨r1, x1, h0, e1, g1⟩, e2, g2⟩ := h
    rw [h0]
    show ptb _ = none
    simp [ptb, e1, e2, e]))
  clear hs3 hc3 hb3 hr3 hd3 hz3 hR3 hB3
  go_wp2_with fail
  generalize (w3.setCell ⟨rb, 2, none⟩ (I md)) = u3 at HP ⊢
  clear k3 f3
  obtain ⟨s4, hs4, hc4, hb4, hr4⟩ := HP.out
  refine (nF_any N _ b s4 hs4).mono ?_
  rintro e w4 ⟨v4, rfl, ⟨gn, rfl⟩, hd4, hz4, hR4⟩
  have hB4 := hb4.chg hd4 HNE.out.1
  have k4 := hB4.cell
  have f4 := hB4.frozen
  replace HP := hide (Ps.step (p := ptb) (q := pz) (Φ := (fun u r' => ∃ r x, (fun u r' => ∃ r x, (fun u r' => ∃ r x, (fun _ r => s = some r) u r ∧ (pl pt) r = some (x, r') ∧ (fun u l => Sw eS 9 u (.slice ca cn cc) l) u x) u r ∧ (pl (pl pvl)) r = some (x, r') ∧ (fun u l => NRow dR 75 u (.slice ra rn rc) l) u x) u r ∧ pz r = some (x, r') ∧ (fun _ x => md = x ∧ R64 x) u x)) (R := fun _ x => gn = x ∧ R64 x) hs4 hc4 hr4 HNE.out.2.2 HNE.out.2.1 HNE.out.1 hd4 hz4 (fun x l' e => by have := hR4 x l' e; simp at this; exact this) (chg_setCell (F := fun k => k = rb) (b := rb) (o := 3) _ (I gn) (.inl rfl)) hB4 (hB4.set 3 (I gn)) (fun u u' r' k ⟨r, x, h1, h2, h3⟩ => ⟨r, x, (fun u u' r' k ⟨r, x, h1, h2, h3⟩ => ⟨r, x, (fun u u' r' k ⟨r, x, h1, h2, h3⟩ => ⟨r, x, (fun _ _ _ _ h => h) u u' r k h1, h2, (fun _ _ _ k h => h.kx k (by decide)) u u' x k h3⟩) u u' r k h1, h2, (fun _ _ _ k h => h.kx k (by decide) (by decide)) u u' x k h3⟩) u u' r k h1, h2, (fun _ _ _ _ h => h) u u' x k h3⟩) (fun _ _ _ _ h => h) (fun u r h e => by
    obtain ⟨r3, x3, ⟨r2, x2, ⟨r1, x1, h0, e1, g1⟩, e2, g2⟩, e3, g3⟩ := h
    rw [h0]
    show ptb _ = none
    simp [ptb, e1, e2, e3, e]))
  clear hs4 hc4 hb4 hr4 hd4 hz4 hR4 hB4
  go_wp2_with fail
  generalize (w4.setCell ⟨rb, 3, none⟩ (I gn)) = u4 at HP ⊢
  clear k4 f4
  obtain ⟨s5, hs5, hc5, hb5, hr5⟩ := HP.out
  refine (nF_any N _ b s5 hs5).mono ?_
  rintro e w5 ⟨v5, rfl, ⟨st, rfl⟩, hd5, hz5, hR5⟩
  have hB5 := hb5.chg hd5 HNE.out.1
  have k5 := hB5.cell
  have f5 := hB5.frozen
  replace HP := hide (Ps.step (p := ptb) (q := pz) (Φ := (fun u r' => ∃ r x, (fun u r' => ∃ r x, (fun u r' => ∃ r x, (fun u r' => ∃ r x, (fun _ r => s = some r) u r ∧ (pl pt) r = some (x, r') ∧ (fun u l => Sw eS 9 u (.slice ca cn cc) l) u x) u r ∧ (pl (pl pvl)) r = some (x, r') ∧ (fun u l => NRow dR 75 u (.slice ra rn rc) l) u x) u r ∧ pz r = some (x, r') ∧ (fun _ x => md = x ∧ R64 x) u x) u r ∧ pz r = some (x, r') ∧ (fun _ x => gn = x ∧ R64 x) u x)) (R := fun _ x => st = x ∧ R64 x) hs5 hc5 hr5 HNE.out.2.2 HNE.out.2.1 HNE.out.1 hd5 hz5 (fun x l' e => by have := hR5 x l' e; simp at this; exact this) (chg_setCell (F := fun k => k = rb) (b := rb) (o := 4) _ (I st) (.inl rfl)) hB5 (hB5.set 4 (I st)) (fun u u' r' k ⟨r, x, h1, h2, h3⟩ => ⟨r, x, (fun u u' r' k ⟨r, x, h1, h2, h3⟩ => ⟨r, x, (fun u u' r' k ⟨r, x, h1, h2, h3⟩ => ⟨r, x, (fun u u' r' k ⟨r, x, h1, h2, h3⟩ => ⟨r, x, (fun _ _ _ _ h => h) u u' r k h1, h2, (fun _ _ _ k h => h.kx k (by decide)) u u' x k h3⟩) u u' r k h1, h2, (fun _ _ _ k h => h.kx k (by decide) (by decide)) u u' x k h3⟩) u u' r k h1, h2, (fun _ _ _ _ h => h) u u' x k h3⟩) u u' r k h1, h2, (fun _ _ _ _ h => h) u u' x k h3⟩) (fun _ _ _ _ h => h) (fun u r h e => by
    obtain ⟨r4, x4, ⟨r3, x3, ⟨r2, x2, ⟨r1, x1, h0, e1, g1⟩, e2, g2⟩, e3, g3⟩, e4, g4⟩ := h
    rw [h0]
    show ptb _ = none
    simp [ptb, e1, e2, e3, e4, e]))
  clear hs5 hc5 hb5 hr5 hd5 hz5 hR5 hB5
  obtain ⟨s9, hs9, hc9, hb9, hr9⟩ := id HP.out
  have HB9 := hide hb9
  have HF : Hid (∀ u, Chg (fun k => k = rb) (w5.setCell ⟨rb, 4, none⟩ (I st)) u → GetF N ptb (fun v => ∃ (ca : Option Addr) (cn cc : Nat) (ra : Option Addr) (rn rc : Nat) (md gn st : Int), v = .agg #[.slice ca cn cc, .slice ra rn rc, I md, I gn, I st]) (fun u v x => ∀ (ca : Option Addr) (cn cc : Nat) (ra : Option Addr) (rn rc : Nat) (md gn st : Int), v = .agg #[.slice ca cn cc, .slice ra rn rc, I md, I gn, I st] → (dT).r u [.slice ca cn cc, .slice ra rn rc, I md, I gn, I st] x) b w s (.returned (.agg #[.slice ca cn cc, .slice ra rn rc, I md, I gn, I st])) u) := fun u hu => Ps.fin HP.out hu HNE.out (fun u u' r' k ⟨r, x, h1, h2, h3⟩ => ⟨r, x, (fun u u' r' k ⟨r, x, h1, h2, h3⟩ => ⟨r, x, (fun u u' r' k ⟨r, x, h1, h2, h3⟩ => ⟨r, x, (fun u u' r' k ⟨r, x, h1, h2, h3⟩ => ⟨r, x, (fun u u' r' k ⟨r, x, h1, h2, h3⟩ => ⟨r, x, (fun _ _ _ _ h => h) u u' r k h1, h2, (fun _ _ _ k h => h.kx k (by decide)) u u' x k h3⟩) u u' r k h1, h2, (fun _ _ _ k h => h.kx k (by decide) (by decide)) u u' x k h3⟩) u u' r k h1, h2, (fun _ _ _ _ h => h) u u' x k h3⟩) u u' r k h1, h2, (fun _ _ _ _ h => h) u u' x k h3⟩) u u' r k h1, h2, (fun _ _ _ _ h => h) u u' x k h3⟩) ⟨ca, cn, cc, ra, rn, rc, md, gn, st, rfl⟩ (fun u r h => by
    obtain ⟨r5, x5, ⟨r4, x4, ⟨r3, x3, ⟨r2, x2, ⟨r1, x1, h0, e1, g1⟩, e2, g2⟩, e3, g3⟩, e4, g4⟩, e5, g5⟩ := h
    refine ⟨⟨x1, x2, x3, x4, x5⟩, ?_, ?_⟩
    · rw [h0]
      show ptb _ = _
      simp [ptb, e1, e2, e3, e4, e5]
    · intro y0 y1 y2 y3 y4 y5 y6 y7 y8 ev
      simp only [Value.agg.injEq, Value.int.injEq, Value.slice.injEq, List.cons.injEq, Array.mk.injEq, and_true, true_and] at ev
      obtain ⟨⟨rfl, rfl, rfl⟩, ⟨rfl, rfl, rfl⟩, rfl, rfl, rfl⟩ := ev
      exact ⟨_, _, by rw [g3.1, g4.1, g5.1], g1, g2⟩)
  clear hs9 hc9 hb9 hr9 HP
  go_wp2_with fail
  have hC9 := (((((HB9.out.set 0 (.slice ca cn cc)).set 1 (.slice ra rn rc)).set 2 (I md)).set 3 (I gn)).set 4 (I st))
  exact bodyPost_ret_by (v := .agg #[.slice ca cn cc, .slice ra rn rc, I md, I gn, I st]) (results_cell_row Tryz.results54 _ _ rb 74 _ (0, 0) _ rfl hC9.h Tryz.underlying74 rfl (by kernel_rfl)) rfl (HF.out _ ((((((chg_setCell (F := fun k => k = rb) (b := rb) (o := 0) _ (.slice ca cn cc) (.inl rfl)).trans (chg_setCell (F := fun k => k = rb) (b := rb) (o := 1) _ (.slice ra rn rc) (.inl rfl))).trans (chg_setCell (F := fun k => k = rb) (b := rb) (o := 2) _ (I md) (.inl rfl))).trans (chg_setCell (F := fun k => k = rb) (b := rb) (o := 3) _ (I gn) (.inl rfl))).trans (chg_setCell (F := fun k => k = rb) (b := rb) (o := 4) _ (I st) (.inl rfl)))))
set_option maxRecDepth 100000 in
set_option maxHeartbeats 1000000 in
theorem getN_any (N : Nat) (w : World) (b : Nat) (s : Option (List Nat)) (h : Sc N w b s) (hN : N ≤ w.heap.size) (hT : TB b w) :
    Calls Tryz.prog 55 #[ptr b, .func (.func 56) #[] #[]] w (GetF N (pl pnd) (fun v => ∃ a n c, v = .slice a n c) (fun u v l => NRow dN 114 u v l) b w s) := by
  have KC := hide (count2_any N w b s h)
  have HT := hide hT
  clear h hT
  go_enter Tryz.func55, Tryz.ntmps55
  go_wp2_with fail
  refine KC.out.mono ?_
  rintro e w1 ⟨v1, rfl, hc1, hcase⟩
  have hst : ∃ (n : Nat) (s1 : Option (List Nat)), v1 = .int .u64 n ∧ n < 18446744073709551616 ∧ Sc N w1 b s1 ∧ s.bind (pl pnd) = s1.bind (fun r => if r.length < n then none else prep pnd n r) ∧ (s1 = none → n = 0) := by
    rcases hcase with ⟨n, l', hp, hs1, rfl⟩ | ⟨hp, hs1, rfl⟩
    · refine ⟨n, some l', rfl, by cases s with | none => cases hp | some l => exact pc_lt hp, hs1, ?_, fun q => by cases q⟩
      cases s with
      | none => cases hp
      | some l => show ((pc l).bind _) = _; rw [show pc l = some (n, l') from hp]; rfl
    · refine ⟨0, none, rfl, by decide, hs1, ?_, fun _ => rfl⟩
      cases s with
      | none => rfl
      | some l => show ((pc l).bind _) = _; rw [show pc l = none from hp]; rfl
  obtain ⟨n, s1, rfl, hn, hs1, hpl, h0⟩ := hst
  obtain ⟨p1, c1, bad1, l1, b1, hr1, _, hl1, h51, _⟩ := hs1.form
  have k1 := b1.cell
  have f1 := b1.frozen
  have u1 : IntKind.u64.wrap (l1.length : Int) = (l1.length : Int) := by rw [IntKind.wrap_u64]; omega
  have hstart : ∃ (w2 : World) (s2 : Option (List Nat)), (((l1.length : Int) < (n : Int) ∧ w2 = w1.setCell ⟨b, 1, none⟩ (.bool true)) ∨ (¬ (l1.length : Int) < (n : Int) ∧ w2 = w1)) ∧ Sc N w2 b s2 ∧ Cb b w1 w2 ∧ ((s2 = none ∧ s.bind (pl pnd) = none) ∨ (∃ r, s2 = some r ∧ n ≤ 2097152 ∧ s.bind (pl pnd) = prep pnd n r)) := by
    by_cases c : l1.length < n
    · have hsp := hs1.spoil
      refine ⟨_, none, .inl ⟨by omega, rfl⟩, hsp.1, hsp.2, .inl ⟨rfl, ?_⟩⟩
      rcases h51 with ⟨_, q⟩ | ⟨_, q⟩
      · rw [hpl, q]; rfl
      · rw [hpl, q]; show (if l1.length < n then none else _) = _; rw [if_pos c]
    · refine ⟨w1, s1, .inr ⟨by omega, rfl⟩, hs1, Chg.refl _ _, ?_⟩
      rcases h51 with ⟨_, q⟩ | ⟨_, q⟩
      · exact .inl ⟨q, by rw [hpl, q]; rfl⟩
      · exact .inr ⟨l1, q, by omega, by rw [hpl, q]; show (if l1.length < n then none else _) = _; rw [if_neg c]⟩
  obtain ⟨w2, s2, hw2, hs2, hc2, hrel2⟩ := hstart
  have HS := hide (And.intro hs2 (And.intro (hc1.trans hc2) hrel2))
  have HN := hide hn
  have HNN := hide hN
  clear hN hc1 hs1 hpl h0 b1 hr1 hl1 h51 hs2 hc2 hrel2 KC hcase hn
  rcases hw2 with ⟨i1, rfl⟩ | ⟨i1, rfl⟩
  · skip
    go_wp2_with fail
    go_loopw [21, 6] (fun iv ov wr => ∃ (i : Nat) (s' : Option (List Nat)) (rs : List (Raw (dN).s)), iv = .int .u64 i ∧ i ≤ n ∧ Sw (eR (dN).s) 114 wr ov rs ∧ Fresh w ov ∧ Cb b w wr ∧ Sc N wr b s' ∧ rs.length = i ∧ ((s' = none ∧ s.bind (pl pnd) = none) ∨ (∃ (r : List Nat) (xs : List (Nd)), s' = some r ∧ n ≤ 2097152 ∧ xs.length = i ∧ (∀ (j : Nat) (c : Raw (dN).s) (x : Nd), rs[j]? = some c → xs[j]? = some x → (dN).r wr c.1 x) ∧ s.bind (pl pnd) = (prep pnd (n - i) r).map fun y => (xs ++ y.1, y.2)))) (fun iv _ _ => n - (RowKit.intOf iv).toNat)
    case atStart =>
      obtain ⟨hs2, hc2, hrel2⟩ := HS.out
      refine ⟨0, s2, [], rfl, Nat.zero_le _, Sw.nil _ _ _, Fresh.nil _, hc2, hs2, rfl, ?_⟩
      rcases hrel2 with q | ⟨r, q1, q2, q3⟩
      · exact .inl q
      · exact .inr ⟨r, [], q1, q2, rfl, fun j c x e => by simp at e, by rw [q3]; simp⟩
    case round =>
      obtain ⟨i, s', rs, rfl, hin, ho, hof, hch, hs, hxl, hrel'⟩ := hrel
      clear HS k1 f1 u1 i1 
      obtain ⟨p3, n3, c3, b3⟩ := hs.bad
      have k3 := b3.cell
      by_cases hlt : i < n
      · have i2 : (i : Int) < (n : Int) := by omega
        cases s' with
        | none =>
          have hno : s.bind (pl pnd) = none := by
            rcases hrel' with ⟨_, q⟩ | ⟨r, xs, q, _⟩
            · exact q
            · cases q
          have HF : Hid (GetF N (pl pnd) (fun v => ∃ a n c, v = .slice a n c) (fun u v l => NRow dN 114 u v l) b w s (.returned (.slice none 0 0)) wr) := ⟨_, rfl, ⟨_, _, _, rfl⟩, hch, by rw [hno]; exact hs, fun x l' e => by rw [hno] at e; cases e⟩
          simp only [Option.isNone_none] at k3
          clear hin ho hof hch hs hxl hrel' b3 hlt hno
          go_wp2_with fail
          go_ret
          exact HF.out
        | some r =>
          obtain ⟨xs, n21, hxs, hD, hpp⟩ : ∃ xs : List (Nd), n ≤ 2097152 ∧ xs.length = i ∧ (∀ (j : Nat) (c : Raw (dN).s) (x : Nd), rs[j]? = some c → xs[j]? = some x → (dN).r wr c.1 x) ∧ s.bind (pl pnd) = (prep pnd (n - i) r).map fun y => (xs ++ y.1, y.2) := by
            rcases hrel' with ⟨q, _⟩ | ⟨r', xs, q, q2⟩
            · cases q
            · cases q; exact ⟨xs, q2⟩
          have KG := hide (node2_any N wr b (some r) hs (Nat.le_trans HNN.out hch.size) (HT.out.cb hch))
          have hob : ∀ k, u6.ownBlock = some k → ¬ k = b := fun k hk e => by subst e; exact ho.ne b3 (by decide) hk
          have HO := hide (And.intro ho (And.intro hof hob))
          have HC := hide hch
          have HB3 := hide b3
          have HX := hide (And.intro hxl (And.intro n21 (And.intro hxs (And.intro hpp (And.intro hlt hD)))))
          simp only [Option.isNone_some] at k3
          clear hin ho hof hch hs hxl hrel' b3 hlt n21 hpp hob hxs hD
          go_wp2_with fail
          refine KG.out.mono ?_
          rintro e w4 ⟨v4, rfl, ⟨q0, q1, q2, q3, q4, rfl⟩, hc4, hs4, hR4⟩
          obtain ⟨ho, hof, hob⟩ := HO.out
          have hA := (G.refl w4).alloc (.cells #[I q0, .string q1, .slice q2 q3 q4] 114)
          have ho4' := ho.chg hc4 hob
          have ho4 := ho4'.G hA
          obtain ⟨i0, hi0, hz0, hz1, hz2⟩ := info_N
          have hmx : (2097153 : Nat) ≤ maxLen := of_decide_eq_true (by kernel_rfl)
          have hxl := HX.out.1
          have n21 := HX.out.2.1
          have hlt := HX.out.2.2.2.2.1
          obtain ⟨c, hc⟩ : ∃ c : Raw (dN).s, c.1 = [I q0, .string q1, .slice q2 q3 q4] := ⟨⟨[I q0, .string q1, .slice q2 q3 q4], rfl, fun u hu => by simp at hu; rcases hu with rfl | rfl | rfl <;> rfl⟩, rfl⟩
          have hlit : Row (eR (dN).s).rel (w4.alloc (.cells #[I q0, .string q1, .slice q2 q3 q4] 114)) (.slice (some ⟨w4.heap.size, 0, none⟩) 1 1) [c] := by
            have := Row.lit (E := eR (dN).s) w4 114 [c] 1 (by simp)
            rw [show (eR (dN).s).fl [c] = [I q0, .string q1, .slice q2 q3 q4] by simp [Enc.fl, hc]] at this
            exact this
          obtain ⟨v5, w5, hr5, hs5, hch5, hob5⟩ := app_row (P := Tryz.prog) (tr := 36) (ns := [c]) i0 _ 48 Tryz.underlying36 hi0 hz0 hz1 hz2 rfl (by decide) ho4 hlit (by simp; omega) (by simp; omega)
          have hcA : Cb b w (w4.alloc (.cells #[I q0, .string q1, .slice q2 q3 q4] 114)) := (HC.out.trans hc4).trans hA.chg
          have hc5 : Cb b w w5 := hcA.more hch5 (fun k hk q => absurd (hof k q) (by omega))
          have hf5 : Fresh w v5 := fun k hk => by
            rcases hob5 with q | q
            · rw [q] at hk; exact hof k hk
            · rw [q] at hk; have h1 := Option.some.inj hk; have h2 := hcA.size; omega
          have hsc5 := (hs4.G hA).own (W := w) (fun k hk => ⟨hof k hk, hob k hk⟩) HNN.out hch5
          have kx1 : Kx [62, 114] wr w4 := Kx.one hc4 HB3.out (by simp)
          have kx2 : Kx [62, 114] w4 w5 := (Kx.of_G hA).trans (Kx.own hch5 ho4 (by simp))
          have hty : ∀ t ∈ (dN).tys, t ∉ [62, 114] := by decide
          have HNX : Hid (((((some r).bind pnd).map (·.2)) = none ∧ s.bind (pl pnd) = none) ∨ (∃ (r4 : List Nat) (ys : List (Nd)), (((some r).bind pnd).map (·.2)) = some r4 ∧ n ≤ 2097152 ∧ ys.length = i + 1 ∧ (∀ (j : Nat) (c' : Raw (dN).s) (x : Nd), (rs ++ [c])[j]? = some c' → ys[j]? = some x → (dN).r w5 c'.1 x) ∧ s.bind (pl pnd) = (prep pnd (n - (i + 1)) r4).map fun y => (ys ++ y.1, y.2))) := by
            obtain ⟨hxl, n21, hxs, hpp, hlt, hD⟩ := HX.out
            have hR4 : ∀ x l', pnd r = some (x, l') → _ := hR4
            show ((((pnd r).map (·.2)) = none) ∧ _) ∨ (∃ r4 ys, (pnd r).map (·.2) = some r4 ∧ _)
            cases e : pnd r with
            | none =>
              refine .inl ⟨rfl, ?_⟩
              rw [hpp, show n - i = (n - (i + 1)) + 1 by omega]
              exact prep_stop pnd _ r xs e
            | some y =>
              obtain ⟨x, r4⟩ := y
              refine .inr ⟨r4, xs ++ [x], rfl, n21, by simp [hxs], ?_, ?_⟩
              · exact nrow_step (fun j c' x' e1 e2 => (dN).keep (kx1.trans kx2) hty (hD j c' x' e1 e2)) (by rw [hxl, hxs]) ((dN).keep kx2 hty (by rw [hc]; exact hR4 x r4 e q0 q1 q2 q3 q4 rfl))
              · rw [hpp, show n - i = (n - (i + 1)) + 1 by omega]
                exact prep_step pnd _ r r4 x xs e
          have HR5 := hide hr5
          obtain ⟨s5, hs5e⟩ : ∃ s5, s5 = ((some r).bind pnd).map (·.2) := ⟨_, rfl⟩
          rw [← hs5e] at hsc5 HNX
          have HF : Hid (∃ u, v5 = u ∧ Sw (eR (dN).s) 114 w5 u (rs ++ [c]) ∧ Fresh w u ∧ Cb b w w5 ∧ Sc N w5 b s5 ∧ (rs ++ [c]).length = i + 1 ∧ i < n) := ⟨_, rfl, hs5, hf5, hc5, hsc5, by simp; exact hxl, hlt⟩
          have HW : Hid (IntKind.u64.wrap ((i : Int) + 1) = (i : Int) + 1) := by show _ = _; rw [IntKind.wrap_u64]; omega
          clear hc4 hs4 hR4 ho hof hob hA ho4 ho4' hi0 hz0 hz1 hz2 hmx hxl n21 hlt hr5 hs5 hch5 hob5 hcA hc5 hf5 hsc5 KG HO HC HX k3 hs5e hlit kx1 kx2 hty HB3 hc
          go_wp2_with (first | (at_builtin; refine wpList_append_run rfl _ _ 36 rfl u6 (.slice (some ⟨w4.heap.size, 0, none⟩) 1 1) rfl rfl HR5.out ?_) | fail)
          try rw [HW.out]
          obtain ⟨u, rfl, r1, r2, r3, r4, r5, r6⟩ := HF.out
          refine ⟨⟨i + 1, s5, rs ++ [c], rfl, r6, r1, r2, r3, r4, r5, HNX.out⟩, ?_⟩
          simp only [RowKit.intOf]; omega
      · have i2 : ¬ (i : Int) < (n : Int) := by omega
        have ei : i = n := by omega
        obtain ⟨oa, oc, hov⟩ := ho.form
        have HF : Hid (GetF N (pl pnd) (fun v => ∃ a n c, v = .slice a n c) (fun u v l => NRow dN 114 u v l) b w s (.returned u6) wr) := by
          refine ⟨_, rfl, ⟨_, _, _, hov⟩, hch, ?_⟩
          rcases hrel' with ⟨q, q2⟩ | ⟨r, xs, q, q2, q3, q4, q5⟩
          · subst q; rw [q2]; exact ⟨hs, fun x l' e => by cases e⟩
          · subst q
            rw [ei, Nat.sub_self, prep] at q5
            have q5 : s.bind (pl pnd) = some (xs, r) := by rw [q5]; simp
            rw [q5]
            exact ⟨hs, fun x l' e => by cases e; exact ⟨rs, ho, by omega, q4⟩⟩
        clear hin ho hof hch hs hxl hrel' b3 hlt ei hov
        go_wp2_with fail
        go_ret
        exact HF.out
  · have d1 : decide ((l1.length : Int) < (n : Int)) = false := decide_eq_false i1
    have d2 : decide (l1.length < n) = false := decide_eq_false (by omega)
    go_wp2_with fail
    go_loopw [21, 6] (fun iv ov wr => ∃ (i : Nat) (s' : Option (List Nat)) (rs : List (Raw (dN).s)), iv = .int .u64 i ∧ i ≤ n ∧ Sw (eR (dN).s) 114 wr ov rs ∧ Fresh w ov ∧ Cb b w wr ∧ Sc N wr b s' ∧ rs.length = i ∧ ((s' = none ∧ s.bind (pl pnd) = none) ∨ (∃ (r : List Nat) (xs : List (Nd)), s' = some r ∧ n ≤ 2097152 ∧ xs.length = i ∧ (∀ (j : Nat) (c : Raw (dN).s) (x : Nd), rs[j]? = some c → xs[j]? = some x → (dN).r wr c.1 x) ∧ s.bind (pl pnd) = (prep pnd (n - i) r).map fun y => (xs ++ y.1, y.2)))) (fun iv _ _ => n - (RowKit.intOf iv).toNat)
    case atStart =>
      obtain ⟨hs2, hc2, hrel2⟩ := HS.out
      refine ⟨0, s2, [], rfl, Nat.zero_le _, Sw.nil _ _ _, Fresh.nil _, hc2, hs2, rfl, ?_⟩
      rcases hrel2 with q | ⟨r, q1, q2, q3⟩
      · exact .inl q
      · exact .inr ⟨r, [], q1, q2, rfl, fun j c x e => by simp at e, by rw [q3]; simp⟩
    case round =>
      obtain ⟨i, s', rs, rfl, hin, ho, hof, hch, hs, hxl, hrel'⟩ := hrel
      clear HS k1 f1 u1 i1 d1 d2
      obtain ⟨p3, n3, c3, b3⟩ := hs.bad
      have k3 := b3.cell
      by_cases hlt : i < n
      · have i2 : (i : Int) < (n : Int) := by omega
        cases s' with
        | none =>
          have hno : s.bind (pl pnd) = none := by
            rcases hrel' with ⟨_, q⟩ | ⟨r, xs, q, _⟩
            · exact q
            · cases q
          have HF : Hid (GetF N (pl pnd) (fun v => ∃ a n c, v = .slice a n c) (fun u v l => NRow dN 114 u v l) b w s (.returned (.slice none 0 0)) wr) := ⟨_, rfl, ⟨_, _, _, rfl⟩, hch, by rw [hno]; exact hs, fun x l' e => by rw [hno] at e; cases e⟩
          simp only [Option.isNone_none] at k3
          clear hin ho hof hch hs hxl hrel' b3 hlt hno
          go_wp2_with fail
          go_ret
          exact HF.out
        | some r =>
          obtain ⟨xs, n21, hxs, hD, hpp⟩ : ∃ xs : List (Nd), n ≤ 2097152 ∧ xs.length = i ∧ (∀ (j : Nat) (c : Raw (dN).s) (x : Nd), rs[j]? = some c → xs[j]? = some x → (dN).r wr c.1 x) ∧ s.bind (pl pnd) = (prep pnd (n - i) r).map fun y => (xs ++ y.1, y.2) := by
            rcases hrel' with ⟨q, _⟩ | ⟨r', xs, q, q2⟩
            · cases q
            · cases q; exact ⟨xs, q2⟩
          have KG := hide (node2_any N wr b (some r) hs (Nat.le_trans HNN.out hch.size) (HT.out.cb hch))
          have hob : ∀ k, u6.ownBlock = some k → ¬ k = b := fun k hk e => by subst e; exact ho.ne b3 (by decide) hk
          have HO := hide (And.intro ho (And.intro hof hob))
          have HC := hide hch
          have HB3 := hide b3
          have HX := hide (And.intro hxl (And.intro n21 (And.intro hxs (And.intro hpp (And.intro hlt hD)))))
          simp only [Option.isNone_some] at k3
          clear hin ho hof hch hs hxl hrel' b3 hlt n21 hpp hob hxs hD
          go_wp2_with fail
          refine KG.out.mono ?_
          rintro e w4 ⟨v4, rfl, ⟨q0, q1, q2, q3, q4, rfl⟩, hc4, hs4, hR4⟩
          obtain ⟨ho, hof, hob⟩ := HO.out
          have hA := (G.refl w4).alloc (.cells #[I q0, .string q1, .slice q2 q3 q4] 114)
          have ho4' := ho.chg hc4 hob
          have ho4 := ho4'.G hA
          obtain ⟨i0, hi0, hz0, hz1, hz2⟩ := info_N
          have hmx : (2097153 : Nat) ≤ maxLen := of_decide_eq_true (by kernel_rfl)
          have hxl := HX.out.1
          have n21 := HX.out.2.1
          have hlt := HX.out.2.2.2.2.1
          obtain ⟨c, hc⟩ : ∃ c : Raw (dN).s, c.1 = [I q0, .string q1, .slice q2 q3 q4] := ⟨⟨[I q0, .string q1, .slice q2 q3 q4], rfl, fun u hu => by simp at hu; rcases hu with rfl | rfl | rfl <;> rfl⟩, rfl⟩
          have hlit : Row (eR (dN).s).rel (w4.alloc (.cells #[I q0, .string q1, .slice q2 q3 q4] 114)) (.slice (some ⟨w4.heap.size, 0, none⟩) 1 1) [c] := by
            have := Row.lit (E := eR (dN).s) w4 114 [c] 1 (by simp)
            rw [show (eR (dN).s).fl [c] = [I q0, .string q1, .slice q2 q3 q4] by simp [Enc.fl, hc]] at this
            exact this
          obtain ⟨v5, w5, hr5, hs5, hch5, hob5⟩ := app_row (P := Tryz.prog) (tr := 36) (ns := [c]) i0 _ 48 Tryz.underlying36 hi0 hz0 hz1 hz2 rfl (by decide) ho4 hlit (by simp; omega) (by simp; omega)
          have hcA : Cb b w (w4.alloc (.cells #[I q0, .string q1, .slice q2 q3 q4] 114)) := (HC.out.trans hc4).trans hA.chg
          have hc5 : Cb b w w5 := hcA.more hch5 (fun k hk q => absurd (hof k q) (by omega))
          have hf5 : Fresh w v5 := fun k hk => by
            rcases hob5 with q | q
            · rw [q] at hk; exact hof k hk
            · rw [q] at hk; have h1 := Option.some.inj hk; have h2 := hcA.size; omega
          have hsc5 := (hs4.G hA).own (W := w) (fun k hk => ⟨hof k hk, hob k hk⟩) HNN.out hch5
          have kx1 : Kx [62, 114] wr w4 := Kx.one hc4 HB3.out (by simp)
          have kx2 : Kx [62, 114] w4 w5 := (Kx.of_G hA).trans (Kx.own hch5 ho4 (by simp))
          have hty : ∀ t ∈ (dN).tys, t ∉ [62, 114] := by decide
          have HNX : Hid (((((some r).bind pnd).map (·.2)) = none ∧ s.bind (pl pnd) = none) ∨ (∃ (r4 : List Nat) (ys : List (Nd)), (((some r).bind pnd).map (·.2)) = some r4 ∧ n ≤ 2097152 ∧ ys.length = i + 1 ∧ (∀ (j : Nat) (c' : Raw (dN).s) (x : Nd), (rs ++ [c])[j]? = some c' → ys[j]? = some x → (dN).r w5 c'.1 x) ∧ s.bind (pl pnd) = (prep pnd (n - (i + 1)) r4).map fun y => (ys ++ y.1, y.2))) := by
            obtain ⟨hxl, n21, hxs, hpp, hlt, hD⟩ := HX.out
            have hR4 : ∀ x l', pnd r = some (x, l') → _ := hR4
            show ((((pnd r).map (·.2)) = none) ∧ _) ∨ (∃ r4 ys, (pnd r).map (·.2) = some r4 ∧ _)
            cases e : pnd r with
            | none =>
              refine .inl ⟨rfl, ?_⟩
              rw [hpp, show n - i = (n - (i + 1)) + 1 by omega]
              exact prep_stop pnd _ r xs e
            | some y =>
              obtain ⟨x, r4⟩ := y
              refine .inr ⟨r4, xs ++ [x], rfl, n21, by simp [hxs], ?_, ?_⟩
              · exact nrow_step (fun j c' x' e1 e2 => (dN).keep (kx1.trans kx2) hty (hD j c' x' e1 e2)) (by rw [hxl, hxs]) ((dN).keep kx2 hty (by rw [hc]; exact hR4 x r4 e q0 q1 q2 q3 q4 rfl))
              · rw [hpp, show n - i = (n - (i + 1)) + 1 by omega]
                exact prep_step pnd _ r r4 x xs e
          have HR5 := hide hr5
          obtain ⟨s5, hs5e⟩ : ∃ s5, s5 = ((some r).bind pnd).map (·.2) := ⟨_, rfl⟩
          rw [← hs5e] at hsc5 HNX
          have HF : Hid (∃ u, v5 = u ∧ Sw (eR (dN).s) 114 w5 u (rs ++ [c]) ∧ Fresh w u ∧ Cb b w w5 ∧ Sc N w5 b s5 ∧ (rs ++ [c]).length = i + 1 ∧ i < n) := ⟨_, rfl, hs5, hf5, hc5, hsc5, by simp; exact hxl, hlt⟩
          have HW : Hid (IntKind.u64.wrap ((i : Int) + 1) = (i : Int) + 1) := by show _ = _; rw [IntKind.wrap_u64]; omega
          clear hc4 hs4 hR4 ho hof hob hA ho4 ho4' hi0 hz0 hz1 hz2 hmx hxl n21 hlt hr5 hs5 hch5 hob5 hcA hc5 hf5 hsc5 KG HO HC HX k3 hs5e hlit kx1 kx2 hty HB3 hc
          go_wp2_with (first | (at_builtin; refine wpList_append_run rfl _ _ 36 rfl u6 (.slice (some ⟨w4.heap.size, 0, none⟩) 1 1) rfl rfl HR5.out ?_) | fail)
          try rw [HW.out]
          obtain ⟨u, rfl, r1, r2, r3, r4, r5, r6⟩ := HF.out
          refine ⟨⟨i + 1, s5, rs ++ [c], rfl, r6, r1, r2, r3, r4, r5, HNX.out⟩, ?_⟩
          simp only [RowKit.intOf]; omega
      · have i2 : ¬ (i : Int) < (n : Int) := by omega
        have ei : i = n := by omega
        obtain ⟨oa, oc, hov⟩ := ho.form
        have HF : Hid (GetF N (pl pnd) (fun v => ∃ a n c, v = .slice a n c) (fun u v l => NRow dN 114 u v l) b w s (.returned u6) wr) := by
          refine ⟨_, rfl, ⟨_, _, _, hov⟩, hch, ?_⟩
          rcases hrel' with ⟨q, q2⟩ | ⟨r, xs, q, q2, q3, q4, q5⟩
          · subst q; rw [q2]; exact ⟨hs, fun x l' e => by cases e⟩
          · subst q
            rw [ei, Nat.sub_self, prep] at q5
            have q5 : s.bind (pl pnd) = some (xs, r) := by rw [q5]; simp
            rw [q5]
            exact ⟨hs, fun x l' e => by cases e; exact ⟨rs, ho, by omega, q4⟩⟩
        clear hin ho hof hch hs hxl hrel' b3 hlt ei hov
        go_wp2_with fail
        go_ret
        exact HF.out
set_option maxRecDepth 100000 in
set_option maxHeartbeats 1000000 in
theorem getE_any (N : Nat) (w : World) (b : Nat) (s : Option (List Nat)) (h : Sc N w b s) (hN : N ≤ w.heap.size) (hT : TB b w) :
    Calls Tryz.prog 57 #[ptr b, .func (.func 58) #[] #[]] w (GetF N (pl ped) (fun v => ∃ a n c, v = .slice a n c) (fun u v l => NRow dE 119 u v l) b w s) := by
  have KC := hide (count2_any N w b s h)
  have HT := hide hT
  clear h hT
  go_enter Tryz.func57, Tryz.ntmps57
  go_wp2_with fail
  refine KC.out.mono ?_
  rintro e w1 ⟨v1, rfl, hc1, hcase⟩
  have hst : ∃ (n : Nat) (s1 : Option (List Nat)), v1 = .int .u64 n ∧ n < 18446744073709551616 ∧ Sc N w1 b s1 ∧ s.bind (pl ped) = s1.bind (fun r => if r.length < n then none else prep ped n r) ∧ (s1 = none → n = 0) := by
    rcases hcase with ⟨n, l', hp, hs1, rfl⟩ | ⟨hp, hs1, rfl⟩
    · refine ⟨n, some l', rfl, by cases s with | none => cases hp | some l => exact pc_lt hp, hs1, ?_, fun q => by cases q⟩
      cases s with
      | none => cases hp
      | some l => show ((pc l).bind _) = _; rw [show pc l = some (n, l') from hp]; rfl
    · refine ⟨0, none, rfl, by decide, hs1, ?_, fun _ => rfl⟩
      cases s with
      | none => rfl
      | some l => show ((pc l).bind _) = _; rw [show pc l = none from hp]; rfl
  obtain ⟨n, s1, rfl, hn, hs1, hpl, h0⟩ := hst
  obtain ⟨p1, c1, bad1, l1, b1, hr1, _, hl1, h51, _⟩ := hs1.form
  have k1 := b1.cell
  have f1 := b1.frozen
  have u1 : IntKind.u64.wrap (l1.length : Int) = (l1.length : Int) := by rw [IntKind.wrap_u64]; omega
  have hstart : ∃ (w2 : World) (s2 : Option (List Nat)), (((l1.length : Int) < (n : Int) ∧ w2 = w1.setCell ⟨b, 1, none⟩ (.bool true)) ∨ (¬ (l1.length : Int) < (n : Int) ∧ w2 = w1)) ∧ Sc N w2 b s2 ∧ Cb b w1 w2 ∧ ((s2 = none ∧ s.bind (pl ped) = none) ∨ (∃ r, s2 = some r ∧ n ≤ 2097152 ∧ s.bind (pl ped) = prep ped n r)) := by
    by_cases c : l1.length < n
    · have hsp := hs1.spoil
      refine ⟨_, none, .inl ⟨by omega, rfl⟩, hsp.1, hsp.2, .inl ⟨rfl, ?_⟩⟩
      rcases h51 with ⟨_, q⟩ | ⟨_, q⟩
      · rw [hpl, q]; rfl
      · rw [hpl, q]; show (if l1.length < n then none else _) = _; rw [if_pos c]
    · refine ⟨w1, s1, .inr ⟨by omega, rfl⟩, hs1, Chg.refl _ _, ?_⟩
      rcases h51 with ⟨_, q⟩ | ⟨_, q⟩
      · exact .inl ⟨q, by rw [hpl, q]; rfl⟩
      · exact .inr ⟨l1, q, by omega, by rw [hpl, q]; show (if l1.length < n then none else _) = _; rw [if_neg c]⟩
  obtain ⟨w2, s2, hw2, hs2, hc2, hrel2⟩ := hstart
  have HS := hide (And.intro hs2 (And.intro (hc1.trans hc2) hrel2))
  have HN := hide hn
  have HNN := hide hN
  clear hN hc1 hs1 hpl h0 b1 hr1 hl1 h51 hs2 hc2 hrel2 KC hcase hn
  rcases hw2 with ⟨i1, rfl⟩ | ⟨i1, rfl⟩
  · skip
    go_wp2_with fail
    go_loopw [21, 6] (fun iv ov wr => ∃ (i : Nat) (s' : Option (List Nat)) (rs : List (Raw (dE).s)), iv = .int .u64 i ∧ i ≤ n ∧ Sw (eR (dE).s) 119 wr ov rs ∧ Fresh w ov ∧ Cb b w wr ∧ Sc N wr b s' ∧ rs.length = i ∧ ((s' = none ∧ s.bind (pl ped) = none) ∨ (∃ (r : List Nat) (xs : List (Ed)), s' = some r ∧ n ≤ 2097152 ∧ xs.length = i ∧ (∀ (j : Nat) (c : Raw (dE).s) (x : Ed), rs[j]? = some c → xs[j]? = some x → (dE).r wr c.1 x) ∧ s.bind (pl ped) = (prep ped (n - i) r).map fun y => (xs ++ y.1, y.2)))) (fun iv _ _ => n - (RowKit.intOf iv).toNat)
    case atStart =>
      obtain ⟨hs2, hc2, hrel2⟩ := HS.out
      refine ⟨0, s2, [], rfl, Nat.zero_le _, Sw.nil _ _ _, Fresh.nil _, hc2, hs2, rfl, ?_⟩
      rcases hrel2 with q | ⟨r, q1, q2, q3⟩
      · exact .inl q
      · exact .inr ⟨r, [], q1, q2, rfl, fun j c x e => by simp at e, by rw [q3]; simp⟩
    case round =>
      obtain ⟨i, s', rs, rfl, hin, ho, hof, hch, hs, hxl, hrel'⟩ := hrel
      clear HS k1 f1 u1 i1 
      obtain ⟨p3, n3, c3, b3⟩ := hs.bad
      have k3 := b3.cell
      by_cases hlt : i < n
      · have i2 : (i : Int) < (n : Int) := by omega
        cases s' with
        | none =>
          have hno : s.bind (pl ped) = none := by
            rcases hrel' with ⟨_, q⟩ | ⟨r, xs, q, _⟩
            · exact q
            · cases q
          have HF : Hid (GetF N (pl ped) (fun v => ∃ a n c, v = .slice a n c) (fun u v l => NRow dE 119 u v l) b w s (.returned (.slice none 0 0)) wr) := ⟨_, rfl, ⟨_, _, _, rfl⟩, hch, by rw [hno]; exact hs, fun x l' e => by rw [hno] at e; cases e⟩
          simp only [Option.isNone_none] at k3
          clear hin ho hof hch hs hxl hrel' b3 hlt hno
          go_wp2_with fail
          go_ret
          exact HF.out
        | some r =>
          obtain ⟨xs, n21, hxs, hD, hpp⟩ : ∃ xs : List (Ed), n ≤ 2097152 ∧ xs.length = i ∧ (∀ (j : Nat) (c : Raw (dE).s) (x : Ed), rs[j]? = some c → xs[j]? = some x → (dE).r wr c.1 x) ∧ s.bind (pl ped) = (prep ped (n - i) r).map fun y => (xs ++ y.1, y.2) := by
            rcases hrel' with ⟨q, _⟩ | ⟨r', xs, q, q2⟩
            · cases q
            · cases q; exact ⟨xs, q2⟩
          have KG := hide (edge2_any N wr b (some r) hs (Nat.le_trans HNN.out hch.size) (HT.out.cb hch))
          have hob : ∀ k, u6.ownBlock = some k → ¬ k = b := fun k hk e => by subst e; exact ho.ne b3 (by decide) hk
          have HO := hide (And.intro ho (And.intro hof hob))
          have HC := hide hch
          have HB3 := hide b3
          have HX := hide (And.intro hxl (And.intro n21 (And.intro hxs (And.intro hpp (And.intro hlt hD)))))
          simp only [Option.isNone_some] at k3
          clear hin ho hof hch hs hxl hrel' b3 hlt n21 hpp hob hxs hD
          go_wp2_with fail
          refine KG.out.mono ?_
          rintro e w4 ⟨v4, rfl, ⟨q0, q1, q2, q3, q4, q5, q6, rfl⟩, hc4, hs4, hR4⟩
          obtain ⟨ho, hof, hob⟩ := HO.out
          have hA := (G.refl w4).alloc (.cells #[I q0, .string q1, I q2, I q3, .slice q4 q5 q6] 119)
          have ho4' := ho.chg hc4 hob
          have ho4 := ho4'.G hA
          obtain ⟨i0, hi0, hz0, hz1, hz2⟩ := info_E
          have hmx : (2097153 : Nat) ≤ maxLen := of_decide_eq_true (by kernel_rfl)
          have hxl := HX.out.1
          have n21 := HX.out.2.1
          have hlt := HX.out.2.2.2.2.1
          obtain ⟨c, hc⟩ : ∃ c : Raw (dE).s, c.1 = [I q0, .string q1, I q2, I q3, .slice q4 q5 q6] := ⟨⟨[I q0, .string q1, I q2, I q3, .slice q4 q5 q6], rfl, fun u hu => by simp at hu; rcases hu with rfl | rfl | rfl | rfl | rfl <;> rfl⟩, rfl⟩
          have hlit : Row (eR (dE).s).rel (w4.alloc (.cells #[I q0, .string q1, I q2, I q3, .slice q4 q5 q6] 119)) (.slice (some ⟨w4.heap.size, 0, none⟩) 1 1) [c] := by
            have := Row.lit (E := eR (dE).s) w4 119 [c] 1 (by simp)
            rw [show (eR (dE).s).fl [c] = [I q0, .string q1, I q2, I q3, .slice q4 q5 q6] by simp [Enc.fl, hc]] at this
            exact this
          obtain ⟨v5, w5, hr5, hs5, hch5, hob5⟩ := app_row (P := Tryz.prog) (tr := 37) (ns := [c]) i0 _ 64 Tryz.underlying37 hi0 hz0 hz1 hz2 rfl (by decide) ho4 hlit (by simp; omega) (by simp; omega)
          have hcA : Cb b w (w4.alloc (.cells #[I q0, .string q1, I q2, I q3, .slice q4 q5 q6] 119)) := (HC.out.trans hc4).trans hA.chg
          have hc5 : Cb b w w5 := hcA.more hch5 (fun k hk q => absurd (hof k q) (by omega))
          have hf5 : Fresh w v5 := fun k hk => by
            rcases hob5 with q | q
            · rw [q] at hk; exact hof k hk
            · rw [q] at hk; have h1 := Option.some.inj hk; have h2 := hcA.size; omega
          have hsc5 := (hs4.G hA).own (W := w) (fun k hk => ⟨hof k hk, hob k hk⟩) HNN.out hch5
          have kx1 : Kx [62, 119] wr w4 := Kx.one hc4 HB3.out (by simp)
          have kx2 : Kx [62, 119] w4 w5 := (Kx.of_G hA).trans (Kx.own hch5 ho4 (by simp))
          have hty : ∀ t ∈ (dE).tys, t ∉ [62, 119] := by decide
          have HNX : Hid (((((some r).bind ped).map (·.2)) = none ∧ s.bind (pl ped) = none) ∨ (∃ (r4 : List Nat) (ys : List (Ed)), (((some r).bind ped).map (·.2)) = some r4 ∧ n ≤ 2097152 ∧ ys.length = i + 1 ∧ (∀ (j : Nat) (c' : Raw (dE).s) (x : Ed), (rs ++ [c])[j]? = some c' → ys[j]? = some x → (dE).r w5 c'.1 x) ∧ s.bind (pl ped) = (prep ped (n - (i + 1)) r4).map fun y => (ys ++ y.1, y.2))) := by
            obtain ⟨hxl, n21, hxs, hpp, hlt, hD⟩ := HX.out
            have hR4 : ∀ x l', ped r = some (x, l') → _ := hR4
            show ((((ped r).map (·.2)) = none) ∧ _) ∨ (∃ r4 ys, (ped r).map (·.2) = some r4 ∧ _)
            cases e : ped r with
            | none =>
              refine .inl ⟨rfl, ?_⟩
              rw [hpp, show n - i = (n - (i + 1)) + 1 by omega]
              exact prep_stop ped _ r xs e
            | some y =>
              obtain ⟨x, r4⟩ := y
              refine .inr ⟨r4, xs ++ [x], rfl, n21, by simp [hxs], ?_, ?_⟩
              · exact nrow_step (fun j c' x' e1 e2 => (dE).keep (kx1.trans kx2) hty (hD j c' x' e1 e2)) (by rw [hxl, hxs]) ((dE).keep kx2 hty (by rw [hc]; exact hR4 x r4 e q0 q1 q2 q3 q4 q5 q6 rfl))
              · rw [hpp, show n - i = (n - (i + 1)) + 1 by omega]
                exact prep_step ped _ r r4 x xs e
          have HR5 := hide hr5
          obtain ⟨s5, hs5e⟩ : ∃ s5, s5 = ((some r).bind ped).map (·.2) := ⟨_, rfl⟩
          rw [← hs5e] at hsc5 HNX
          have HF : Hid (∃ u, v5 = u ∧ Sw (eR (dE).s) 119 w5 u (rs ++ [c]) ∧ Fresh w u ∧ Cb b w w5 ∧ Sc N w5 b s5 ∧ (rs ++ [c]).length = i + 1 ∧ i < n) := ⟨_, rfl, hs5, hf5, hc5, hsc5, by simp; exact hxl, hlt⟩
          have HW : Hid (IntKind.u64.wrap ((i : Int) + 1) = (i : Int) + 1) := by show _ = _; rw [IntKind.wrap_u64]; omega
          clear hc4 hs4 hR4 ho hof hob hA ho4 ho4' hi0 hz0 hz1 hz2 hmx hxl n21 hlt hr5 hs5 hch5 hob5 hcA hc5 hf5 hsc5 KG HO HC HX k3 hs5e hlit kx1 kx2 hty HB3 hc
          go_wp2_with (first | (at_builtin; refine wpList_append_run rfl _ _ 37 rfl u6 (.slice (some ⟨w4.heap.size, 0, none⟩) 1 1) rfl rfl HR5.out ?_) | fail)
          try rw [HW.out]
          obtain ⟨u, rfl, r1, r2, r3, r4, r5, r6⟩ := HF.out
          refine ⟨⟨i + 1, s5, rs ++ [c], rfl, r6, r1, r2, r3, r4, r5, HNX.out⟩, ?_⟩
          simp only [RowKit.intOf]; omega
      · have i2 : ¬ (i : Int) < (n : Int) := by omega
        have ei : i = n := by omega
        obtain ⟨oa, oc, hov⟩ := ho.form
        have HF : Hid (GetF N (pl ped) (fun v => ∃ a n c, v = .slice a n c) (fun u v l => NRow dE 119 u v l) b w s (.returned u6) wr) := by
          refine ⟨_, rfl, ⟨_, _, _, hov⟩, hch, ?_⟩
          rcases hrel' with ⟨q, q2⟩ | ⟨r, xs, q, q2, q3, q4, q5⟩
          · subst q; rw [q2]; exact ⟨hs, fun x l' e => by cases e⟩
          · subst q
            rw [ei, Nat.sub_self, prep] at q5
            have q5 : s.bind (pl ped) = some (xs, r) := by rw [q5]; simp
            rw [q5]
            exact ⟨hs, fun x l' e => by cases e; exact ⟨rs, ho, by omega, q4⟩⟩
        clear hin ho hof hch hs hxl hrel' b3 hlt ei hov
        go_wp2_with fail
        go_ret
        exact HF.out
  · have d1 : decide ((l1.length : Int) < (n : Int)) = false := decide_eq_false i1
    have d2 : decide (l1.length < n) = false := decide_eq_false (by omega)
    go_wp2_with fail
    go_loopw [21, 6] (fun iv ov wr => ∃ (i : Nat) (s' : Option (List Nat)) (rs : List (Raw (dE).s)), iv = .int .u64 i ∧ i ≤ n ∧ Sw (eR (dE).s) 119 wr ov rs ∧ Fresh w ov ∧ Cb b w wr ∧ Sc N wr b s' ∧ rs.length = i ∧ ((s' = none ∧ s.bind (pl ped) = none) ∨ (∃ (r : List Nat) (xs : List (Ed)), s' = some r ∧ n ≤ 2097152 ∧ xs.length = i ∧ (∀ (j : Nat) (c : Raw (dE).s) (x : Ed), rs[j]? = some c → xs[j]? = some x → (dE).r wr c.1 x) ∧ s.bind (pl ped) = (prep ped (n - i) r).map fun y => (xs ++ y.1, y.2)))) (fun iv _ _ => n - (RowKit.intOf iv).toNat)
    case atStart =>
      obtain ⟨hs2, hc2, hrel2⟩ := HS.out
      refine ⟨0, s2, [], rfl, Nat.zero_le _, Sw.nil _ _ _, Fresh.nil _, hc2, hs2, rfl, ?_⟩
      rcases hrel2 with q | ⟨r, q1, q2, q3⟩
      · exact .inl q
      · exact .inr ⟨r, [], q1, q2, rfl, fun j c x e => by simp at e, by rw [q3]; simp⟩
    case round =>
      obtain ⟨i, s', rs, rfl, hin, ho, hof, hch, hs, hxl, hrel'⟩ := hrel
      clear HS k1 f1 u1 i1 d1 d2
      obtain ⟨p3, n3, c3, b3⟩ := hs.bad
      have k3 := b3.cell
      by_cases hlt : i < n
      · have i2 : (i : Int) < (n : Int) := by omega
        cases s' with
        | none =>
          have hno : s.bind (pl ped) = none := by
            rcases hrel' with ⟨_, q⟩ | ⟨r, xs, q, _⟩
            · exact q
            · cases q
          have HF : Hid (GetF N (pl ped) (fun v => ∃ a n c, v = .slice a n c) (fun u v l => NRow dE 119 u v l) b w s (.returned (.slice none 0 0)) wr) := ⟨_, rfl, ⟨_, _, _, rfl⟩, hch, by rw [hno]; exact hs, fun x l' e => by rw [hno] at e; cases e⟩
          simp only [Option.isNone_none] at k3
          clear hin ho hof hch hs hxl hrel' b3 hlt hno
          go_wp2_with fail
          go_ret
          exact HF.out
        | some r =>
          obtain ⟨xs, n21, hxs, hD, hpp⟩ : ∃ xs : List (Ed), n ≤ 2097152 ∧ xs.length = i ∧ (∀ (j : Nat) (c : Raw (dE).s) (x : Ed), rs[j]? = some c → xs[j]? = some x → (dE).r wr c.1 x) ∧ s.bind (pl ped) = (prep ped (n - i) r).map fun y => (xs ++ y.1, y.2) := by
            rcases hrel' with ⟨q, _⟩ | ⟨r', xs, q, q2⟩
            · cases q
            · cases q; exact ⟨xs, q2⟩
          have KG := hide (edge2_any N wr b (some r) hs (Nat.le_trans HNN.out hch.size) (HT.out.cb hch))
          have hob : ∀ k, u6.ownBlock = some k → ¬ k = b := fun k hk e => by subst e; exact ho.ne b3 (by decide) hk
          have HO := hide (And.intro ho (And.intro hof hob))
          have HC := hide hch
          have HB3 := hide b3
          have HX := hide (And.intro hxl (And.intro n21 (And.intro hxs (And.intro hpp (And.intro hlt hD)))))
          simp only [Option.isNone_some] at k3
          clear hin ho hof hch hs hxl hrel' b3 hlt n21 hpp hob hxs hD
          go_wp2_with fail
          refine KG.out.mono ?_
          rintro e w4 ⟨v4, rfl, ⟨q0, q1, q2, q3, q4, q5, q6, rfl⟩, hc4, hs4, hR4⟩
          obtain ⟨ho, hof, hob⟩ := HO.out
          have hA := (G.refl w4).alloc (.cells #[I q0, .string q1, I q2, I q3, .slice q4 q5 q6] 119)
          have ho4' := ho.chg hc4 hob
          have ho4 := ho4'.G hA
          obtain ⟨i0, hi0, hz0, hz1, hz2⟩ := info_E
          have hmx : (2097153 : Nat) ≤ maxLen := of_decide_eq_true (by kernel_rfl)
          have hxl := HX.out.1
          have n21 := HX.out.2.1
          have hlt := HX.out.2.2.2.2.1
          obtain ⟨c, hc⟩ : ∃ c : Raw (dE).s, c.1 = [I q0, .string q1, I q2, I q3, .slice q4 q5 q6] := ⟨⟨[I q0, .string q1, I q2, I q3, .slice q4 q5 q6], rfl, fun u hu => by simp at hu; rcases hu with rfl | rfl | rfl | rfl | rfl <;> rfl⟩, rfl⟩
          have hlit : Row (eR (dE).s).rel (w4.alloc (.cells #[I q0, .string q1, I q2, I q3, .slice q4 q5 q6] 119)) (.slice (some ⟨w4.heap.size, 0, none⟩) 1 1) [c] := by
            have := Row.lit (E := eR (dE).s) w4 119 [c] 1 (by simp)
            rw [show (eR (dE).s).fl [c] = [I q0, .string q1, I q2, I q3, .slice q4 q5 q6] by simp [Enc.fl, hc]] at this
            exact this
          obtain ⟨v5, w5, hr5, hs5, hch5, hob5⟩ := app_row (P := Tryz.prog) (tr := 37) (ns := [c]) i0 _ 64 Tryz.underlying37 hi0 hz0 hz1 hz2 rfl (by decide) ho4 hlit (by simp; omega) (by simp; omega)
          have hcA : Cb b w (w4.alloc (.cells #[I q0, .string q1, I q2, I q3, .slice q4 q5 q6] 119)) := (HC.out.trans hc4).trans hA.chg
          have hc5 : Cb b w w5 := hcA.more hch5 (fun k hk q => absurd (hof k q) (by omega))
          have hf5 : Fresh w v5 := fun k hk => by
            rcases hob5 with q | q
            · rw [q] at hk; exact hof k hk
            · rw [q] at hk; have h1 := Option.some.inj hk; have h2 := hcA.size; omega
          have hsc5 := (hs4.G hA).own (W := w) (fun k hk => ⟨hof k hk, hob k hk⟩) HNN.out hch5
          have kx1 : Kx [62, 119] wr w4 := Kx.one hc4 HB3.out (by simp)
          have kx2 : Kx [62, 119] w4 w5 := (Kx.of_G hA).trans (Kx.own hch5 ho4 (by simp))
          have hty : ∀ t ∈ (dE).tys, t ∉ [62, 119] := by decide
          have HNX : Hid (((((some r).bind ped).map (·.2)) = none ∧ s.bind (pl ped) = none) ∨ (∃ (r4 : List Nat) (ys : List (Ed)), (((some r).bind ped).map (·.2)) = some r4 ∧ n ≤ 2097152 ∧ ys.length = i + 1 ∧ (∀ (j : Nat) (c' : Raw (dE).s) (x : Ed), (rs ++ [c])[j]? = some c' → ys[j]? = some x → (dE).r w5 c'.1 x) ∧ s.bind (pl ped) = (prep ped (n - (i + 1)) r4).map fun y => (ys ++ y.1, y.2))) := by
            obtain ⟨hxl, n21, hxs, hpp, hlt, hD⟩ := HX.out
            have hR4 : ∀ x l', ped r = some (x, l') → _ := hR4
            show ((((ped r).map (·.2)) = none) ∧ _) ∨ (∃ r4 ys, (ped r).map (·.2) = some r4 ∧ _)
            cases e : ped r with
            | none =>
              refine .inl ⟨rfl, ?_⟩
              rw [hpp, show n - i = (n - (i + 1)) + 1 by omega]
              exact prep_stop ped _ r xs e
            | some y =>
              obtain ⟨x, r4⟩ := y
              refine .inr ⟨r4, xs ++ [x], rfl, n21, by simp [hxs], ?_, ?_⟩
              · exact nrow_step (fun j c' x' e1 e2 => (dE).keep (kx1.trans kx2) hty (hD j c' x' e1 e2)) (by rw [hxl, hxs]) ((dE).keep kx2 hty (by rw [hc]; exact hR4 x r4 e q0 q1 q2 q3 q4 q5 q6 rfl))
              · rw [hpp, show n - i = (n - (i + 1)) + 1 by omega]
                exact prep_step ped _ r r4 x xs e
          have HR5 := hide hr5
          obtain ⟨s5, hs5e⟩ : ∃ s5, s5 = ((some r).bind ped).map (·.2) := ⟨_, rfl⟩
          rw [← hs5e] at hsc5 HNX
          have HF : Hid (∃ u, v5 = u ∧ Sw (eR (dE).s) 119 w5 u (rs ++ [c]) ∧ Fresh w u ∧ Cb b w w5 ∧ Sc N w5 b s5 ∧ (rs ++ [c]).length = i + 1 ∧ i < n) := ⟨_, rfl, hs5, hf5, hc5, hsc5, by simp; exact hxl, hlt⟩
          have HW : Hid (IntKind.u64.wrap ((i : Int) + 1) = (i : Int) + 1) := by show _ = _; rw [IntKind.wrap_u64]; omega
          clear hc4 hs4 hR4 ho hof hob hA ho4 ho4' hi0 hz0 hz1 hz2 hmx hxl n21 hlt hr5 hs5 hch5 hob5 hcA hc5 hf5 hsc5 KG HO HC HX k3 hs5e hlit kx1 kx2 hty HB3 hc
          go_wp2_with (first | (at_builtin; refine wpList_append_run rfl _ _ 37 rfl u6 (.slice (some ⟨w4.heap.size, 0, none⟩) 1 1) rfl rfl HR5.out ?_) | fail)
          try rw [HW.out]
          obtain ⟨u, rfl, r1, r2, r3, r4, r5, r6⟩ := HF.out
          refine ⟨⟨i + 1, s5, rs ++ [c], rfl, r6, r1, r2, r3, r4, r5, HNX.out⟩, ?_⟩
          simp only [RowKit.intOf]; omega
      · have i2 : ¬ (i : Int) < (n : Int) := by omega
        have ei : i = n := by omega
        obtain ⟨oa, oc, hov⟩ := ho.form
        have HF : Hid (GetF N (pl ped) (fun v => ∃ a n c, v = .slice a n c) (fun u v l => NRow dE 119 u v l) b w s (.returned u6) wr) := by
          refine ⟨_, rfl, ⟨_, _, _, hov⟩, hch, ?_⟩
          rcases hrel' with ⟨q, q2⟩ | ⟨r, xs, q, q2, q3, q4, q5⟩
          · subst q; rw [q2]; exact ⟨hs, fun x l' e => by cases e⟩
          · subst q
            rw [ei, Nat.sub_self, prep] at q5
            have q5 : s.bind (pl ped) = some (xs, r) := by rw [q5]; simp
            rw [q5]
            exact ⟨hs, fun x l' e => by cases e; exact ⟨rs, ho, by omega, q4⟩⟩
        clear hin ho hof hch hs hxl hrel' b3 hlt ei hov
        go_wp2_with fail
        go_ret
        exact HF.out
set_option maxRecDepth 100000 in
set_option maxHeartbeats 1000000 in
theorem getT_any (N : Nat) (w : World) (b : Nat) (s : Option (List Nat)) (h : Sc N w b s) (hN : N ≤ w.heap.size) (hT : TB b w) :
    Calls Tryz.prog 53 #[ptr b, .func (.func 54) #[] #[]] w (GetF N (pl ptb) (fun v => ∃ a n c, v = .slice a n c) (fun u v l => NRow dT 74 u v l) b w s) := by
  have KC := hide (count2_any N w b s h)
  have HT := hide hT
  clear h hT
  go_enter Tryz.func53, Tryz.ntmps53
  go_wp2_with fail
  refine KC.out.mono ?_
  rintro e w1 ⟨v1, rfl, hc1, hcase⟩
  have hst : ∃ (n : Nat) (s1 : Option (List Nat)), v1 = .int .u64 n ∧ n < 18446744073709551616 ∧ Sc N w1 b s1 ∧ s.bind (pl ptb) = s1.bind (fun r => if r.length < n then none else prep ptb n r) ∧ (s1 = none → n = 0) := by
    rcases hcase with ⟨n, l', hp, hs1, rfl⟩ | ⟨hp, hs1, rfl⟩
    · refine ⟨n, some l', rfl, by cases s with | none => cases hp | some l => exact pc_lt hp, hs1, ?_, fun q => by cases q⟩
      cases s with
      | none => cases hp
      | some l => show ((pc l).bind _) = _; rw [show pc l = some (n, l') from hp]; rfl
    · refine ⟨0, none, rfl, by decide, hs1, ?_, fun _ => rfl⟩
      cases s with
      | none => rfl
      | some l => show ((pc l).bind _) = _; rw [show pc l = none from hp]; rfl
  obtain ⟨n, s1, rfl, hn, hs1, hpl, h0⟩ := hst
  obtain ⟨p1, c1, bad1, l1, b1, hr1, _, hl1, h51, _⟩ := hs1.form
  have k1 := b1.cell
  have f1 := b1.frozen
  have u1 : IntKind.u64.wrap (l1.length : Int) = (l1.length : Int) := by rw [IntKind.wrap_u64]; omega
  have hstart : ∃ (w2 : World) (s2 : Option (List Nat)), (((l1.length : Int) < (n : Int) ∧ w2 = w1.setCell ⟨b, 1, none⟩ (.bool true)) ∨ (¬ (l1.length : Int) < (n : Int) ∧ w2 = w1)) ∧ Sc N w2 b s2 ∧ Cb b w1 w2 ∧ ((s2 = none ∧ s.bind (pl ptb) = none) ∨ (∃ r, s2 = some r ∧ n ≤ 2097152 ∧ s.bind (pl ptb) = prep ptb n r)) := by
    by_cases c : l1.length < n
    · have hsp := hs1.spoil
      refine ⟨_, none, .inl ⟨by omega, rfl⟩, hsp.1, hsp.2, .inl ⟨rfl, ?_⟩⟩
      rcases h51 with ⟨_, q⟩ | ⟨_, q⟩
      · rw [hpl, q]; rfl
      · rw [hpl, q]; show (if l1.length < n then none else _) = _; rw [if_pos c]
    · refine ⟨w1, s1, .inr ⟨by omega, rfl⟩, hs1, Chg.refl _ _, ?_⟩
      rcases h51 with ⟨_, q⟩ | ⟨_, q⟩
      · exact .inl ⟨q, by rw [hpl, q]; rfl⟩
      · exact .inr ⟨l1, q, by omega, by rw [hpl, q]; show (if l1.length < n then none else _) = _; rw [if_neg c]⟩
  obtain ⟨w2, s2, hw2, hs2, hc2, hrel2⟩ := hstart
  have HS := hide (And.intro hs2 (And.intro (hc1.trans hc2) hrel2))
  have HN := hide hn
  have HNN := hide hN
  clear hN hc1 hs1 hpl h0 b1 hr1 hl1 h51 hs2 hc2 hrel2 KC hcase hn
  rcases hw2 with ⟨i1, rfl⟩ | ⟨i1, rfl⟩
  · skip
    go_wp2_with fail
    go_loopw [21, 6] (fun iv ov wr => ∃ (i : Nat) (s' : Option (List Nat)) (rs : List (Raw (dT).s)), iv = .int .u64 i ∧ i ≤ n ∧ Sw (eR (dT).s) 74 wr ov rs ∧ Fresh w ov ∧ Cb b w wr ∧ Sc N wr b s' ∧ rs.length = i ∧ ((s' = none ∧ s.bind (pl ptb) = none) ∨ (∃ (r : List Nat) (xs : List (Tb)), s' = some r ∧ n ≤ 2097152 ∧ xs.length = i ∧ (∀ (j : Nat) (c : Raw (dT).s) (x : Tb), rs[j]? = some c → xs[j]? = some x → (dT).r wr c.1 x) ∧ s.bind (pl ptb) = (prep ptb (n - i) r).map fun y => (xs ++ y.1, y.2)))) (fun iv _ _ => n - (RowKit.intOf iv).toNat)
    case atStart =>
      obtain ⟨hs2, hc2, hrel2⟩ := HS.out
      refine ⟨0, s2, [], rfl, Nat.zero_le _, Sw.nil _ _ _, Fresh.nil _, hc2, hs2, rfl, ?_⟩
      rcases hrel2 with q | ⟨r, q1, q2, q3⟩
      · exact .inl q
      · exact .inr ⟨r, [], q1, q2, rfl, fun j c x e => by simp at e, by rw [q3]; simp⟩
    case round =>
      obtain ⟨i, s', rs, rfl, hin, ho, hof, hch, hs, hxl, hrel'⟩ := hrel
      clear HS k1 f1 u1 i1 
      obtain ⟨p3, n3, c3, b3⟩ := hs.bad
      have k3 := b3.cell
      by_cases hlt : i < n
      · have i2 : (i : Int) < (n : Int) := by omega
        cases s' with
        | none =>
          have hno : s.bind (pl ptb) = none := by
            rcases hrel' with ⟨_, q⟩ | ⟨r, xs, q, _⟩
            · exact q
            · cases q
          have HF : Hid (GetF N (pl ptb) (fun v => ∃ a n c, v = .slice a n c) (fun u v l => NRow dT 74 u v l) b w s (.returned (.slice none 0 0)) wr) := ⟨_, rfl, ⟨_, _, _, rfl⟩, hch, by rw [hno]; exact hs, fun x l' e => by rw [hno] at e; cases e⟩
          simp only [Option.isNone_none] at k3
          clear hin ho hof hch hs hxl hrel' b3 hlt hno
          go_wp2_with fail
          go_ret
          exact HF.out
        | some r =>
          obtain ⟨xs, n21, hxs, hD, hpp⟩ : ∃ xs : List (Tb), n ≤ 2097152 ∧ xs.length = i ∧ (∀ (j : Nat) (c : Raw (dT).s) (x : Tb), rs[j]? = some c → xs[j]? = some x → (dT).r wr c.1 x) ∧ s.bind (pl ptb) = (prep ptb (n - i) r).map fun y => (xs ++ y.1, y.2) := by
            rcases hrel' with ⟨q, _⟩ | ⟨r', xs, q, q2⟩
            · cases q
            · cases q; exact ⟨xs, q2⟩
          have KG := hide (table2_any N wr b (some r) hs (Nat.le_trans HNN.out hch.size) (HT.out.cb hch))
          have hob : ∀ k, u6.ownBlock = some k → ¬ k = b := fun k hk e => by subst e; exact ho.ne b3 (by decide) hk
          have HO := hide (And.intro ho (And.intro hof hob))
          have HC := hide hch
          have HB3 := hide b3
          have HX := hide (And.intro hxl (And.intro n21 (And.intro hxs (And.intro hpp (And.intro hlt hD)))))
          simp only [Option.isNone_some] at k3
          clear hin ho hof hch hs hxl hrel' b3 hlt n21 hpp hob hxs hD
          go_wp2_with fail
          refine KG.out.mono ?_
          rintro e w4 ⟨v4, rfl, ⟨q0, q1, q2, q3, q4, q5, q6, q7, q8, rfl⟩, hc4, hs4, hR4⟩
          obtain ⟨ho, hof, hob⟩ := HO.out
          have hA := (G.refl w4).alloc (.cells #[.slice q0 q1 q2, .slice q3 q4 q5, I q6, I q7, I q8] 74)
          have ho4' := ho.chg hc4 hob
          have ho4 := ho4'.G hA
          obtain ⟨i0, hi0, hz0, hz1, hz2⟩ := info_T
          have hmx : (2097153 : Nat) ≤ maxLen := of_decide_eq_true (by kernel_rfl)
          have hxl := HX.out.1
          have n21 := HX.out.2.1
          have hlt := HX.out.2.2.2.2.1
          obtain ⟨c, hc⟩ : ∃ c : Raw (dT).s, c.1 = [.slice q0 q1 q2, .slice q3 q4 q5, I q6, I q7, I q8] := ⟨⟨[.slice q0 q1 q2, .slice q3 q4 q5, I q6, I q7, I q8], rfl, fun u hu => by simp at hu; rcases hu with rfl | rfl | rfl | rfl | rfl <;> rfl⟩, rfl⟩
          have hlit : Row (eR (dT).s).rel (w4.alloc (.cells #[.slice q0 q1 q2, .slice q3 q4 q5, I q6, I q7, I q8] 74)) (.slice (some ⟨w4.heap.size, 0, none⟩) 1 1) [c] := by
            have := Row.lit (E := eR (dT).s) w4 74 [c] 1 (by simp)
            rw [show (eR (dT).s).fl [c] = [.slice q0 q1 q2, .slice q3 q4 q5, I q6, I q7, I q8] by simp [Enc.fl, hc]] at this
            exact this
          obtain ⟨v5, w5, hr5, hs5, hch5, hob5⟩ := app_row (P := Tryz.prog) (tr := 35) (ns := [c]) i0 _ 72 Tryz.underlying35 hi0 hz0 hz1 hz2 rfl (by decide) ho4 hlit (by simp; omega) (by simp; omega)
          have hcA : Cb b w (w4.alloc (.cells #[.slice q0 q1 q2, .slice q3 q4 q5, I q6, I q7, I q8] 74)) := (HC.out.trans hc4).trans hA.chg
          have hc5 : Cb b w w5 := hcA.more hch5 (fun k hk q => absurd (hof k q) (by omega))
          have hf5 : Fresh w v5 := fun k hk => by
            rcases hob5 with q | q
            · rw [q] at hk; exact hof k hk
            · rw [q] at hk; have h1 := Option.some.inj hk; have h2 := hcA.size; omega
          have hsc5 := (hs4.G hA).own (W := w) (fun k hk => ⟨hof k hk, hob k hk⟩) HNN.out hch5
          have kx1 : Kx [62, 74] wr w4 := Kx.one hc4 HB3.out (by simp)
          have kx2 : Kx [62, 74] w4 w5 := (Kx.of_G hA).trans (Kx.own hch5 ho4 (by simp))
          have hty : ∀ t ∈ (dT).tys, t ∉ [62, 74] := by decide
          have HNX : Hid (((((some r).bind ptb).map (·.2)) = none ∧ s.bind (pl ptb) = none) ∨ (∃ (r4 : List Nat) (ys : List (Tb)), (((some r).bind ptb).map (·.2)) = some r4 ∧ n ≤ 2097152 ∧ ys.length = i + 1 ∧ (∀ (j : Nat) (c' : Raw (dT).s) (x : Tb), (rs ++ [c])[j]? = some c' → ys[j]? = some x → (dT).r w5 c'.1 x) ∧ s.bind (pl ptb) = (prep ptb (n - (i + 1)) r4).map fun y => (ys ++ y.1, y.2))) := by
            obtain ⟨hxl, n21, hxs, hpp, hlt, hD⟩ := HX.out
            have hR4 : ∀ x l', ptb r = some (x, l') → _ := hR4
            show ((((ptb r).map (·.2)) = none) ∧ _) ∨ (∃ r4 ys, (ptb r).map (·.2) = some r4 ∧ _)
            cases e : ptb r with
            | none =>
              refine .inl ⟨rfl, ?_⟩
              rw [hpp, show n - i = (n - (i + 1)) + 1 by omega]
              exact prep_stop ptb _ r xs e
            | some y =>
              obtain ⟨x, r4⟩ := y
              refine .inr ⟨r4, xs ++ [x], rfl, n21, by simp [hxs], ?_, ?_⟩
              · exact nrow_step (fun j c' x' e1 e2 => (dT).keep (kx1.trans kx2) hty (hD j c' x' e1 e2)) (by rw [hxl, hxs]) ((dT).keep kx2 hty (by rw [hc]; exact hR4 x r4 e q0 q1 q2 q3 q4 q5 q6 q7 q8 rfl))
              · rw [hpp, show n - i = (n - (i + 1)) + 1 by omega]
                exact prep_step ptb _ r r4 x xs e
          have HR5 := hide hr5
          obtain ⟨s5, hs5e⟩ : ∃ s5, s5 = ((some r).bind ptb).map (·.2) := ⟨_, rfl⟩
          rw [← hs5e] at hsc5 HNX
          have HF : Hid (∃ u, v5 = u ∧ Sw (eR (dT).s) 74 w5 u (rs ++ [c]) ∧ Fresh w u ∧ Cb b w w5 ∧ Sc N w5 b s5 ∧ (rs ++ [c]).length = i + 1 ∧ i < n) := ⟨_, rfl, hs5, hf5, hc5, hsc5, by simp; exact hxl, hlt⟩
          have HW : Hid (IntKind.u64.wrap ((i : Int) + 1) = (i : Int) + 1) := by show _ = _; rw [IntKind.wrap_u64]; omega
          clear hc4 hs4 hR4 ho hof hob hA ho4 ho4' hi0 hz0 hz1 hz2 hmx hxl n21 hlt hr5 hs5 hch5 hob5 hcA hc5 hf5 hsc5 KG HO HC HX k3 hs5e hlit kx1 kx2 hty HB3 hc
          go_wp2_with (first | (at_builtin; refine wpList_append_run rfl _ _ 35 rfl u6 (.slice (some ⟨w4.heap.size, 0, none⟩) 1 1) rfl rfl HR5.out ?_) | fail)
          try rw [HW.out]
          obtain ⟨u, rfl, r1, r2, r3, r4, r5, r6⟩ := HF.out
          refine ⟨⟨i + 1, s5, rs ++ [c], rfl, r6, r1, r2, r3, r4, r5, HNX.out⟩, ?_⟩
          simp only [RowKit.intOf]; omega
      · have i2 : ¬ (i : Int) < (n : Int) := by omega
        have ei : i = n := by omega
        obtain ⟨oa, oc, hov⟩ := ho.form
        have HF : Hid (GetF N (pl ptb) (fun v => ∃ a n c, v = .slice a n c) (fun u v l => NRow dT 74 u v l) b w s (.returned u6) wr) := by
          refine ⟨_, rfl, ⟨_, _, _, hov⟩, hch, ?_⟩
          rcases hrel' with ⟨q, q2⟩ | ⟨r, xs, q, q2, q3, q4, q5⟩
          · subst q; rw [q2]; exact ⟨hs, fun x l' e => by cases e⟩
          · subst q
            rw [ei, Nat.sub_self, prep] at q5
            have q5 : s.bind (pl ptb) = some (xs, r) := by rw [q5]; simp
            rw [q5]
            exact ⟨hs, fun x l' e => by cases e; exact ⟨rs, ho, by omega, q4⟩⟩
        clear hin ho hof hch hs hxl hrel' b3 hlt ei hov
        go_wp2_with fail
        go_ret
        exact HF.out
  · have d1 : decide ((l1.length : Int) < (n : Int)) = false := decide_eq_false i1
    have d2 : decide (l1.length < n) = false := decide_eq_false (by omega)
    go_wp2_with fail
    go_loopw [21, 6] (fun iv ov wr => ∃ (i : Nat) (s' : Option (List Nat)) (rs : List (Raw (dT).s)), iv = .int .u64 i ∧ i ≤ n ∧ Sw (eR (dT).s) 74 wr ov rs ∧ Fresh w ov ∧ Cb b w wr ∧ Sc N wr b s' ∧ rs.length = i ∧ ((s' = none ∧ s.bind (pl ptb) = none) ∨ (∃ (r : List Nat) (xs : List (Tb)), s' = some r ∧ n ≤ 2097152 ∧ xs.length = i ∧ (∀ (j : Nat) (c : Raw (dT).s) (x : Tb), rs[j]? = some c → xs[j]? = some x → (dT).r wr c.1 x) ∧ s.bind (pl ptb) = (prep ptb (n - i) r).map fun y => (xs ++ y.1, y.2)))) (fun iv _ _ => n - (RowKit.intOf iv).toNat)
    case atStart =>
      obtain ⟨hs2, hc2, hrel2⟩ := HS.out
      refine ⟨0, s2, [], rfl, Nat.zero_le _, Sw.nil _ _ _, Fresh.nil _, hc2, hs2, rfl, ?_⟩
      rcases hrel2 with q | ⟨r, q1, q2, q3⟩
      · exact .inl q
      · exact .inr ⟨r, [], q1, q2, rfl, fun j c x e => by simp at e, by rw [q3]; simp⟩
    case round =>
      obtain ⟨i, s', rs, rfl, hin, ho, hof, hch, hs, hxl, hrel'⟩ := hrel
      clear HS k1 f1 u1 i1 d1 d2
      obtain ⟨p3, n3, c3, b3⟩ := hs.bad
      have k3 := b3.cell
      by_cases hlt : i < n
      · have i2 : (i : Int) < (n : Int) := by omega
        cases s' with
        | none =>
          have hno : s.bind (pl ptb) = none := by
            rcases hrel' with ⟨_, q⟩ | ⟨r, xs, q, _⟩
            · exact q
            · cases q
          have HF : Hid (GetF N (pl ptb) (fun v => ∃ a n c, v = .slice a n c) (fun u v l => NRow dT 74 u v l) b w s (.returned (.slice none 0 0)) wr) := ⟨_, rfl, ⟨_, _, _, rfl⟩, hch, by rw [hno]; exact hs, fun x l' e => by rw [hno] at e; cases e⟩
          simp only [Option.isNone_none] at k3
          clear hin ho hof hch hs hxl hrel' b3 hlt hno
          go_wp2_with fail
          go_ret
          exact HF.out
        | some r =>
          obtain ⟨xs, n21, hxs, hD, hpp⟩ : ∃ xs : List (Tb), n ≤ 2097152 ∧ xs.length = i ∧ (∀ (j : Nat) (c : Raw (dT).s) (x : Tb), rs[j]? = some c → xs[j]? = some x → (dT).r wr c.1 x) ∧ s.bind (pl ptb) = (prep ptb (n - i) r).map fun y => (xs ++ y.1, y.2) := by
            rcases hrel' with ⟨q, _⟩ | ⟨r', xs, q, q2⟩
            · cases q
            · cases q; exact ⟨xs, q2⟩
          have KG := hide (table2_any N wr b (some r) hs (Nat.le_trans HNN.out hch.size) (HT.out.cb hch))
          have hob : ∀ k, u6.ownBlock = some k → ¬ k = b := fun k hk e => by subst e; exact ho.ne b3 (by decide) hk
          have HO := hide (And.intro ho (And.intro hof hob))
          have HC := hide hch
          have HB3 := hide b3
          have HX := hide (And.intro hxl (And.intro n21 (And.intro hxs (And.intro hpp (And.intro hlt hD)))))
          simp only [Option.isNone_some] at k3
          clear hin ho hof hch hs hxl hrel' b3 hlt n21 hpp hob hxs hD
          go_wp2_with fail
          refine KG.out.mono ?_
          rintro e w4 ⟨v4, rfl, ⟨q0, q1, q2, q3, q4, q5, q6, q7, q8, rfl⟩, hc4, hs4, hR4⟩
          obtain ⟨ho, hof, hob⟩ := HO.out
          have hA := (G.refl w4).alloc (.cells #[.slice q0 q1 q2, .slice q3 q4 q5, I q6, I q7, I q8] 74)
          have ho4' := ho.chg hc4 hob
          have ho4 := ho4'.G hA
          obtain ⟨i0, hi0, hz0, hz1, hz2⟩ := info_T
          have hmx : (2097153 : Nat) ≤ maxLen := of_decide_eq_true (by kernel_rfl)
          have hxl := HX.out.1
          have n21 := HX.out.2.1
          have hlt := HX.out.2.2.2.2.1
          obtain ⟨c, hc⟩ : ∃ c : Raw (dT).s, c.1 = [.slice q0 q1 q2, .slice q3 q4 q5, I q6, I q7, I q8] := ⟨⟨[.slice q0 q1 q2, .slice q3 q4 q5, I q6, I q7, I q8], rfl, fun u hu => by simp at hu; rcases hu with rfl | rfl | rfl | rfl | rfl <;> rfl⟩, rfl⟩
          have hlit : Row (eR (dT).s).rel (w4.alloc (.cells #[.slice q0 q1 q2, .slice q3 q4 q5, I q6, I q7, I q8] 74)) (.slice (some ⟨w4.heap.size, 0, none⟩) 1 1) [c] := by
            have := Row.lit (E := eR (dT).s) w4 74 [c] 1 (by simp)
            rw [show (eR (dT).s).fl [c] = [.slice q0 q1 q2, .slice q3 q4 q5, I q6, I q7, I q8] by simp [Enc.fl, hc]] at this
            exact this
          obtain ⟨v5, w5, hr5, hs5, hch5, hob5⟩ := app_row (P := Tryz.prog) (tr := 35) (ns := [c]) i0 _ 72 Tryz.underlying35 hi0 hz0 hz1 hz2 rfl (by decide) ho4 hlit (by simp; omega) (by simp; omega)
          have hcA : Cb b w (w4.alloc (.cells #[.slice q0 q1 q2, .slice q3 q4 q5, I q6, I q7, I q8] 74)) := (HC.out.trans hc4).trans hA.chg
          have hc5 : Cb b w w5 := hcA.more hch5 (fun k hk q => absurd (hof k q) (by omega))
          have hf5 : Fresh w v5 := fun k hk => by
            rcases hob5 with q | q
            · rw [q] at hk; exact hof k hk
            · rw [q] at hk; have h1 := Option.some.inj hk; have h2 := hcA.size; omega
          have hsc5 := (hs4.G hA).own (W := w) (fun k hk => ⟨hof k hk, hob k hk⟩) HNN.out hch5
          have kx1 : Kx [62, 74] wr w4 := Kx.one hc4 HB3.out (by simp)
          have kx2 : Kx [62, 74] w4 w5 := (Kx.of_G hA).trans (Kx.own hch5 ho4 (by simp))
          have hty : ∀ t ∈ (dT).tys, t ∉ [62, 74] := by decide
          have HNX : Hid (((((some r).bind ptb).map (·.2)) = none ∧ s.bind (pl ptb) = none) ∨ (∃ (r4 : List Nat) (ys : List (Tb)), (((some r).bind ptb).map (·.2)) = some r4 ∧ n ≤ 2097152 ∧ ys.length = i + 1 ∧ (∀ (j : Nat) (c' : Raw (dT).s) (x : Tb), (rs ++ [c])[j]? = some c' → ys[j]? = some x → (dT).r w5 c'.1 x) ∧ s.bind (pl ptb) = (prep ptb (n - (i + 1)) r4).map fun y => (ys ++ y.1, y.2))) := by
            obtain ⟨hxl, n21, hxs, hpp, hlt, hD⟩ := HX.out
            have hR4 : ∀ x l', ptb r = some (x, l') → _ := hR4
            show ((((ptb r).map (·.2)) = none) ∧ _) ∨ (∃ r4 ys, (ptb r).map (·.2) = some r4 ∧ _)
            cases e : ptb r with
            | none =>
              refine .inl ⟨rfl, ?_⟩
              rw [hpp, show n - i = (n - (i + 1)) + 1 by omega]
              exact prep_stop ptb _ r xs e
            | some y =>
              obtain ⟨x, r4⟩ := y
              refine .inr ⟨r4, xs ++ [x], rfl, n21, by simp [hxs], ?_, ?_⟩
              · exact nrow_step (fun j c' x' e1 e2 => (dT).keep (kx1.trans kx2) hty (hD j c' x' e1 e2)) (by rw [hxl, hxs]) ((dT).keep kx2 hty (by rw [hc]; exact hR4 x r4 e q0 q1 q2 q3 q4 q5 q6 q7 q8 rfl))
              · rw [hpp, show n - i = (n - (i + 1)) + 1 by omega]
                exact prep_step ptb _ r r4 x xs e
          have HR5 := hide hr5
          obtain ⟨s5, hs5e⟩ : ∃ s5, s5 = ((some r).bind ptb).map (·.2) := ⟨_, rfl⟩
          rw [← hs5e] at hsc5 HNX
          have HF : Hid (∃ u, v5 = u ∧ Sw (eR (dT).s) 74 w5 u (rs ++ [c]) ∧ Fresh w u ∧ Cb b w w5 ∧ Sc N w5 b s5 ∧ (rs ++ [c]).length = i + 1 ∧ i < n) := ⟨_, rfl, hs5, hf5, hc5, hsc5, by simp; exact hxl, hlt⟩
          have HW : Hid (IntKind.u64.wrap ((i : Int) + 1) = (i : Int) + 1) := by show _ = _; rw [IntKind.wrap_u64]; omega
          clear hc4 hs4 hR4 ho hof hob hA ho4 ho4' hi0 hz0 hz1 hz2 hmx hxl n21 hlt hr5 hs5 hch5 hob5 hcA hc5 hf5 hsc5 KG HO HC HX k3 hs5e hlit kx1 kx2 hty HB3 hc
          go_wp2_with (first | (at_builtin; refine wpList_append_run rfl _ _ 35 rfl u6 (.slice (some ⟨w4.heap.size, 0, none⟩) 1 1) rfl rfl HR5.out ?_) | fail)
          try rw [HW.out]
          obtain ⟨u, rfl, r1, r2, r3, r4, r5, r6⟩ := HF.out
          refine ⟨⟨i + 1, s5, rs ++ [c], rfl, r6, r1, r2, r3, r4, r5, HNX.out⟩, ?_⟩
          simp only [RowKit.intOf]; omega
      · have i2 : ¬ (i : Int) < (n : Int) := by omega
        have ei : i = n := by omega
        obtain ⟨oa, oc, hov⟩ := ho.form
        have HF : Hid (GetF N (pl ptb) (fun v => ∃ a n c, v = .slice a n c) (fun u v l => NRow dT 74 u v l) b w s (.returned u6) wr) := by
          refine ⟨_, rfl, ⟨_, _, _, hov⟩, hch, ?_⟩
          rcases hrel' with ⟨q, q2⟩ | ⟨r, xs, q, q2, q3, q4, q5⟩
          · subst q; rw [q2]; exact ⟨hs, fun x l' e => by cases e⟩
          · subst q
            rw [ei, Nat.sub_self, prep] at q5
            have q5 : s.bind (pl ptb) = some (xs, r) := by rw [q5]; simp
            rw [q5]
            exact ⟨hs, fun x l' e => by cases e; exact ⟨rs, ho, by omega, q4⟩⟩
        clear hin ho hof hch hs hxl hrel' b3 hlt ei hov
        go_wp2_with fail
        go_ret
        exact HF.out
end Go.Proofs.YtcdjjmjhdoanlaaGreatDoor
