/- Wire: the document's lists of numbers, read. -/
import Derived.Test.YtcdjjmjhdoanlaaDoorW32
namespace Go.Proofs.YtcdjjmjhdoanlaaDoor
open Go.RowKit

set_option maxRecDepth 100000 in
set_option maxHeartbeats 1000000 in
theorem nums3_any (N : Nat) (w : World) (b : Nat) (s : Option (List Nat)) (h : Rc N w b s) (hN : N ≤ w.heap.size) :
    Calls Tryd.prog 14 #[ptr b] w (RetP N (pl pz) (fun w_ v l => Sw eI 2 w_ v l ∧ Fresh w v ∧ ∀ x ∈ l, R64 x) (fun _ v => ∃ a n c, v = .slice a n c) b w s) := by
  have KC := hide (list3_any N w b s h)
  have HNN := hide hN
  clear h hN
  go_enter Tryd.func14, Tryd.ntmps14
  go_wp2_with fail
  refine KC.out.mono ?_
  rintro e w1 ⟨v1, rfl, hc1, hcase⟩
  obtain ⟨n, s1, rfl, hs1, hrel1⟩ : ∃ (n : Nat) (s1 : Option (List Nat)), v1 = I n ∧ Rc N w1 b s1 ∧ ((s1 = none ∧ s.bind (pl pz) = none) ∨ (∃ r, s1 = some r ∧ n ≤ 2097152 ∧ s.bind (pl pz) = prep pz n r)) := by
    rcases hcase with ⟨n, l', hp, hs1, rfl⟩ | ⟨hp, hs1, rfl⟩
    · refine ⟨n, some l', rfl, hs1, .inr ⟨l', rfl, ?_, by rw [pl_pn, hp]; rfl⟩⟩
      have h1 := rc_len hs1
      cases s with
      | none => cases hp
      | some l => have := pn_le hp; omega
    · exact ⟨0, none, rfl, hs1, .inl ⟨rfl, by rw [pl_pn, hp]; rfl⟩⟩
  have HS := hide (And.intro hs1 (And.intro hc1 hrel1))
  clear hs1 hc1 hrel1 hcase KC
  go_wp2_with fail
  go_loopw [3, 5] (fun ov iv wr => ∃ (i : Nat) (s' : Option (List Nat)) (xs : List Int), iv = I i ∧ i ≤ n ∧ Sw eI 2 wr ov xs ∧ Fresh w ov ∧ Cb b w wr ∧ Rc N wr b s' ∧ xs.length = i ∧ ((s' = none ∧ s.bind (pl pz) = none) ∨ (∃ r, s' = some r ∧ n ≤ 2097152 ∧ (∀ x ∈ xs, R64 x) ∧ s.bind (pl pz) = (prep pz (n - i) r).map fun y => (xs ++ y.1, y.2)))) (fun _ iv _ => n - (RowKit.intOf iv).toNat)
  case atStart =>
    obtain ⟨hs2, hc2, hrel2⟩ := HS.out
    refine ⟨0, s1, [], rfl, Nat.zero_le _, Sw.nil _ _ _, Fresh.nil _, hc2, hs2, rfl, ?_⟩
    rcases hrel2 with q | ⟨r, q1, q2, q3⟩
    · exact .inl q
    · exact .inr ⟨r, q1, q2, fun x hx => by simp at hx, by rw [q3]; simp⟩
  case round =>
    obtain ⟨i, s', xs, rfl, hin, ho, hof, hch, hs, hxl, hrel'⟩ := hrel
    clear HS
    obtain ⟨p3, n3, c3, b3⟩ := hs.bad
    have k3 := b3.cell
    obtain ⟨oa, oc, hov⟩ := ho.form
    have HFIN : Hid (s' = none ∨ i = n → RetP N (pl pz) (fun w_ v l => Sw eI 2 w_ v l ∧ Fresh w v ∧ ∀ x ∈ l, R64 x) (fun _ v => ∃ a n c, v = .slice a n c) b w s (.returned u3) wr) := fun hq => by
      refine ⟨_, rfl, hch, ?_⟩
      rcases hrel' with ⟨q, q2⟩ | ⟨r, q, q2, q3, q4⟩
      · subst q; exact .inr ⟨q2, hs, _, _, _, hov⟩
      · subst q
        rcases hq with q | ei
        · cases q
        · rw [ei, Nat.sub_self, prep] at q4
          exact .inl ⟨xs, r, by rw [q4]; simp, hs, ho, hof, q3⟩
    by_cases hlt : i < n
    · have i2 : (i : Int) < (n : Int) := by omega
      cases s' with
      | none =>
        have HF := hide (HFIN.out (.inl rfl))
        simp only [Option.isNone_none] at k3
        clear hin ho hof hch hs hxl hrel' b3 hlt hov HFIN
        go_wp2_with fail
        go_ret
        exact HF.out
      | some r =>
        obtain ⟨n21, hQ, hpp⟩ : n ≤ 2097152 ∧ (∀ x ∈ xs, R64 x) ∧ s.bind (pl pz) = (prep pz (n - i) r).map fun y => (xs ++ y.1, y.2) := by
          rcases hrel' with ⟨q, _⟩ | ⟨r', q, q2⟩
          · cases q
          · cases q; exact q2
        have KG := hide (signed3_any N wr b (some r) hs)
        have hob : ∀ k, u3.ownBlock = some k → ¬ k = b := fun k hk e => by subst e; exact ho.ne b3 (by decide) hk
        have HO := hide (And.intro ho (And.intro hof hob))
        have HC := hide hch
        have HX := hide (And.intro hxl (And.intro n21 (And.intro hQ (And.intro hpp hlt))))
        simp only [Option.isNone_some] at k3
        clear hin ho hof hch hs hxl hrel' b3 hlt n21 hQ hpp hob hov HFIN
        go_wp2_with fail
        refine KG.out.mono ?_
        rintro e w4 ⟨v4, rfl, hc4, hcase4⟩
        obtain ⟨x, s4, rfl, hs4, hnext⟩ : ∃ (x : Int) (s4 : Option (List Nat)), v4 = I x ∧ Rc N w4 b s4 ∧ ((s4 = none ∧ s.bind (pl pz) = none) ∨ (∃ r4, s4 = some r4 ∧ n ≤ 2097152 ∧ (∀ y ∈ xs ++ [x], R64 y) ∧ s.bind (pl pz) = (prep pz (n - (i + 1)) r4).map fun y => ((xs ++ [x]) ++ y.1, y.2))) := by
          obtain ⟨hxl, n21, hQ, hpp, hlt⟩ := HX.out
          rcases hcase4 with ⟨x, r4, hp4, hs4, rfl, hq⟩ | ⟨hp4, hs4, x, rfl⟩
          · refine ⟨x, some r4, rfl, hs4, .inr ⟨r4, rfl, n21, fun y hy => ?_, ?_⟩⟩
            · rcases List.mem_append.1 hy with q | q
              · exact hQ y q
              · simp at q; subst q; exact hq
            · rw [hpp, show n - i = (n - (i + 1)) + 1 by omega]
              exact prep_step pz _ r r4 x xs hp4
          · refine ⟨x, none, rfl, hs4, .inl ⟨rfl, ?_⟩⟩
            rw [hpp, show n - i = (n - (i + 1)) + 1 by omega]
            exact prep_stop pz _ r xs hp4
        obtain ⟨ho, hof, hob⟩ := HO.out
        have hA := (G.refl w4).alloc (.cells #[I x] 2)
        have ho4 := (ho.chg hc4 hob).G hA
        obtain ⟨i0, hi0, hz0, hz1, hz2⟩ := info_i64
        have hmx : (2097153 : Nat) ≤ maxLen := of_decide_eq_true (by kernel_rfl)
        have hxl := HX.out.1
        have n21 := HX.out.2.1
        have hlt := HX.out.2.2.2.2
        obtain ⟨v5, w5, hr5, hs5, hch5, hob5⟩ := app_row (P := Tryd.prog) (tr := 27) (ns := [x]) i0 _ 8 Tryd.underlying27 hi0 hz0 hz1 hz2 rfl (by decide) ho4 (Row.lit (E := eI) w4 2 [x] 1 (by simp)) (by simp; omega) (by simp; omega)
        have hcA : Cb b w (w4.alloc (.cells #[I x] 2)) := (HC.out.trans hc4).trans hA.chg
        have hc5 : Cb b w w5 := hcA.more hch5 (fun k hk q => absurd (hof k q) (by omega))
        have hf5 : Fresh w v5 := fun k hk => by
          rcases hob5 with q | q
          · rw [q] at hk; exact hof k hk
          · rw [q] at hk; have h1 := Option.some.inj hk; have h2 := hcA.size; omega
        have hsc5 : Rc N w5 b s4 := (hs4.G hA).own (W := w) (fun k hk => ⟨hof k hk, hob k hk⟩) HNN.out hch5
        have HR5 := hide hr5
        have HF : Hid (∃ u, v5 = u ∧ Sw eI 2 w5 u (xs ++ [x]) ∧ Fresh w u ∧ Cb b w w5 ∧ Rc N w5 b s4 ∧ (xs ++ [x]).length = i + 1 ∧ i < n) := ⟨_, rfl, hs5, hf5, hc5, hsc5, by simp; exact hxl, hlt⟩
        have HNX := hide hnext
        have HW : Hid (wrap64 ((i : Int) + 1) = ((i + 1 : Nat) : Int)) := by show _ = _; unfold wrap64; omega
        clear hc4 hcase4 hs4 hnext ho hof hob hA ho4 hi0 hz0 hz1 hz2 hmx hxl n21 hlt hr5 hs5 hch5 hob5 hcA hc5 hf5 hsc5 KG HO HC HX k3
        go_wp2_with (first | (at_builtin; refine wpList_append_run rfl _ _ 27 rfl u3 (.slice (some ⟨w4.heap.size, 0, none⟩) 1 1) rfl rfl HR5.out ?_) | fail)
        try rw [HW.out]
        obtain ⟨u, rfl, r1, r2, r3, r4, r5, r6⟩ := HF.out
        refine ⟨⟨i + 1, s4, xs ++ [x], rfl, r6, r1, r2, r3, r4, r5, HNX.out⟩, ?_⟩
        simp only [RowKit.intOf]; omega
    · have i2 : ¬ (i : Int) < (n : Int) := by omega
      have HF := hide (HFIN.out (.inr (by omega)))
      clear hin ho hof hch hs hxl hrel' b3 hlt hov HFIN
      go_wp2_with fail
      go_ret
      exact HF.out
end Go.Proofs.YtcdjjmjhdoanlaaDoor
