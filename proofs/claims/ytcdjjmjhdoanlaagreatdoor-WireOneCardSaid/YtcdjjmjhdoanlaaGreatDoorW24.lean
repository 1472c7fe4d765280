/- Wire: lists, read. -/
import Derived.Test.YtcdjjmjhdoanlaaGreatDoorW23
import Derived.Test.YtcdjjmjhdoanlaaGreatDoorW9
namespace Go.Proofs.YtcdjjmjhdoanlaaGreatDoor
open Go.RowKit

/-- So many elements, read. -/
def prep {α : Type} (p : List Nat → Option (α × List Nat)) : Nat → List Nat → Option (List α × List Nat)
  | 0, r => some ([], r)
  | n + 1, r => (p r).bind fun x => (prep p n x.2).map fun y => (x.1 :: y.1, y.2)
/-- A list, read. -/
def pl {α : Type} (p : List Nat → Option (α × List Nat)) (l : List Nat) : Option (List α × List Nat) := (pc l).bind fun x => if x.2.length < x.1 then none else prep p x.1 x.2
theorem prep_step {α : Type} (p : List Nat → Option (α × List Nat)) (n : Nat) (r r4 : List Nat) (x : α) (xs : List α) (h : (some r).bind p = some (x, r4)) : (prep p (n + 1) r).map (fun y => (xs ++ y.1, y.2)) = (prep p n r4).map fun y => ((xs ++ [x]) ++ y.1, y.2) := by
  have h : p r = some (x, r4) := h
  rw [prep, h]
  show ((prep p n r4).map _).map _ = _
  cases prep p n r4 with
  | none => rfl
  | some y => simp
theorem prep_stop {α : Type} (p : List Nat → Option (α × List Nat)) (n : Nat) (r : List Nat) (xs : List α) (h : (some r).bind p = none) : (prep p (n + 1) r).map (fun y => (xs ++ y.1, y.2)) = none := by
  have h : p r = none := h
  rw [prep, h]; rfl
theorem info_i64 : ∃ i, Tryz.prog.info? 2 = some i ∧ i.zero = some (I 0) ∧ i.size = 1 ∧ i.bytes = 8 := info_parts (by kernel_rfl)
theorem numberJ_any (N : Nat) (w : World) (b : Nat) (s : Option (List Nat)) (h : Sc N w b s) : Calls Tryz.prog 45 #[ptr b] w (GetP N pz (fun _ v n => v = I n ∧ R64 n) (fun _ v => ∃ n, v = I n) b w s) :=
  (number2_any N w b s h).mono fun _ _ ⟨v, h1, h2, h3⟩ => ⟨v, h1, h2, h3.imp id (fun ⟨a, c, d⟩ => ⟨a, c, 0, d⟩)⟩
set_option maxRecDepth 100000 in
set_option maxHeartbeats 1000000 in
theorem getI_any (N : Nat) (w : World) (b : Nat) (s : Option (List Nat)) (h : Sc N w b s) (hN : N ≤ w.heap.size) :
    Calls Tryz.prog 44 #[ptr b, .func (.func 45) #[] #[]] w (GetP N (pl pz) (fun w_ v l => Sw eI 2 w_ v l ∧ Fresh w v ∧ ∀ x ∈ l, R64 x) (fun _ v => ∃ a n c, v = .slice a n c) b w s) := by
  have KC := hide (count2_any N w b s h)
  clear h
  go_enter Tryz.func44, Tryz.ntmps44
  go_wp2_with fail
  refine KC.out.mono ?_
  rintro e w1 ⟨v1, rfl, hc1, hcase⟩
  have hst : ∃ (n : Nat) (s1 : Option (List Nat)), v1 = .int .u64 n ∧ n < 18446744073709551616 ∧ Sc N w1 b s1 ∧ s.bind (pl pz) = s1.bind (fun r => if r.length < n then none else prep pz n r) ∧ (s1 = none → n = 0) := by
    rcases hcase with ⟨n, l', hp, hs1, rfl⟩ | ⟨hp, hs1, rfl⟩
    · refine ⟨n, some l', rfl, by cases s with | none => cases hp | some l => exact pc_lt hp, hs1, ?_, fun q => by cases q⟩
      cases s with
      | none => cases hp
      | some l => show ((pc l).bind _) = _; rw [show pc l = some (n, l') from hp]; rfl
    · refine ⟨0, none, rfl, by decide, hs1, ?_, fun _ => rfl⟩
      cases s with
      | none => rfl
      | some l => show ((pc l).bind _) = _; rw [show pc l = none from hp]; rfl
  obtain ⟨n, s1, rfl, hn, hs1, hpl, h0⟩ := hst
  obtain ⟨p1, c1, bad1, l1, b1, hr1, _, hl1, h51, _⟩ := hs1.form
  have k1 := b1.cell
  have f1 := b1.frozen
  have u1 : IntKind.u64.wrap (l1.length : Int) = (l1.length : Int) := by rw [IntKind.wrap_u64]; omega
  have hstart : ∃ (w2 : World) (s2 : Option (List Nat)), (((l1.length : Int) < (n : Int) ∧ w2 = w1.setCell ⟨b, 1, none⟩ (.bool true)) ∨ (¬ (l1.length : Int) < (n : Int) ∧ w2 = w1)) ∧ Sc N w2 b s2 ∧ Cb b w1 w2 ∧ ((s2 = none ∧ s.bind (pl pz) = none) ∨ (∃ r, s2 = some r ∧ n ≤ 2097152 ∧ s.bind (pl pz) = prep pz n r)) := by
    by_cases c : l1.length < n
    · have hsp := hs1.spoil
      refine ⟨_, none, .inl ⟨by omega, rfl⟩, hsp.1, hsp.2, .inl ⟨rfl, ?_⟩⟩
      rcases h51 with ⟨_, q⟩ | ⟨_, q⟩
      · rw [hpl, q]; rfl
      · rw [hpl, q]; show (if l1.length < n then none else _) = _; rw [if_pos c]
    · refine ⟨w1, s1, .inr ⟨by omega, rfl⟩, hs1, Chg.refl _ _, ?_⟩
      rcases h51 with ⟨_, q⟩ | ⟨_, q⟩
      · exact .inl ⟨q, by rw [hpl, q]; rfl⟩
      · exact .inr ⟨l1, q, by omega, by rw [hpl, q]; show (if l1.length < n then none else _) = _; rw [if_neg c]⟩
  obtain ⟨w2, s2, hw2, hs2, hc2, hrel2⟩ := hstart
  have HS := hide (And.intro hs2 (And.intro (hc1.trans hc2) hrel2))
  have HN := hide hn
  have HNN := hide hN
  clear hN hc1 hs1 hpl h0 b1 hr1 hl1 h51 hs2 hc2 hrel2 KC hcase hn
  have main : ∀ (T : Array Value), Hid True := fun _ => trivial
  clear main
  rcases hw2 with ⟨i1, rfl⟩ | ⟨i1, rfl⟩
  · skip
    go_wp2_with fail
    go_loopw [21, 6] (fun iv ov wr => ∃ (i : Nat) (s' : Option (List Nat)) (xs : List (Int)), iv = .int .u64 i ∧ i ≤ n ∧ Sw eI 2 wr ov xs ∧ Fresh w ov ∧ Cb b w wr ∧ Sc N wr b s' ∧ xs.length = i ∧ ((s' = none ∧ s.bind (pl pz) = none) ∨ (∃ r, s' = some r ∧ n ≤ 2097152 ∧ (∀ x ∈ xs, R64 x) ∧ s.bind (pl pz) = (prep pz (n - i) r).map fun y => (xs ++ y.1, y.2)))) (fun iv _ _ => n - (RowKit.intOf iv).toNat)
    case atStart =>
      obtain ⟨hs2, hc2, hrel2⟩ := HS.out
      refine ⟨0, s2, [], rfl, Nat.zero_le _, Sw.nil _ _ _, Fresh.nil _, hc2, hs2, rfl, ?_⟩
      rcases hrel2 with q | ⟨r, q1, q2, q3⟩
      · exact .inl q
      · exact .inr ⟨r, q1, q2, fun x hx => by simp at hx, by rw [q3]; simp⟩
    case round =>
      obtain ⟨i, s', xs, rfl, hin, ho, hof, hch, hs, hxl, hrel'⟩ := hrel
      clear HS k1 f1 u1 i1 
      obtain ⟨p3, n3, c3, b3⟩ := hs.bad
      have k3 := b3.cell
      by_cases hlt : i < n
      · have i2 : (i : Int) < (n : Int) := by omega
        cases s' with
        | none =>
          have hno : s.bind (pl pz) = none := by
            rcases hrel' with ⟨_, q⟩ | ⟨r, q, _⟩
            · exact q
            · cases q
          have HF : Hid (GetP N (pl pz) (fun w' v l => Sw eI 2 w' v l ∧ Fresh w v ∧ ∀ x ∈ l, R64 x) (fun _ v => ∃ a n c, v = .slice a n c) b w s (.returned (.slice none 0 0)) wr) := ⟨_, rfl, hch, .inr ⟨hno, hs, _, _, _, rfl⟩⟩
          simp only [Option.isNone_none] at k3
          clear hin ho hof hch hs hxl hrel' b3 hlt hno
          go_wp2_with fail
          go_ret
          exact HF.out
        | some r =>
          obtain ⟨n21, hQ, hpp⟩ : n ≤ 2097152 ∧ (∀ x ∈ xs, R64 x) ∧ s.bind (pl pz) = (prep pz (n - i) r).map fun y => (xs ++ y.1, y.2) := by
            rcases hrel' with ⟨q, _⟩ | ⟨r', q, q2⟩
            · cases q
            · cases q; exact q2
          have KG := hide (numberJ_any N wr b (some r) hs)
          have hob : ∀ k, u6.ownBlock = some k → ¬ k = b := fun k hk e => by subst e; exact ho.ne b3 (by decide) hk
          have HO := hide (And.intro ho (And.intro hof hob))
          have HC := hide hch
          have HX := hide (And.intro hxl (And.intro n21 (And.intro hQ (And.intro hpp hlt))))
          simp only [Option.isNone_some] at k3
          clear hin ho hof hch hs hxl hrel' b3 hlt n21 hQ hpp hob
          go_wp2_with fail
          refine KG.out.mono ?_
          rintro e w4 ⟨v4, rfl, hc4, hcase4⟩
          obtain ⟨x, s4, rfl, hs4, hnext⟩ : ∃ (x : Int) (s4 : Option (List Nat)), v4 = I x ∧ Sc N w4 b s4 ∧ ((s4 = none ∧ s.bind (pl pz) = none) ∨ (∃ r4, s4 = some r4 ∧ n ≤ 2097152 ∧ (∀ y ∈ xs ++ [x], R64 y) ∧ s.bind (pl pz) = (prep pz (n - (i + 1)) r4).map fun y => ((xs ++ [x]) ++ y.1, y.2))) := by
            obtain ⟨hxl, n21, hQ, hpp, hlt⟩ := HX.out
            rcases hcase4 with ⟨x, r4, hp4, hs4, rfl, hq⟩ | ⟨hp4, hs4, x, rfl⟩
            · refine ⟨x, some r4, rfl, hs4, .inr ⟨r4, rfl, n21, fun y hy => ?_, ?_⟩⟩
              · rcases List.mem_append.1 hy with q | q
                · exact hQ y q
                · simp at q; subst q; exact hq
              · rw [hpp, show n - i = (n - (i + 1)) + 1 by omega]
                exact prep_step pz _ r r4 x xs hp4
            · refine ⟨x, none, rfl, hs4, .inl ⟨rfl, ?_⟩⟩
              rw [hpp, show n - i = (n - (i + 1)) + 1 by omega]
              exact prep_stop pz _ r xs hp4
          obtain ⟨ho, hof, hob⟩ := HO.out
          have hA := (G.refl w4).alloc (.cells #[I x] 2)
          have ho4 := (ho.chg hc4 hob).G hA
          obtain ⟨i0, hi0, hz0, hz1, hz2⟩ := info_i64
          have hmx : (2097153 : Nat) ≤ maxLen := of_decide_eq_true (by kernel_rfl)
          have hxl := HX.out.1
          have n21 := HX.out.2.1
          have hlt := HX.out.2.2.2.2
          obtain ⟨v5, w5, hr5, hs5, hch5, hob5⟩ := app_row (P := Tryz.prog) (tr := 30) (ns := [x]) i0 _ 8 Tryz.underlying30 hi0 hz0 hz1 hz2 rfl (by decide) ho4 (Row.lit (E := eI) w4 2 [x] 1 (by simp)) (by simp; omega) (by simp; omega)
          have hcA : Cb b w (w4.alloc (.cells #[I x] 2)) := (HC.out.trans hc4).trans hA.chg
          have hc5 : Cb b w w5 := hcA.more hch5 (fun k hk q => absurd (hof k q) (by omega))
          have hf5 : Fresh w v5 := fun k hk => by
            rcases hob5 with q | q
            · rw [q] at hk; exact hof k hk
            · rw [q] at hk; have h1 := Option.some.inj hk; have h2 := hcA.size; omega
          have hsc5 : Sc N w5 b s4 := (hs4.G hA).own (W := w) (fun k hk => ⟨hof k hk, hob k hk⟩) HNN.out hch5
          have HR5 := hide hr5
          have HF : Hid (∃ u, v5 = u ∧ Sw eI 2 w5 u (xs ++ [x]) ∧ Fresh w u ∧ Cb b w w5 ∧ Sc N w5 b s4 ∧ (xs ++ [x]).length = i + 1 ∧ i < n) := ⟨_, rfl, hs5, hf5, hc5, hsc5, by simp; exact hxl, hlt⟩
          have HNX := hide hnext
          have HW : Hid (IntKind.u64.wrap ((i : Int) + 1) = (i : Int) + 1) := by show _ = _; rw [IntKind.wrap_u64]; omega
          clear hc4 hcase4 hs4 hnext ho hof hob hA ho4 hi0 hz0 hz1 hz2 hmx hxl n21 hlt hr5 hs5 hch5 hob5 hcA hc5 hf5 hsc5 KG HO HC HX k3
          go_wp2_with (first | (at_builtin; refine wpList_append_run rfl _ _ 30 rfl u6 (.slice (some ⟨w4.heap.size, 0, none⟩) 1 1) rfl rfl HR5.out ?_) | fail)
          try rw [HW.out]
          obtain ⟨u, rfl, r1, r2, r3, r4, r5, r6⟩ := HF.out
          refine ⟨⟨i + 1, s4, xs ++ [x], rfl, r6, r1, r2, r3, r4, r5, HNX.out⟩, ?_⟩
          simp only [RowKit.intOf]; omega
      · have i2 : ¬ (i : Int) < (n : Int) := by omega
        have ei : i = n := by omega
        obtain ⟨oa, oc, hov⟩ := ho.form
        have HF : Hid (GetP N (pl pz) (fun w' v l => Sw eI 2 w' v l ∧ Fresh w v ∧ ∀ x ∈ l, R64 x) (fun _ v => ∃ a n c, v = .slice a n c) b w s (.returned u6) wr) := by
          refine ⟨_, rfl, hch, ?_⟩
          rcases hrel' with ⟨q, q2⟩ | ⟨r, q, q2, q3, q4⟩
          · subst q; exact .inr ⟨q2, hs, _, _, _, hov⟩
          · subst q
            rw [ei, Nat.sub_self, prep] at q4
            exact .inl ⟨xs, r, by rw [q4]; simp, hs, ho, hof, q3⟩
        clear hin ho hof hch hs hxl hrel' b3 hlt ei hov
        go_wp2_with fail
        go_ret
        exact HF.out
  · have d1 : decide ((l1.length : Int) < (n : Int)) = false := decide_eq_false i1
    have d2 : decide (l1.length < n) = false := decide_eq_false (by omega)
    go_wp2_with fail
    go_loopw [21, 6] (fun iv ov wr => ∃ (i : Nat) (s' : Option (List Nat)) (xs : List (Int)), iv = .int .u64 i ∧ i ≤ n ∧ Sw eI 2 wr ov xs ∧ Fresh w ov ∧ Cb b w wr ∧ Sc N wr b s' ∧ xs.length = i ∧ ((s' = none ∧ s.bind (pl pz) = none) ∨ (∃ r, s' = some r ∧ n ≤ 2097152 ∧ (∀ x ∈ xs, R64 x) ∧ s.bind (pl pz) = (prep pz (n - i) r).map fun y => (xs ++ y.1, y.2)))) (fun iv _ _ => n - (RowKit.intOf iv).toNat)
    case atStart =>
      obtain ⟨hs2, hc2, hrel2⟩ := HS.out
      refine ⟨0, s2, [], rfl, Nat.zero_le _, Sw.nil _ _ _, Fresh.nil _, hc2, hs2, rfl, ?_⟩
      rcases hrel2 with q | ⟨r, q1, q2, q3⟩
      · exact .inl q
      · exact .inr ⟨r, q1, q2, fun x hx => by simp at hx, by rw [q3]; simp⟩
    case round =>
      obtain ⟨i, s', xs, rfl, hin, ho, hof, hch, hs, hxl, hrel'⟩ := hrel
      clear HS k1 f1 u1 i1 d1 d2
      obtain ⟨p3, n3, c3, b3⟩ := hs.bad
      have k3 := b3.cell
      by_cases hlt : i < n
      · have i2 : (i : Int) < (n : Int) := by omega
        cases s' with
        | none =>
          have hno : s.bind (pl pz) = none := by
            rcases hrel' with ⟨_, q⟩ | ⟨r, q, _⟩
            · exact q
            · cases q
          have HF : Hid (GetP N (pl pz) (fun w' v l => Sw eI 2 w' v l ∧ Fresh w v ∧ ∀ x ∈ l, R64 x) (fun _ v => ∃ a n c, v = .slice a n c) b w s (.returned (.slice none 0 0)) wr) := ⟨_, rfl, hch, .inr ⟨hno, hs, _, _, _, rfl⟩⟩
          simp only [Option.isNone_none] at k3
          clear hin ho hof hch hs hxl hrel' b3 hlt hno
          go_wp2_with fail
          go_ret
          exact HF.out
        | some r =>
          obtain ⟨n21, hQ, hpp⟩ : n ≤ 2097152 ∧ (∀ x ∈ xs, R64 x) ∧ s.bind (pl pz) = (prep pz (n - i) r).map fun y => (xs ++ y.1, y.2) := by
            rcases hrel' with ⟨q, _⟩ | ⟨r', q, q2⟩
            · cases q
            · cases q; exact q2
          have KG := hide (numberJ_any N wr b (some r) hs)
          have hob : ∀ k, u6.ownBlock = some k → ¬ k = b := fun k hk e => by subst e; exact ho.ne b3 (by decide) hk
          have HO := hide (And.intro ho (And.intro hof hob))
          have HC := hide hch
          have HX := hide (And.intro hxl (And.intro n21 (And.intro hQ (And.intro hpp hlt))))
          simp only [Option.isNone_some] at k3
          clear hin ho hof hch hs hxl hrel' b3 hlt n21 hQ hpp hob
          go_wp2_with fail
          refine KG.out.mono ?_
          rintro e w4 ⟨v4, rfl, hc4, hcase4⟩
          obtain ⟨x, s4, rfl, hs4, hnext⟩ : ∃ (x : Int) (s4 : Option (List Nat)), v4 = I x ∧ Sc N w4 b s4 ∧ ((s4 = none ∧ s.bind (pl pz) = none) ∨ (∃ r4, s4 = some r4 ∧ n ≤ 2097152 ∧ (∀ y ∈ xs ++ [x], R64 y) ∧ s.bind (pl pz) = (prep pz (n - (i + 1)) r4).map fun y => ((xs ++ [x]) ++ y.1, y.2))) := by
            obtain ⟨hxl, n21, hQ, hpp, hlt⟩ := HX.out
            rcases hcase4 with ⟨x, r4, hp4, hs4, rfl, hq⟩ | ⟨hp4, hs4, x, rfl⟩
            · refine ⟨x, some r4, rfl, hs4, .inr ⟨r4, rfl, n21, fun y hy => ?_, ?_⟩⟩
              · rcases List.mem_append.1 hy with q | q
                · exact hQ y q
                · simp at q; subst q; exact hq
              · rw [hpp, show n - i = (n - (i + 1)) + 1 by omega]
                exact prep_step pz _ r r4 x xs hp4
            · refine ⟨x, none, rfl, hs4, .inl ⟨rfl, ?_⟩⟩
              rw [hpp, show n - i = (n - (i + 1)) + 1 by omega]
              exact prep_stop pz _ r xs hp4
          obtain ⟨ho, hof, hob⟩ := HO.out
          have hA := (G.refl w4).alloc (.cells #[I x] 2)
          have ho4 := (ho.chg hc4 hob).G hA
          obtain ⟨i0, hi0, hz0, hz1, hz2⟩ := info_i64
          have hmx : (2097153 : Nat) ≤ maxLen := of_decide_eq_true (by kernel_rfl)
          have hxl := HX.out.1
          have n21 := HX.out.2.1
          have hlt := HX.out.2.2.2.2
          obtain ⟨v5, w5, hr5, hs5, hch5, hob5⟩ := app_row (P := Tryz.prog) (tr := 30) (ns := [x]) i0 _ 8 Tryz.underlying30 hi0 hz0 hz1 hz2 rfl (by decide) ho4 (Row.lit (E := eI) w4 2 [x] 1 (by simp)) (by simp; omega) (by simp; omega)
          have hcA : Cb b w (w4.alloc (.cells #[I x] 2)) := (HC.out.trans hc4).trans hA.chg
          have hc5 : Cb b w w5 := hcA.more hch5 (fun k hk q => absurd (hof k q) (by omega))
          have hf5 : Fresh w v5 := fun k hk => by
            rcases hob5 with q | q
            · rw [q] at hk; exact hof k hk
            · rw [q] at hk; have h1 := Option.some.inj hk; have h2 := hcA.size; omega
          have hsc5 : Sc N w5 b s4 := (hs4.G hA).own (W := w) (fun k hk => ⟨hof k hk, hob k hk⟩) HNN.out hch5
          have HR5 := hide hr5
          have HF : Hid (∃ u, v5 = u ∧ Sw eI 2 w5 u (xs ++ [x]) ∧ Fresh w u ∧ Cb b w w5 ∧ Sc N w5 b s4 ∧ (xs ++ [x]).length = i + 1 ∧ i < n) := ⟨_, rfl, hs5, hf5, hc5, hsc5, by simp; exact hxl, hlt⟩
          have HNX := hide hnext
          have HW : Hid (IntKind.u64.wrap ((i : Int) + 1) = (i : Int) + 1) := by show _ = _; rw [IntKind.wrap_u64]; omega
          clear hc4 hcase4 hs4 hnext ho hof hob hA ho4 hi0 hz0 hz1 hz2 hmx hxl n21 hlt hr5 hs5 hch5 hob5 hcA hc5 hf5 hsc5 KG HO HC HX k3
          go_wp2_with (first | (at_builtin; refine wpList_append_run rfl _ _ 30 rfl u6 (.slice (some ⟨w4.heap.size, 0, none⟩) 1 1) rfl rfl HR5.out ?_) | fail)
          try rw [HW.out]
          obtain ⟨u, rfl, r1, r2, r3, r4, r5, r6⟩ := HF.out
          refine ⟨⟨i + 1, s4, xs ++ [x], rfl, r6, r1, r2, r3, r4, r5, HNX.out⟩, ?_⟩
          simp only [RowKit.intOf]; omega
      · have i2 : ¬ (i : Int) < (n : Int) := by omega
        have ei : i = n := by omega
        obtain ⟨oa, oc, hov⟩ := ho.form
        have HF : Hid (GetP N (pl pz) (fun w' v l => Sw eI 2 w' v l ∧ Fresh w v ∧ ∀ x ∈ l, R64 x) (fun _ v => ∃ a n c, v = .slice a n c) b w s (.returned u6) wr) := by
          refine ⟨_, rfl, hch, ?_⟩
          rcases hrel' with ⟨q, q2⟩ | ⟨r, q, q2, q3, q4⟩
          · subst q; exact .inr ⟨q2, hs, _, _, _, hov⟩
          · subst q
            rw [ei, Nat.sub_self, prep] at q4
            exact .inl ⟨xs, r, by rw [q4]; simp, hs, ho, hof, q3⟩
        clear hin ho hof hch hs hxl hrel' b3 hlt ei hov
        go_wp2_with fail
        go_ret
        exact HF.out
end Go.Proofs.YtcdjjmjhdoanlaaGreatDoor
