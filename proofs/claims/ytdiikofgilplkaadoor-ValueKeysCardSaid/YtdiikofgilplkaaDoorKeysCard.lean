/- ValueKeys: the row and its tied card. -/
import Derived.Test.YtdiikofgilplkaaDoorRows
import Derived.Test.YtdiikofgilplkaaDoorCards
import Derived.Test.YtdiikofgilplkaaDoorTie
import Derived.Test.YtdiikofgilplkaaDoorScriptOpen
import Derived.Test.YtdiikofgilplkaaDoorKeys4
import Derived.Lib.LaidU8T
import Derived.Lib.LaidTab
import Derived.ProofKit
import Derived.LaidMore
import Derived.OpenShut
import Derived.ChangeMaps5
import Derived.Stop.Joined
import Derived.Lay
import Derived.SevenTiedAt
namespace Go.Proofs.YtdiikofgilplkaaDoor.valueKeys
open Go.ChangeShapes Go.WideShapes Go.ChangeAt Go.RowKit Go.Lib Go.Shelf

theorem own : ownKnob Tryd.prog.godebug = none := by kernel_rfl
theorem laidOut : laidOutB Tryd.prog = true := by kernel_rfl
theorem tabs {W : World} (h : laidMet Tryd.prog Rows.valueKeysRow.laid W) : Tabs W :=
  utf8Tabs_of_readsT (U8Types.of196 Tryd.laysValid) ⟨by kernel_rfl, by kernel_rfl, by kernel_rfl, by kernel_rfl, by kernel_rfl, by kernel_rfl, by kernel_rfl⟩
    ((by kernel_rfl : Rows.laid_unicode_utf8_first = firstData) ▸ Lib.laidMet.reads h (.tail _ (.tail _ (.head _))))
    ((by kernel_rfl : Rows.laid_unicode_utf8_acceptRanges (H := Unit) = acceptData) ▸ Lib.laidMet.reads h (.head _))
theorem rks {W : World} (h : laidMet Tryd.prog Rows.valueKeysRow.laid W) : Rks W := by
  have hv : VarReads Tryd.prog W "trellis/value.ranks" (tabData .i64 [5, 3, 4, 4, 2, 0, 1]) := Lib.laidMet.reads h (.tail _ (.head _))
  obtain ⟨g, t, cs, fuel, p, hg, hty, hvar, hd⟩ := hv
  obtain rfl : 0 = g := Option.some.inj ((show Tryd.prog.globalNamed "trellis/value.ranks" = some 0 by kernel_rfl).symm.trans hg)
  obtain rfl : 68 = t := Option.some.inj ((show (Tryd.prog.globals[0]?).map (·.type) = some 68 by kernel_rfl).symm.trans hty)
  have hcs := cells_of_tab Tryd.underlying68 Tryd.underlying3 (by kernel_rfl) (by kernel_rfl) hd
  have hc := World.var?_cell hg hvar
  refine ⟨?_, fun n hn => ?_⟩
  · have h0 := hc 0
    rw [← Array.getElem?_toList, hcs] at h0
    exact Nat.lt_of_not_le fun hle => by
      have : W.heap[0]? = none := Array.getElem?_eq_none hle
      simp [World.cell?, this] at h0
  · rw [hc n, ← Array.getElem?_toList, hcs]
    have : n = 0 ∨ n = 1 ∨ n = 2 ∨ n = 3 ∨ n = 4 ∨ n = 5 ∨ n = 6 := by omega
    rcases this with rfl | rfl | rfl | rfl | rfl | rfl | rfl <;> rfl
theorem val_agg {W : World} {b0 : Nat} {v : Value} (h : Value.okWide Tryd.prog W .any b0 30 v) : ∃ xs : Array Value, v = .agg xs := by
  unfold Value.okWide at h
  simp only [Tryd.underlying30] at h
  cases v <;> first | exact ⟨_, rfl⟩ | exact absurd h (by simp)
set_option maxRecDepth 100000 in
theorem lifted (os : Os) (started : os.Started) (H : Type) (enc : TypeId × Value → H) :
    ReturnsInHanded {} Tryd.checked os 4 .any (fun w args => (Rows.valueKeysSpec.pre enc Tryd.prog Tryd.f4 [] false w args ∧ laidMetH Tryd.prog Rows.valueKeysRow.laid w) ∧ sizedMet enc Tryd.prog Tryd.f4 (OpenSpec.ofChange Rows.valueKeysSpec) false w args)
      (Rows.valueKeysSpec.post enc Tryd.prog Tryd.f4 false true false false) := by
  refine returnsInHanded_of_change_and (C := Tryd.checked) (X := fun w _ => laidMetH Tryd.prog Rows.valueKeysRow.laid w) (fun _ _ _ hh h => h.of_heap hh) own started (by kernel_rfl) Tryd.func4
    (ChangeSpec.witness_shaped (enc := enc) (C := Tryd.checked) (os := os) (X := fun w _ => laidMetH Tryd.prog Rows.valueKeysRow.laid w) false (World.laidAll Tryd.prog os Rows.valueKeysRow.laid) #[.string E0, .string E0, .agg #[.int .i64 0, .int .i64 0, .int .i64 0, .string E0], .agg #[.int .i64 0, .int .i64 0, .int .i64 0, .string E0], .int .i64 0, .int .i64 0] 8 (World.laidAll_os _ _ _)
      (World.shaped_of_ZipB (by kernel_rfl) (by kernel_rfl)) (by kernel_rfl) (by kernel_rfl) (by kernel_rfl)
      (by rw [MakeChecks.laidMetH_plain _ _ _ (by kernel_rfl)]; exact laidMet_laidAll _ (by kernel_rfl) (by kernel_rfl))) ?_
  intro W base args ds gs before hval0 hW _ hwt hL _
  have hval : ∀ (j : Nat) t v, Tryd.f4.params[j]? = some t → args[j]? = some v → Value.okWide Tryd.prog W .any base t v := hval0
  have hW' := hW
  obtain ⟨p, q, hA0, hV, rfl, _, _⟩ := hW
  have hA : DataW.TrodAll enc Tryd.prog W 0 (fun _ => true) true Tryd.f4.params.toList args.toList ds p := hA0
  rw [Tryd.params4] at hA hval
  obtain ⟨v0, vs0, d0, ds0, p0, q0, hargs, rfl, rfl, h0, r0⟩ := trodAll_cons hA
  obtain ⟨v1, vs1, d1, ds1, p1, q1, rfl, rfl, rfl, h1, r1⟩ := trodAll_cons r0
  obtain ⟨v2, vs2, d2, ds2, p2, q2, rfl, rfl, rfl, h2, r2⟩ := trodAll_cons r1
  obtain ⟨v3, vs3, d3, ds3, p3, q3, rfl, rfl, rfl, h3, r3⟩ := trodAll_cons r2
  obtain ⟨v4, vs4, d4, ds4, p4, q4, rfl, rfl, rfl, h4, r4⟩ := trodAll_cons r3
  obtain ⟨v5, vs5, d5, ds5, p5, q5, rfl, rfl, rfl, h5, r5⟩ := trodAll_cons r4
  obtain ⟨rfl, rfl, rfl⟩ := trodAll_nil r5
  obtain rfl : args = #[v0, v1, v2, v3, v4, v5] := by cases args; simp_all
  obtain ⟨rfl, rfl⟩ := trodVars_none hV
  have hlt : ∀ x ∈ p0 ++ (p1 ++ (p2 ++ (p3 ++ (p4 ++ (p5 ++ []))))), x.block < W.heap.size := fun x hx => by simpa using hW'.lt x (by simpa using hx)
  have hlt0 : ∀ x ∈ p0, x.block < W.heap.size := fun x hx => hlt x (by simp [hx])
  have hlt1 : ∀ x ∈ p1, x.block < W.heap.size := fun x hx => hlt x (by simp [hx])
  have hlt2 : ∀ x ∈ p2, x.block < W.heap.size := fun x hx => hlt x (by simp [hx])
  have hlt3 : ∀ x ∈ p3, x.block < W.heap.size := fun x hx => hlt x (by simp [hx])
  have hlt4 : ∀ x ∈ p4, x.block < W.heap.size := fun x hx => hlt x (by simp [hx])
  have hlt5 : ∀ x ∈ p5, x.block < W.heap.size := fun x hx => hlt x (by simp [hx])
  have hs0 : Small 9 d0 := fun n hn => by
    have hm : n ∈ DataW.weightsEach Tryd.prog (Tryd.f4.params.toList ++ Rows.valueKeysSpec.plain.varTypes Tryd.prog) ([d0, d1, d2, d3, d4, d5] ++ []) := by
      rw [Tryd.params4]
      exact DataW.weights_mem_each (j := 0) rfl rfl n hn
    simpa using List.all_eq_true.1 hwt n hm
  have t0 := h0
  have hs1 : Small 9 d1 := fun n hn => by
    have hm : n ∈ DataW.weightsEach Tryd.prog (Tryd.f4.params.toList ++ Rows.valueKeysSpec.plain.varTypes Tryd.prog) ([d0, d1, d2, d3, d4, d5] ++ []) := by
      rw [Tryd.params4]
      exact DataW.weights_mem_each (j := 1) rfl rfl n hn
    simpa using List.all_eq_true.1 hwt n hm
  have t1 := h1
  have hs2 : Small 30 d2 := fun n hn => by
    have hm : n ∈ DataW.weightsEach Tryd.prog (Tryd.f4.params.toList ++ Rows.valueKeysSpec.plain.varTypes Tryd.prog) ([d0, d1, d2, d3, d4, d5] ++ []) := by
      rw [Tryd.params4]
      exact DataW.weights_mem_each (j := 2) rfl rfl n hn
    simpa using List.all_eq_true.1 hwt n hm
  have t2 := h2
  have hs3 : Small 30 d3 := fun n hn => by
    have hm : n ∈ DataW.weightsEach Tryd.prog (Tryd.f4.params.toList ++ Rows.valueKeysSpec.plain.varTypes Tryd.prog) ([d0, d1, d2, d3, d4, d5] ++ []) := by
      rw [Tryd.params4]
      exact DataW.weights_mem_each (j := 3) rfl rfl n hn
    simpa using List.all_eq_true.1 hwt n hm
  have t3 := h3
  have hs4 : Small 2 d4 := fun n hn => by
    have hm : n ∈ DataW.weightsEach Tryd.prog (Tryd.f4.params.toList ++ Rows.valueKeysSpec.plain.varTypes Tryd.prog) ([d0, d1, d2, d3, d4, d5] ++ []) := by
      rw [Tryd.params4]
      exact DataW.weights_mem_each (j := 4) rfl rfl n hn
    simpa using List.all_eq_true.1 hwt n hm
  have t4 := h4
  have hs5 : Small 2 d5 := fun n hn => by
    have hm : n ∈ DataW.weightsEach Tryd.prog (Tryd.f4.params.toList ++ Rows.valueKeysSpec.plain.varTypes Tryd.prog) ([d0, d1, d2, d3, d4, d5] ++ []) := by
      rw [Tryd.params4]
      exact DataW.weights_mem_each (j := 5) rfl rfl n hn
    simpa using List.all_eq_true.1 hwt n hm
  have t5 := h5
  obtain ⟨x0, rfl, rfl, ep0, _⟩ := ChangeMaps.open_string Tryd.underlying9 (hval 0 9 v0 rfl rfl) t0
  have hz0 : x0.size ≤ reachBytes := hs0 _ (size_mem (H := H) x0)
  obtain ⟨x1, rfl, rfl, ep1, _⟩ := ChangeMaps.open_string Tryd.underlying9 (hval 1 9 v1 rfl rfl) t1
  have hz1 : x1.size ≤ reachBytes := hs1 _ (size_mem (H := H) x1)
  obtain ⟨xs2, rfl⟩ := val_agg (hval 2 30 v2 rfl rfl)
  obtain ⟨f2, e2⟩ := t2
  obtain ⟨k2, a2, b2, s2, c2, rk2, ra2, rb2, hz2⟩ := open_val e2 hs2
  obtain rfl : xs2 = #[I k2, I a2, I b2, .string s2] := by
    have e : xs2.toList = [I k2, I a2, I b2, .string s2] := by simpa [Value.cells] using c2
    rw [← Array.toArray_toList (xs := xs2), e]
  obtain ⟨xs3, rfl⟩ := val_agg (hval 3 30 v3 rfl rfl)
  obtain ⟨f3, e3⟩ := t3
  obtain ⟨k3, a3, b3, s3, c3, rk3, ra3, rb3, hz3⟩ := open_val e3 hs3
  obtain rfl : xs3 = #[I k3, I a3, I b3, .string s3] := by
    have e : xs3.toList = [I k3, I a3, I b3, .string s3] := by simpa [Value.cells] using c3
    rw [← Array.toArray_toList (xs := xs3), e]
  obtain ⟨n4, rfl, _, _, w4⟩ := open_int Tryd.underlying2 (hval 4 2 v4 rfl rfl) t4
  obtain ⟨n5, rfl, _, _, w5⟩ := open_int Tryd.underlying2 (hval 5 2 v5 rfl rfl) t5
  have hL' : laidMet Tryd.prog Rows.valueKeysRow.laid W := by rw [MakeChecks.laidMetH_plain _ _ _ (by kernel_rfl)] at hL; exact hL
  have hT : Tabs W := tabs hL'
  have hR : Rks W := rks hL'
  refine (keys_any x0 x1 k2 a2 b2 k3 a3 b3 s2 s3 n4 n5 (by unfold reachBytes at hz2; omega) (by unfold reachBytes at hz3; omega) ra2 rb2 ra3 rb3 W hT hR).mono fun e W' ⟨he, hg⟩ => ?_
  subst he
  exact ⟨_, rfl, _, _, _, [], _, [], hW', trodAll_mk1 (shut_bool Tryd.underlying4 _), (trodAll_cons_mk (Below.trod laidOut (by kernel_rfl) (of_decide_eq_true (by kernel_rfl)) h0 hg hlt0) (trodAll_cons_mk (Below.trod laidOut (by kernel_rfl) (of_decide_eq_true (by kernel_rfl)) h1 hg hlt1) (trodAll_cons_mk (Below.trod laidOut (by kernel_rfl) (of_decide_eq_true (by kernel_rfl)) h2 hg hlt2) (trodAll_cons_mk (Below.trod laidOut (by kernel_rfl) (of_decide_eq_true (by kernel_rfl)) h3 hg hlt3) (trodAll_cons_mk (Below.trod laidOut (by kernel_rfl) (of_decide_eq_true (by kernel_rfl)) h4 hg hlt4) (trodAll_cons_mk (Below.trod laidOut (by kernel_rfl) (of_decide_eq_true (by kernel_rfl)) h5 hg hlt5) trodAll_mk0)))))), rfl, Below.frame hg _, fun h => by cases h⟩

theorem holds : Rows.ValueKeysSaid :=
  OpenClaim.holds_of_wide 4 Tryd.f4 rfl rfl rfl rfl rfl rfl rfl ⟨rfl, rfl, rfl, rfl, rfl⟩ rfl rfl rfl rfl rfl (by kernel_rfl) Tryd.func4 (by kernel_rfl)
    (of_decide_eq_true (by kernel_rfl)) (by unfold Func.isWrapper; first | (rw [if_pos (by decide +kernel)]; kernel_rfl) | (rw [if_neg (by decide +kernel)]; exact ⟨rfl, rfl⟩))
    (fun os started H enc _ => lifted os started H enc)
end Go.Proofs.YtdiikofgilplkaaDoor.valueKeys
namespace Go.Proofs.YtdiikofgilplkaaDoor
theorem valueKeys_card : Rows.ValueKeysCardSaid :=
  Claim7.holds_tied_plain_at .later [] [.data, .data, .pinned] true (true, "25f1f32a4a4e12b6812867be13c29d70929317ccafdc3072e2b25f679bd06c56") true valueKeys.holds (fun _ h => by cases h) (by kernel_rfl) (fun _ h => by cases h) valueKeys_row_tie rfl ⟨rfl, rfl⟩ (by kernel_rfl) rfl
    (fun f fn hf hfn => by
      obtain rfl : f = 4 := Option.some.inj ((show Tryd.prog.funcNamed "trellis/trellislaw1.ValueKeys" = some 4 by kernel_rfl).symm.trans hf) |>.symm
      obtain rfl : fn = Tryd.f4 := (Option.some.inj (Tryd.func4.symm.trans hfn)).symm
      exact ⟨by kernel_rfl, fun j t ht => by
        rw [Tryd.params4] at ht
        have hm : t ∈ [9, 9, 30, 30, 2, 2] := by simpa using Array.mem_of_getElem? ht
        have hall : ([9, 9, 30, 30, 2, 2].all fun u => !Tryd.prog.wantsStandIn u) = true := by kernel_rfl
        exact (show Tryd.prog.wantsStandIn t = false by simpa using List.all_eq_true.1 hall t hm)⟩)
    (by kernel_rfl)
#print axioms valueKeys_card
end Go.Proofs.YtdiikofgilplkaaDoor
