/- ValueOrder: the row and its tied card. -/
import Derived.Test.YtdiikofgilplkaaDoorRows
import Derived.Test.YtdiikofgilplkaaDoorCards
import Derived.Test.YtdiikofgilplkaaDoorTie
import Derived.Test.YtdiikofgilplkaaDoorScriptOpen
import Derived.Test.YtdiikofgilplkaaDoorOrdL
import Derived.Lib.LaidU8T
import Derived.Lib.LaidTab
import Derived.ProofKit
import Derived.LaidMore
import Derived.OpenShut
import Derived.ChangeMaps5
import Derived.Stop.Joined
import Derived.Lay
import Derived.SevenTiedAt
namespace Go.Proofs.YtdiikofgilplkaaDoor.valueOrder
open Go.ChangeShapes Go.WideShapes Go.ChangeAt Go.RowKit Go.Lib Go.Shelf

theorem own : ownKnob Tryd.prog.godebug = none := by kernel_rfl
theorem laidOut : laidOutB Tryd.prog = true := by kernel_rfl
theorem tabs {W : World} (h : laidMet Tryd.prog Rows.valueOrderRow.laid W) : Tabs W :=
  utf8Tabs_of_readsT (U8Types.of196 Tryd.laysValid) ⟨by kernel_rfl, by kernel_rfl, by kernel_rfl, by kernel_rfl, by kernel_rfl, by kernel_rfl, by kernel_rfl⟩
    ((by kernel_rfl : Rows.laid_unicode_utf8_first = firstData) ▸ Lib.laidMet.reads h (.tail _ (.tail _ (.head _))))
    ((by kernel_rfl : Rows.laid_unicode_utf8_acceptRanges (H := Unit) = acceptData) ▸ Lib.laidMet.reads h (.head _))
theorem rks {W : World} (h : laidMet Tryd.prog Rows.valueOrderRow.laid W) : Rks W := by
  have hv : VarReads Tryd.prog W "trellis/value.ranks" (tabData .i64 [5, 3, 4, 4, 2, 0, 1]) := Lib.laidMet.reads h (.tail _ (.head _))
  obtain ⟨g, t, cs, fuel, p, hg, hty, hvar, hd⟩ := hv
  obtain rfl : 0 = g := Option.some.inj ((show Tryd.prog.globalNamed "trellis/value.ranks" = some 0 by kernel_rfl).symm.trans hg)
  obtain rfl : 68 = t := Option.some.inj ((show (Tryd.prog.globals[0]?).map (·.type) = some 68 by kernel_rfl).symm.trans hty)
  have hcs := cells_of_tab Tryd.underlying68 Tryd.underlying3 (by kernel_rfl) (by kernel_rfl) hd
  have hc := World.var?_cell hg hvar
  refine ⟨?_, fun n hn => ?_⟩
  · have h0 := hc 0
    rw [← Array.getElem?_toList, hcs] at h0
    exact Nat.lt_of_not_le fun hle => by
      have : W.heap[0]? = none := Array.getElem?_eq_none hle
      simp [World.cell?, this] at h0
  · rw [hc n, ← Array.getElem?_toList, hcs]
    have : n = 0 ∨ n = 1 ∨ n = 2 ∨ n = 3 ∨ n = 4 ∨ n = 5 ∨ n = 6 := by omega
    rcases this with rfl | rfl | rfl | rfl | rfl | rfl | rfl <;> rfl
theorem val_agg {W : World} {b0 : Nat} {v : Value} (h : Value.okWide Tryd.prog W .any b0 30 v) : ∃ xs : Array Value, v = .agg xs := by
  unfold Value.okWide at h
  simp only [Tryd.underlying30] at h
  cases v <;> first | exact ⟨_, rfl⟩ | exact absurd h (by simp)
set_option maxRecDepth 100000 in
theorem lifted (os : Os) (started : os.Started) (H : Type) (enc : TypeId × Value → H) :
    ReturnsInHanded {} Tryd.checked os 3 .any (fun w args => (Rows.valueOrderSpec.pre enc Tryd.prog Tryd.f3 [] false w args ∧ laidMetH Tryd.prog Rows.valueOrderRow.laid w) ∧ sizedMet enc Tryd.prog Tryd.f3 (OpenSpec.ofChange Rows.valueOrderSpec) false w args)
      (Rows.valueOrderSpec.post enc Tryd.prog Tryd.f3 false true false false) := by
  refine returnsInHanded_of_change_and (C := Tryd.checked) (X := fun w _ => laidMetH Tryd.prog Rows.valueOrderRow.laid w) (fun _ _ _ hh h => h.of_heap hh) own started (by kernel_rfl) Tryd.func3
    (ChangeSpec.witness_shaped (enc := enc) (C := Tryd.checked) (os := os) (X := fun w _ => laidMetH Tryd.prog Rows.valueOrderRow.laid w) false (World.laidAll Tryd.prog os Rows.valueOrderRow.laid) #[.slice none 0 0, .slice none 0 0] 8 (World.laidAll_os _ _ _)
      (World.shaped_of_ZipB (by kernel_rfl) (by kernel_rfl)) (by kernel_rfl) (by kernel_rfl) (by kernel_rfl)
      (by rw [MakeChecks.laidMetH_plain _ _ _ (by kernel_rfl)]; exact laidMet_laidAll _ (by kernel_rfl) (by kernel_rfl))) ?_
  intro W base args ds gs before hval0 hW _ hwt hL _
  have hval : ∀ (j : Nat) t v, Tryd.f3.params[j]? = some t → args[j]? = some v → Value.okWide Tryd.prog W .any base t v := hval0
  have hW' := hW
  obtain ⟨p, q, hA0, hV, rfl, _, _⟩ := hW
  have hA : DataW.TrodAll enc Tryd.prog W 0 (fun _ => true) true Tryd.f3.params.toList args.toList ds p := hA0
  rw [Tryd.params3] at hA hval
  obtain ⟨v0, vs0, d0, ds0, p0, q0, hargs, rfl, rfl, h0, r0⟩ := trodAll_cons hA
  obtain ⟨v1, vs1, d1, ds1, p1, q1, rfl, rfl, rfl, h1, r1⟩ := trodAll_cons r0
  obtain ⟨rfl, rfl, rfl⟩ := trodAll_nil r1
  obtain rfl : args = #[v0, v1] := by cases args; simp_all
  obtain ⟨rfl, rfl⟩ := trodVars_none hV
  have hlt : ∀ x ∈ p0 ++ (p1 ++ []), x.block < W.heap.size := fun x hx => by simpa using hW'.lt x (by simpa using hx)
  have hlt0 : ∀ x ∈ p0, x.block < W.heap.size := fun x hx => hlt x (by simp [hx])
  have hlt1 : ∀ x ∈ p1, x.block < W.heap.size := fun x hx => hlt x (by simp [hx])
  have hs0 : Small 22 d0 := fun n hn => by
    have hm : n ∈ DataW.weightsEach Tryd.prog (Tryd.f3.params.toList ++ Rows.valueOrderSpec.plain.varTypes Tryd.prog) ([d0, d1] ++ []) := by
      rw [Tryd.params3]
      exact DataW.weights_mem_each (j := 0) rfl rfl n hn
    simpa using List.all_eq_true.1 hwt n hm
  have t0 := h0
  have hs1 : Small 23 d1 := fun n hn => by
    have hm : n ∈ DataW.weightsEach Tryd.prog (Tryd.f3.params.toList ++ Rows.valueOrderSpec.plain.varTypes Tryd.prog) ([d0, d1] ++ []) := by
      rw [Tryd.params3]
      exact DataW.weights_mem_each (j := 1) rfl rfl n hn
    simpa using List.all_eq_true.1 hwt n hm
  have t1 := h1
  obtain ⟨y0, len0, cap0, rfl⟩ := okWide_slice Tryd.underlying22 (hval 0 22 v0 rfl rfl)
  obtain ⟨f0, e0⟩ := t0
  have vo0 := open_vs (c := .slice y0 len0 cap0) e0 hs0
  obtain ⟨y1, len1, cap1, rfl⟩ := okWide_slice Tryd.underlying23 (hval 1 23 v1 rfl rfl)
  obtain ⟨f1, e1⟩ := t1
  have bo1 := open_bs (c := .slice y1 len1 cap1) e1 hs1
  have hL' : laidMet Tryd.prog Rows.valueOrderRow.laid W := by rw [MakeChecks.laidMetH_plain _ _ _ (by kernel_rfl)] at hL; exact hL
  have hT : Tabs W := tabs hL'
  have hR : Rks W := rks hL'
  refine (order_any _ _ W vo0 bo1 hT hR).mono fun e W' ⟨he, hg⟩ => ?_
  subst he
  exact ⟨_, rfl, _, _, _, [], _, [], hW', trodAll_mk1 (shut_bool Tryd.underlying4 _), (trodAll_cons_mk (Below.trod laidOut (by kernel_rfl) (of_decide_eq_true (by kernel_rfl)) h0 hg hlt0) (trodAll_cons_mk (Below.trod laidOut (by kernel_rfl) (of_decide_eq_true (by kernel_rfl)) h1 hg hlt1) trodAll_mk0)), rfl, Below.frame hg _, fun h => by cases h⟩

theorem holds : Rows.ValueOrderSaid :=
  OpenClaim.holds_of_wide 3 Tryd.f3 rfl rfl rfl rfl rfl rfl rfl ⟨rfl, rfl, rfl, rfl, rfl⟩ rfl rfl rfl rfl rfl (by kernel_rfl) Tryd.func3 (by kernel_rfl)
    (of_decide_eq_true (by kernel_rfl)) (by unfold Func.isWrapper; first | (rw [if_pos (by decide +kernel)]; kernel_rfl) | (rw [if_neg (by decide +kernel)]; exact ⟨rfl, rfl⟩))
    (fun os started H enc _ => lifted os started H enc)
end Go.Proofs.YtdiikofgilplkaaDoor.valueOrder
namespace Go.Proofs.YtdiikofgilplkaaDoor
theorem valueOrder_card : Rows.ValueOrderCardSaid :=
  Claim7.holds_tied_plain_at .later [] [.data, .data, .pinned] true (true, "25f1f32a4a4e12b6812867be13c29d70929317ccafdc3072e2b25f679bd06c56") true valueOrder.holds (fun _ h => by cases h) (by kernel_rfl) (fun _ h => by cases h) valueOrder_row_tie rfl ⟨rfl, rfl⟩ (by kernel_rfl) rfl
    (fun f fn hf hfn => by
      obtain rfl : f = 3 := Option.some.inj ((show Tryd.prog.funcNamed "trellis/trellislaw1.ValueOrder" = some 3 by kernel_rfl).symm.trans hf) |>.symm
      obtain rfl : fn = Tryd.f3 := (Option.some.inj (Tryd.func3.symm.trans hfn)).symm
      exact ⟨by kernel_rfl, fun j t ht => by
        rw [Tryd.params3] at ht
        have hm : t ∈ [22, 23] := by simpa using Array.mem_of_getElem? ht
        have hall : ([22, 23].all fun u => !Tryd.prog.wantsStandIn u) = true := by kernel_rfl
        exact (show Tryd.prog.wantsStandIn t = false by simpa using List.all_eq_true.1 hall t hm)⟩)
    (by kernel_rfl)
#print axioms valueOrder_card
end Go.Proofs.YtdiikofgilplkaaDoor
