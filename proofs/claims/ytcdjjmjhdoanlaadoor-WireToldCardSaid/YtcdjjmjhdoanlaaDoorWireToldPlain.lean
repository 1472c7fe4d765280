/- WireAsked: the row, and its tied card. -/
import Derived.Test.YtcdjjmjhdoanlaaDoorRows
import Derived.Test.YtcdjjmjhdoanlaaDoorCards
import Derived.Test.YtcdjjmjhdoanlaaDoorTie
import Derived.Test.YtcdjjmjhdoanlaaDoorW56
import Derived.Test.YtcdjjmjhdoanlaaDoorWf3
import Derived.OpenShut
import Derived.JoinedCond
import Derived.Deep.DeepHandedRow
import Derived.LaidMore
import Derived.Lib.LaidU8T
import Derived.Lib.LaidTab
import Derived.ProofKit
import Derived.Lay
import Derived.SevenTiedAt
namespace Go.Proofs.YtcdjjmjhdoanlaaDoor.wireTold
open Go.ChangeShapes Go.WideShapes Go.ChangeAt Go.RowKit Go.Lib Go.Shelf

theorem own : ownKnob Tryd.prog.godebug = none := by kernel_rfl
theorem laidOut : laidOutB Tryd.prog = true := by kernel_rfl
theorem tabs {W : World} (h : laidMet Tryd.prog Rows.wireToldRow.laid W) : Tabs W :=
  utf8Tabs_of_readsT (U8Types.of196 Tryd.laysValid) ⟨by kernel_rfl, by kernel_rfl, by kernel_rfl, by kernel_rfl, by kernel_rfl, by kernel_rfl, by kernel_rfl⟩
    ((by kernel_rfl : Rows.laid_unicode_utf8_first = firstData) ▸ Lib.laidMet.reads h (.tail _ (.head _)))
    ((by kernel_rfl : Rows.laid_unicode_utf8_acceptRanges (H := Unit) = acceptData) ▸ Lib.laidMet.reads h (.head _))
/-- A world for the witness. -/
theorem laid_met (os : Os) : laidMet Tryd.prog Rows.wireToldRow.laid ((World.laidAll Tryd.prog os Rows.wireToldRow.laid).forCall (fun _ _ => 0) ⟨#[], #[.agg #[.int .i64 0, .int .i64 0, .slice none 0 0]], []⟩).memory :=
  laidMet_of_run' 8 (by kernel_rfl) (by kernel_rfl)
theorem reads (os : Os) {H : Type} (enc : TypeId × Value → H) : ∃ places, DataW.whole enc Tryd.prog ((World.laidAll Tryd.prog os Rows.wireToldRow.laid).forCall (fun _ _ => 0) ⟨#[], #[.agg #[.int .i64 0, .int .i64 0, .slice none 0 0]], []⟩).memory Tryd.f3.params.toList Rows.wireToldSpec.vars false (#[.agg #[.int .i64 0, .int .i64 0, .slice none 0 0]] : Array Value).toList 8 = some ([.agg [.lit (.int .i64 0), .lit (.int .i64 0), .nil]], [], places) :=
  ⟨[], by kernel_rfl⟩
set_option maxRecDepth 100000 in
theorem lifted (os : Os) (started : os.Started) (H : Type) (enc : TypeId × Value → H) (F : Stop.Interp) :
    ReturnsInHanded {} Tryd.checked os 3 .any ((OpenSpec.ofChange Rows.wireToldSpec).preRow enc Tryd.prog Tryd.f3 Rows.wireToldRow.domain false Rows.wireToldRow.laid) (((OpenSpec.ofChange Rows.wireToldSpec).at F).post enc Tryd.prog Tryd.f3 false true false false) := by
  obtain ⟨places, hx⟩ := reads os enc
  refine returnsInHanded_of_row (C := Tryd.checked) (s := OpenSpec.ofChange Rows.wireToldSpec) own started (by kernel_rfl) Tryd.func3
    (witness_row_at (enc := enc) (C := Tryd.checked) false (World.laidAll Tryd.prog os Rows.wireToldRow.laid) #[.agg #[.int .i64 0, .int .i64 0, .slice none 0 0]] (World.laidAll_os _ _ _) (by kernel_rfl) (by kernel_rfl) (by kernel_rfl)
      (OpenSpec.preRow_of_cond 8 hx (by kernel_rfl) (fun k hk => by cases hk) (by kernel_rfl) (laid_met os))) ?_
  intro W base args ds gs before hval0 hW _ _ hwt hL _ _
  have hval : ∀ (j : Nat) t v, Tryd.f3.params[j]? = some t → args[j]? = some v → Value.okWide Tryd.prog W .any base t v := hval0
  have hW' := hW
  obtain ⟨p, q, hA0, hV, rfl, _, _⟩ := hW
  have hA : DataW.TrodAll enc Tryd.prog W 0 (fun _ => true) true Tryd.f3.params.toList args.toList ds p := hA0
  rw [Tryd.params3] at hA hval
  obtain ⟨v0, vs0, d0, ds0, p0, q0, hargs, rfl, rfl, h0, r0⟩ := trodAll_cons hA
  obtain ⟨rfl, rfl, rfl⟩ := trodAll_nil r0
  obtain rfl : args = #[v0] := by cases args; simp_all
  obtain ⟨rfl, rfl⟩ := trodVars_none hV
  have hlt0 : ∀ x ∈ p0, x.block < W.heap.size := fun x hx => by simpa using hW'.lt x (by simpa using hx)
  have t0 := h0
  obtain ⟨cs0, rfl, _⟩ := okWide_struct Tryd.underlying25 (hval 0 25 v0 rfl rfl)
  obtain ⟨f0, e0⟩ := t0
  obtain ⟨fr0, hf0, hs0⟩ := open_frame3 e0
  have hl0 : fr0.2.2.2.length ≤ 140737488351232 := by
    rcases hs0 with hs0 | ⟨y0, y1, es, ss, hd, he⟩
    · rw [hs0]; simp
    · have hd : d0 = .agg [y0, y1, .slice es ss] := hd
      have hm : (es.length + ss.length) * Tryd.prog.bytesOf 5 ∈ DataW.weightsEach Tryd.prog (Tryd.f3.params.toList ++ Rows.wireToldSpec.plain.varTypes Tryd.prog) ([d0] ++ []) := by
        rw [Tryd.params3]
        refine DataW.weights_mem_each (j := 0) rfl rfl _ ?_
        rw [hd]
        simp [DataW.weights, Tryd.underlying25, DataW.weightsEach, Tryd.underlying23]
      have h8 : (es.length + ss.length) * Tryd.prog.bytesOf 5 ≤ reachBytes := by simpa using List.all_eq_true.1 hwt _ hm
      rw [bytes_u] at h8
      have h9 : reachBytes = 140737488351232 := rfl
      omega
  have hL' : laidMet Tryd.prog Rows.wireToldRow.laid W := by rw [MakeChecks.laidMetH_plain _ _ _ (by kernel_rfl)] at hL; exact hL
  have hT : Tabs W := tabs hL'
  have hcall : Calls Tryd.prog 3 #[.agg cs0] W fun e W' => e = .returned (.bool true) ∧ G W W' := (by rw [show Value.agg cs0 = _ from hf0.1]; exact Go.Proofs.YtcdjjmjhdoanlaaDoor.wireTold fr0.1 fr0.2.1 fr0.2.2.2 fr0.2.2.1 W hf0.2.1 hf0.2.2.1 ⟨hT, hf0.2.2.2⟩ hl0)
  refine hcall.mono fun e W' ⟨he, hg⟩ => ?_
  subst he
  exact ⟨_, rfl, _, _, _, [], _, [], hW', trodAll_mk1 (shut_bool Tryd.underlying4 _), (trodAll_cons_mk (Below.trod laidOut (by kernel_rfl) (of_decide_eq_true (by kernel_rfl)) h0 hg hlt0) trodAll_mk0), rfl, Below.frame hg _, fun h => by cases h⟩
theorem said : Rows.WireToldSaid :=
  OpenClaim.holds_of_cond 3 Tryd.f3 rfl rfl rfl rfl rfl rfl rfl ⟨rfl, rfl, rfl, rfl, rfl⟩ rfl rfl rfl rfl rfl (by kernel_rfl) Tryd.func3 (by kernel_rfl)
    (of_decide_eq_true (by kernel_rfl)) (by unfold Func.isWrapper; first | (rw [if_pos (by decide +kernel)]; kernel_rfl) | (rw [if_neg (by decide +kernel)]; exact ⟨rfl, rfl⟩))
    (fun os started H enc _ F => by rw [OpenClaim.pre_eq_preRow]; exact lifted os started H enc F)
theorem plain (f : FuncId) (fn : Func) (hf : Tryd.pinned.checked.prog.funcNamed "trellis/trellislaw16.WireTold" = some f) (hfn : Tryd.pinned.checked.prog.funcs[f]? = some fn) :
    false = Tryd.pinned.checked.prog.looks [] ∧ ∀ (j : Nat) t, fn.params[j]? = some t → Tryd.pinned.checked.prog.wantsStandIn t = false := by
  obtain rfl : f = 3 := Option.some.inj ((show Tryd.prog.funcNamed "trellis/trellislaw16.WireTold" = some 3 by kernel_rfl).symm.trans hf) |>.symm
  obtain rfl : fn = Tryd.f3 := (Option.some.inj (Tryd.func3.symm.trans hfn)).symm
  refine ⟨by kernel_rfl, fun j t ht => ?_⟩
  rw [Tryd.params3] at ht
  have : t = 25 := by simpa using Array.mem_of_getElem? ht
  rcases this with rfl
  exact (show Tryd.prog.wantsStandIn 25 = false by kernel_rfl)
end Go.Proofs.YtcdjjmjhdoanlaaDoor.wireTold
namespace Go.Proofs.YtcdjjmjhdoanlaaDoor
theorem wireTold_card : Rows.WireToldCardSaid :=
  Claim7.holds_tied_plain_at .later [] _ _ _ _ wireTold.said (fun _ h => by cases h) (by kernel_rfl) (fun _ h => by cases h) wireTold_row_tie rfl ⟨rfl, rfl⟩ (by kernel_rfl) rfl wireTold.plain (by kernel_rfl)
#print axioms wireTold_card
end Go.Proofs.YtcdjjmjhdoanlaaDoor
