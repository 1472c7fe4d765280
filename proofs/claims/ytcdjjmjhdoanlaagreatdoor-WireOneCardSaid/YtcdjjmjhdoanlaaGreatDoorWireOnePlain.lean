/- WireAsked: the row, and its tied card. -/
import Derived.Test.YtcdjjmjhdoanlaaGreatDoorRows
import Derived.Test.YtcdjjmjhdoanlaaGreatDoorCards
import Derived.Test.YtcdjjmjhdoanlaaGreatDoorTie
import Derived.Test.YtcdjjmjhdoanlaaGreatDoorW84
import Derived.OpenShut
import Derived.JoinedCond
import Derived.Deep.DeepHandedRow
import Derived.LaidMore
import Derived.Lib.LaidU8T
import Derived.Lib.LaidTab
import Derived.ProofKit
import Derived.Lay
import Derived.SevenTiedAt
namespace Go.Proofs.YtcdjjmjhdoanlaaGreatDoor.wireOne
open Go.ChangeShapes Go.WideShapes Go.ChangeAt Go.RowKit Go.Lib Go.Shelf

theorem own : ownKnob Tryz.prog.godebug = none := by kernel_rfl
theorem laidOut : laidOutB Tryz.prog = true := by kernel_rfl
theorem tabs {W : World} (h : laidMet Tryz.prog Rows.wireOneRow.laid W) : Tabs W :=
  utf8Tabs_of_readsT (U8Types.of196 Tryz.laysValid) ⟨by kernel_rfl, by kernel_rfl, by kernel_rfl, by kernel_rfl, by kernel_rfl, by kernel_rfl, by kernel_rfl⟩
    ((by kernel_rfl : Rows.laid_unicode_utf8_first = firstData) ▸ Lib.laidMet.reads h (.tail _ (.tail _ (.head _))))
    ((by kernel_rfl : Rows.laid_unicode_utf8_acceptRanges (H := Unit) = acceptData) ▸ Lib.laidMet.reads h (.head _))
/-- A world for the witness. -/
theorem laid_met (os : Os) : laidMet Tryz.prog Rows.wireOneRow.laid ((World.laidAll Tryz.prog os Rows.wireOneRow.laid).forCall (fun _ _ => 0) ⟨#[], #[.agg #[.int .i64 0, .int .i64 0, .slice none 0 0], .int .i64 0], []⟩).memory :=
  laidMet_of_run' 8 (by kernel_rfl) (by kernel_rfl)
theorem reads (os : Os) {H : Type} (enc : TypeId × Value → H) : ∃ places, DataW.whole enc Tryz.prog ((World.laidAll Tryz.prog os Rows.wireOneRow.laid).forCall (fun _ _ => 0) ⟨#[], #[.agg #[.int .i64 0, .int .i64 0, .slice none 0 0], .int .i64 0], []⟩).memory Tryz.f3.params.toList Rows.wireOneSpec.vars false (#[.agg #[.int .i64 0, .int .i64 0, .slice none 0 0], .int .i64 0] : Array Value).toList 8 = some ([.agg [.lit (.int .i64 0), .lit (.int .i64 0), .nil], .lit (.int .i64 0)], [], places) :=
  ⟨[], by kernel_rfl⟩
set_option maxRecDepth 100000 in
theorem lifted (os : Os) (started : os.Started) (H : Type) (enc : TypeId × Value → H) (F : Stop.Interp) :
    ReturnsInHanded {} Tryz.checked os 3 .any ((OpenSpec.ofChange Rows.wireOneSpec).preRow enc Tryz.prog Tryz.f3 Rows.wireOneRow.domain false Rows.wireOneRow.laid) (((OpenSpec.ofChange Rows.wireOneSpec).at F).post enc Tryz.prog Tryz.f3 false true false false) := by
  obtain ⟨places, hx⟩ := reads os enc
  refine returnsInHanded_of_row (C := Tryz.checked) (s := OpenSpec.ofChange Rows.wireOneSpec) own started (by kernel_rfl) Tryz.func3
    (witness_row_at (enc := enc) (C := Tryz.checked) false (World.laidAll Tryz.prog os Rows.wireOneRow.laid) #[.agg #[.int .i64 0, .int .i64 0, .slice none 0 0], .int .i64 0] (World.laidAll_os _ _ _) (by kernel_rfl) (by kernel_rfl) (by kernel_rfl)
      (OpenSpec.preRow_of_cond 8 hx (by kernel_rfl) (fun k hk => by cases hk) (by kernel_rfl) (laid_met os))) ?_
  intro W base args ds gs before hval0 hW _ _ hwt hL _ _
  have hval : ∀ (j : Nat) t v, Tryz.f3.params[j]? = some t → args[j]? = some v → Value.okWide Tryz.prog W .any base t v := hval0
  have hW' := hW
  obtain ⟨p, q, hA0, hV, rfl, _, _⟩ := hW
  have hA : DataW.TrodAll enc Tryz.prog W 0 (fun _ => true) true Tryz.f3.params.toList args.toList ds p := hA0
  rw [Tryz.params3] at hA hval
  obtain ⟨v0, vs0, d0, ds0, p0, q0, hargs, rfl, rfl, h0, r0⟩ := trodAll_cons hA
  obtain ⟨v1, vs1, d1, ds1, p1, q1, rfl, rfl, rfl, h1, r1⟩ := trodAll_cons r0
  obtain ⟨rfl, rfl, rfl⟩ := trodAll_nil r1
  obtain rfl : args = #[v0, v1] := by cases args; simp_all
  obtain ⟨rfl, rfl⟩ := trodVars_none hV
  have hlt : ∀ x ∈ p0 ++ (p1 ++ []), x.block < W.heap.size := fun x hx => by simpa using hW'.lt x (by simpa using hx)
  have hlt0 : ∀ x ∈ p0, x.block < W.heap.size := fun x hx => hlt x (by simp [hx])
  have hlt1 : ∀ x ∈ p1, x.block < W.heap.size := fun x hx => hlt x (by simp [hx])
  have t0 := h0
  have t1 := h1
  obtain ⟨n1, rfl, _, _, w1⟩ := open_int Tryz.underlying2 (hval 1 2 v1 rfl rfl) t1
  obtain ⟨cs0, rfl, _⟩ := okWide_struct Tryz.underlying25 (hval 0 25 v0 rfl rfl)
  obtain ⟨f0, e0⟩ := t0
  obtain ⟨fr0, hf0, hs0⟩ := open_frame3 e0
  have hl0 : fr0.2.2.2.length ≤ 140737488351232 := by
    rcases hs0 with hs0 | ⟨y0, y1, es, ss, hd, he⟩
    · rw [hs0]; simp
    · have hd : d0 = .agg [y0, y1, .slice es ss] := hd
      have hm : (es.length + ss.length) * Tryz.prog.bytesOf 5 ∈ DataW.weightsEach Tryz.prog (Tryz.f3.params.toList ++ Rows.wireOneSpec.plain.varTypes Tryz.prog) ([d0, d1] ++ []) := by
        rw [Tryz.params3]
        refine DataW.weights_mem_each (j := 0) rfl rfl _ ?_
        rw [hd]
        simp [DataW.weights, Tryz.underlying25, DataW.weightsEach, Tryz.underlying23]
      have h8 : (es.length + ss.length) * Tryz.prog.bytesOf 5 ≤ reachBytes := by simpa using List.all_eq_true.1 hwt _ hm
      rw [bytes_u] at h8
      have h9 : reachBytes = 140737488351232 := rfl
      omega
  have hL' : laidMet Tryz.prog Rows.wireOneRow.laid W := by rw [MakeChecks.laidMetH_plain _ _ _ (by kernel_rfl)] at hL; exact hL
  have hT : Tabs W := tabs hL'
  have hK : Tks W := tk_of (Lib.laidMet.reads hL' (.tail _ (.head _)))
  have hcall : Calls Tryz.prog 3 #[.agg cs0, .int .i64 n1] W fun e W' => e = .returned (.bool true) ∧ G W W' := (by rw [show Value.agg cs0 = _ from hf0.1]; exact Go.Proofs.YtcdjjmjhdoanlaaGreatDoor.wireOne fr0.1 fr0.2.1 fr0.2.2.2 fr0.2.2.1 n1 W hf0.2.1 hf0.2.2.1 ⟨hK, hT⟩ hf0.2.2.2 (bounds_i64 w1) hl0)
  refine hcall.mono fun e W' ⟨he, hg⟩ => ?_
  subst he
  exact ⟨_, rfl, _, _, _, [], _, [], hW', trodAll_mk1 (shut_bool Tryz.underlying4 _), (trodAll_cons_mk (Below.trod laidOut (by kernel_rfl) (of_decide_eq_true (by kernel_rfl)) h0 hg hlt0) (trodAll_cons_mk (Below.trod laidOut (by kernel_rfl) (of_decide_eq_true (by kernel_rfl)) h1 hg hlt1) trodAll_mk0)), rfl, Below.frame hg _, fun h => by cases h⟩
theorem said : Rows.WireOneSaid :=
  OpenClaim.holds_of_cond 3 Tryz.f3 rfl rfl rfl rfl rfl rfl rfl ⟨rfl, rfl, rfl, rfl, rfl⟩ rfl rfl rfl rfl rfl (by kernel_rfl) Tryz.func3 (by kernel_rfl)
    (of_decide_eq_true (by kernel_rfl)) (by unfold Func.isWrapper; first | (rw [if_pos (by decide +kernel)]; kernel_rfl) | (rw [if_neg (by decide +kernel)]; exact ⟨rfl, rfl⟩))
    (fun os started H enc _ F => by rw [OpenClaim.pre_eq_preRow]; exact lifted os started H enc F)
theorem plain (f : FuncId) (fn : Func) (hf : Tryz.pinned.checked.prog.funcNamed "trellis/trellislaw16.WireOne" = some f) (hfn : Tryz.pinned.checked.prog.funcs[f]? = some fn) :
    false = Tryz.pinned.checked.prog.looks [] ∧ ∀ (j : Nat) t, fn.params[j]? = some t → Tryz.pinned.checked.prog.wantsStandIn t = false := by
  obtain rfl : f = 3 := Option.some.inj ((show Tryz.prog.funcNamed "trellis/trellislaw16.WireOne" = some 3 by kernel_rfl).symm.trans hf) |>.symm
  obtain rfl : fn = Tryz.f3 := (Option.some.inj (Tryz.func3.symm.trans hfn)).symm
  refine ⟨by kernel_rfl, fun j t ht => ?_⟩
  rw [Tryz.params3] at ht
  have : t = 25 ∨ t = 2 := by simpa using Array.mem_of_getElem? ht
  rcases this with rfl | rfl
  · exact (show Tryz.prog.wantsStandIn 25 = false by kernel_rfl)
  · exact (show Tryz.prog.wantsStandIn 2 = false by kernel_rfl)
end Go.Proofs.YtcdjjmjhdoanlaaGreatDoor.wireOne
namespace Go.Proofs.YtcdjjmjhdoanlaaGreatDoor
theorem wireOne_card : Rows.WireOneCardSaid :=
  Claim7.holds_tied_plain_at .later [] _ _ _ _ wireOne.said (fun _ h => by cases h) (by kernel_rfl) (fun _ h => by cases h) wireOne_row_tie rfl ⟨rfl, rfl⟩ (by kernel_rfl) rfl wireOne.plain (by kernel_rfl)
#print axioms wireOne_card
end Go.Proofs.YtcdjjmjhdoanlaaGreatDoor
