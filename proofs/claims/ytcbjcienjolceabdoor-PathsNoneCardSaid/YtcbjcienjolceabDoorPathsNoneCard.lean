/- PathsNone: the row, and its tied card. -/
import Derived.Test.YtcbjcienjolceabDoorRows
import Derived.Test.YtcbjcienjolceabDoorCards
import Derived.Test.YtcbjcienjolceabDoorTie
import Derived.Test.YtcbjcienjolceabDoorPy3
import Derived.Test.YtcbjcienjolceabDoorPy4
import Derived.OpenShut
import Derived.JoinedCond
import Derived.Deep.DeepHandedRow
import Derived.LaidMore
import Derived.Lay
import Derived.SevenTiedAt
namespace Go.Proofs.YtcbjcienjolceabDoor
open Go.ChangeShapes Go.WideShapes Go.ChangeAt Go.RowKit
section
variable {H : Type} {enc : TypeId × Value → H} {w : World}
theorem open_ids2 {fuel : Nat} {c : Value} {x : DataW H × List MemPlace} (h : trodA enc w fuel 25 [c] = some x) : ∃ l : List Int, Ids w c l ∧ (l = [] ∨ ∃ es ss, x.1 = .slice es ss ∧ es.length = l.length) := by
  rcases Go.Deep.open_slice Tryd.underlying25 h with ⟨hc, rfl⟩ | ⟨a, len, cap, m, n, D, Pl, hc, _, hl, hm, rfl, rfl, hx⟩
  · obtain rfl : c = .slice none 0 0 := by simpa using hc
    exact ⟨[], ⟨⟨none, 0, rfl, fun _ => rfl, .inl rfl⟩, fun x hx => by simp at hx⟩, .inl rfl⟩
  · have each : ∀ i, i < m → ∃ e : Int, w.cell? (a.add i) = some (I e) ∧ R64 e := by
      intro i hi
      obtain ⟨cs', h1, h2⟩ := hx i hi
      obtain ⟨q, rfl, _, wq⟩ := DataW.trod_int Tryd.underlying2 h2
      rw [cells_i] at h1
      obtain ⟨_, _, hcell⟩ := World.cells?_some h1
      have h3 := hcell 0 (by decide)
      rw [Go.Deep.add_add, Nat.mul_one, Nat.add_zero] at h3
      exact ⟨q, h3, r64 wq⟩
    obtain ⟨E, hE⟩ := Go.Deep.choose_lt each
    obtain rfl : c = .slice (some a) len m := by simpa using hc
    refine ⟨(List.range len).map E, ⟨?_, fun e he => ?_⟩, .inr ⟨_, _, rfl, by simp⟩⟩
    · refine ⟨some a, m, by simp, fun q => (by cases q), ?_⟩
      by_cases h0 : len = 0
      · exact .inl (by simp [h0])
      · obtain ⟨b, o, rfl⟩ := spot_of (by have := (hE 0 (by omega)).1; exact this)
        refine .inr ⟨b, o, rfl, fun i hi => ?_⟩
        have hil : i < len := by simpa using hi
        have := (hE i (by omega)).1
        rw [Addr.add_mid] at this
        rw [this]
        simp [hil]
    · obtain ⟨i, hi, rfl⟩ := List.mem_map.1 he
      exact (hE i (by have := List.mem_range.1 hi; omega)).2
end
end Go.Proofs.YtcbjcienjolceabDoor
namespace Go.Proofs.YtcbjcienjolceabDoor.pathsNone
open Go.ChangeShapes Go.WideShapes Go.ChangeAt Go.RowKit

theorem own : ownKnob Tryd.prog.godebug = none := by kernel_rfl
theorem laidOut : laidOutB Tryd.prog = true := by kernel_rfl
theorem bytes_i : Tryd.prog.bytesOf 2 = 8 := by kernel_rfl
/-- A world for the witness. -/
theorem laid_met (os : Os) : laidMet Tryd.prog Rows.pathsNoneRow.laid ((World.laidAll Tryd.prog os Rows.pathsNoneRow.laid).forCall (fun _ _ => 0) ⟨#[], #[.int .i64 0, .int .i64 0, .int .i64 0, .slice none 0 0], []⟩).memory :=
  laidMet_of_run' 8 (by kernel_rfl) (by kernel_rfl)
theorem reads (os : Os) {H : Type} (enc : TypeId × Value → H) : ∃ places, DataW.whole enc Tryd.prog ((World.laidAll Tryd.prog os Rows.pathsNoneRow.laid).forCall (fun _ _ => 0) ⟨#[], #[.int .i64 0, .int .i64 0, .int .i64 0, .slice none 0 0], []⟩).memory Tryd.f6.params.toList Rows.pathsNoneSpec.vars false (#[.int .i64 0, .int .i64 0, .int .i64 0, .slice none 0 0] : Array Value).toList 8 = some ([.lit (.int .i64 0), .lit (.int .i64 0), .lit (.int .i64 0), .nil], [], places) :=
  ⟨[], by kernel_rfl⟩
set_option maxRecDepth 100000 in
theorem lifted (os : Os) (started : os.Started) (H : Type) (enc : TypeId × Value → H) (F : Stop.Interp) :
    ReturnsInHanded {} Tryd.checked os 6 .any ((OpenSpec.ofChange Rows.pathsNoneSpec).preRow enc Tryd.prog Tryd.f6 Rows.pathsNoneRow.domain false Rows.pathsNoneRow.laid) (((OpenSpec.ofChange Rows.pathsNoneSpec).at F).post enc Tryd.prog Tryd.f6 false true false false) := by
  obtain ⟨places, hx⟩ := reads os enc
  refine returnsInHanded_of_row (C := Tryd.checked) (s := OpenSpec.ofChange Rows.pathsNoneSpec) own started (by kernel_rfl) Tryd.func6
    (witness_row_at (enc := enc) (C := Tryd.checked) false (World.laidAll Tryd.prog os Rows.pathsNoneRow.laid) #[.int .i64 0, .int .i64 0, .int .i64 0, .slice none 0 0] (World.laidAll_os _ _ _) (by kernel_rfl) (by kernel_rfl) (by kernel_rfl)
      (OpenSpec.preRow_of_cond 8 hx (by kernel_rfl) (fun k hk => by cases hk) (by kernel_rfl) (laid_met os))) ?_
  intro W base args ds gs before hval0 hW _ _ hwt hL _ _
  have hval : ∀ (j : Nat) t v, Tryd.f6.params[j]? = some t → args[j]? = some v → Value.okWide Tryd.prog W .any base t v := hval0
  have hW' := hW
  obtain ⟨p, q, hA0, hV, rfl, _, _⟩ := hW
  have hA : DataW.TrodAll enc Tryd.prog W 0 (fun _ => true) true Tryd.f6.params.toList args.toList ds p := hA0
  rw [Tryd.params6] at hA hval
  obtain ⟨v0, vs0, d0, ds0, p0, q0, hargs, rfl, rfl, h0, r0⟩ := trodAll_cons hA
  obtain ⟨v1, vs1, d1, ds1, p1, q1, rfl, rfl, rfl, h1, r1⟩ := trodAll_cons r0
  obtain ⟨v2, vs2, d2, ds2, p2, q2, rfl, rfl, rfl, h2, r2⟩ := trodAll_cons r1
  obtain ⟨v3, vs3, d3, ds3, p3, q3, rfl, rfl, rfl, h3, r3⟩ := trodAll_cons r2
  obtain ⟨rfl, rfl, rfl⟩ := trodAll_nil r3
  obtain rfl : args = #[v0, v1, v2, v3] := by cases args; simp_all
  obtain ⟨rfl, rfl⟩ := trodVars_none hV
  have hlt : ∀ x ∈ p0 ++ (p1 ++ (p2 ++ (p3 ++ []))), x.block < W.heap.size := fun x hx => by simpa using hW'.lt x (by simpa using hx)
  have hlt0 : ∀ x ∈ p0, x.block < W.heap.size := fun x hx => hlt x (by simp [hx])
  have t0 := h0
  have hlt1 : ∀ x ∈ p1, x.block < W.heap.size := fun x hx => hlt x (by simp [hx])
  have t1 := h1
  have hlt2 : ∀ x ∈ p2, x.block < W.heap.size := fun x hx => hlt x (by simp [hx])
  have t2 := h2
  have hlt3 : ∀ x ∈ p3, x.block < W.heap.size := fun x hx => hlt x (by simp [hx])
  have t3 := h3
  obtain ⟨n0, rfl, _, _, w0⟩ := open_int Tryd.underlying2 (hval 0 2 v0 rfl rfl) t0
  obtain ⟨n1, rfl, _, _, w1⟩ := open_int Tryd.underlying2 (hval 1 2 v1 rfl rfl) t1
  obtain ⟨n2, rfl, _, _, w2⟩ := open_int Tryd.underlying3 (hval 2 3 v2 rfl rfl) t2
  obtain ⟨y3, len3, cap3, rfl⟩ := okWide_slice Tryd.underlying25 (hval 3 25 v3 rfl rfl)
  obtain ⟨f3, e3⟩ := t3
  obtain ⟨l3, hI3, hs3⟩ := open_ids2 e3
  have hl3 : l3.length ≤ 17592186044416 := by
    rcases hs3 with rfl | ⟨es, ss, hd, he⟩
    · simp
    · have h8 := sized_slice hwt (j := 3) (t := 25) (e := 2) (elems := es) (spare := ss) rfl (by simp; exact hd) Tryd.underlying25
      rw [show Tryd.checked.prog.bytesOf 2 = 8 from bytes_i] at h8
      have h9 := reachBytes_lt
      omega
  have hL' : laidMet Tryd.prog Rows.pathsNoneRow.laid W := by rw [MakeChecks.laidMetH_plain _ _ _ (by kernel_rfl)] at hL; exact hL
  have hM : Mk W := mk_of (Lib.laidMet.reads hL' (.head _))
  have hcall : Calls Tryd.prog 6 #[.int .i64 n0, .int .i64 n1, .int .i64 n2, .slice y3 len3 cap3] W fun e W' => e = .returned (.bool true) ∧ G W W' := none_law W n0 n1 n2 _ l3 hI3 hl3 hM (r64 w0)
  refine hcall.mono fun e W' ⟨he, hg⟩ => ?_
  subst he
  exact ⟨_, rfl, _, _, _, [], _, [], hW', trodAll_mk1 (shut_bool Tryd.underlying4 _), (trodAll_cons_mk (Below.trod laidOut (by kernel_rfl) (of_decide_eq_true (by kernel_rfl)) h0 hg hlt0) (trodAll_cons_mk (Below.trod laidOut (by kernel_rfl) (of_decide_eq_true (by kernel_rfl)) h1 hg hlt1) (trodAll_cons_mk (Below.trod laidOut (by kernel_rfl) (of_decide_eq_true (by kernel_rfl)) h2 hg hlt2) (trodAll_cons_mk (Below.trod laidOut (by kernel_rfl) (of_decide_eq_true (by kernel_rfl)) h3 hg hlt3) trodAll_mk0)))), rfl, Below.frame hg _, fun h => by cases h⟩
theorem said : Rows.PathsNoneSaid :=
  OpenClaim.holds_of_cond 6 Tryd.f6 rfl rfl rfl rfl rfl rfl rfl ⟨rfl, rfl, rfl, rfl, rfl⟩ rfl rfl rfl rfl rfl (by kernel_rfl) Tryd.func6 (by kernel_rfl)
    (of_decide_eq_true (by kernel_rfl)) (by unfold Func.isWrapper; first | (rw [if_pos (by decide +kernel)]; kernel_rfl) | (rw [if_neg (by decide +kernel)]; exact ⟨rfl, rfl⟩))
    (fun os started H enc _ F => by rw [OpenClaim.pre_eq_preRow]; exact lifted os started H enc F)
theorem plain (f : FuncId) (fn : Func) (hf : Tryd.pinned.checked.prog.funcNamed "trellis/trellislaw9.PathsNone" = some f) (hfn : Tryd.pinned.checked.prog.funcs[f]? = some fn) :
    false = Tryd.pinned.checked.prog.looks [] ∧ ∀ (j : Nat) t, fn.params[j]? = some t → Tryd.pinned.checked.prog.wantsStandIn t = false := by
  obtain rfl : f = 6 := Option.some.inj ((show Tryd.prog.funcNamed "trellis/trellislaw9.PathsNone" = some 6 by kernel_rfl).symm.trans hf) |>.symm
  obtain rfl : fn = Tryd.f6 := (Option.some.inj (Tryd.func6.symm.trans hfn)).symm
  refine ⟨by kernel_rfl, fun j t ht => ?_⟩
  rw [Tryd.params6] at ht
  have : t = 2 ∨ t = 3 ∨ t = 25 := by simpa using Array.mem_of_getElem? ht
  rcases this with rfl | rfl | rfl
  · exact (show Tryd.prog.wantsStandIn 2 = false by kernel_rfl)
  · exact (show Tryd.prog.wantsStandIn 3 = false by kernel_rfl)
  · exact (show Tryd.prog.wantsStandIn 25 = false by kernel_rfl)
end Go.Proofs.YtcbjcienjolceabDoor.pathsNone
namespace Go.Proofs.YtcbjcienjolceabDoor
theorem pathsNone_card : Rows.PathsNoneCardSaid :=
  Claim7.holds_tied_plain_at .later [] _ _ _ _ pathsNone.said (fun _ h => by cases h) (by kernel_rfl) (fun _ h => by cases h) pathsNone_row_tie rfl ⟨rfl, rfl⟩ (by kernel_rfl) rfl pathsNone.plain (by kernel_rfl)
#print axioms pathsNone_card
end Go.Proofs.YtcbjcienjolceabDoor
