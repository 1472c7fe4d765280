/- ValueNames: the row and its tied card. -/
import Derived.Test.YtficmpaeochcgaaGreatDoorRows
import Derived.Test.YtficmpaeochcgaaGreatDoorCards
import Derived.Test.YtficmpaeochcgaaGreatDoorTie
import Derived.Test.YtficmpaeochcgaaGreatDoorScriptOpen
import Derived.Test.YtficmpaeochcgaaGreatDoorNam6
import Derived.Lib.LaidU8T
import Derived.ProofKit
import Derived.LaidMore
import Derived.OpenShut
import Derived.Stop.Joined
import Derived.Lay
import Derived.SevenTiedAt
namespace Go.Proofs.YtficmpaeochcgaaGreatDoor.valueNames
open Go.ChangeShapes Go.WideShapes Go.ChangeAt Go.RowKit Go.Lib Go.Shelf

theorem own : ownKnob Tryz.prog.godebug = none := by kernel_rfl
theorem laidOut : laidOutB Tryz.prog = true := by kernel_rfl
theorem tabs {W : World} (h : laidMet Tryz.prog Rows.valueNamesRow.laid W) : Tabs W :=
  utf8Tabs_of_readsT (U8Types.of196 Tryz.laysValid) ⟨by kernel_rfl, by kernel_rfl, by kernel_rfl, by kernel_rfl, by kernel_rfl, by kernel_rfl, by kernel_rfl⟩
    ((by kernel_rfl : Rows.laid_unicode_utf8_first = firstData) ▸ Lib.laidMet.reads h (.tail _ (.tail _ (.tail _ (.tail _ (.tail _ (.tail _ (.tail _ (.tail _ (.head _))))))))))
    ((by kernel_rfl : Rows.laid_unicode_utf8_acceptRanges (H := Unit) = acceptData) ▸ Lib.laidMet.reads h (.tail _ (.tail _ (.tail _ (.head _)))))
set_option maxRecDepth 100000 in
set_option maxHeartbeats 400000 in
theorem law (v : Value) (W : World) (hT : Tabs W)
    (h : v = .slice none 0 0 ∨ ∃ (b off n cap : Nat) (E : Nat → Ent), v = .slice (some ⟨b, off, none⟩) n cap ∧ n ≤ cap ∧ cap * 216 ≤ reachBytes ∧ Ents W b off n E ∧ ∀ i, i < n → EntOk W (E i)) :
    Calls Tryz.prog 6 #[v] W fun r w' => r = .returned (.bool true) ∧ G W w' := by
  have HU : Hid (Calls Tryz.prog 9 #[v, .int .i64 12, .int .i64 14] W fun r w' => r = .returned (.bool true) ∧ G W w') := by
    rcases h with rfl | ⟨b, off, n, cap, E, rfl, hn, hc, hE, hO⟩
    · exact upto_nil 12 14 W
    · exact upto_some 12 14 b off n cap (by unfold reachBytes at hc; omega) E W hE (fun i hi h1 h2 w' g => names_plays W hT (E i) (hO i hi) h1 h2 w' g)
  clear h
  go_enter Tryz.func6, Tryz.ntmps6
  go_wp2_with fail
  refine HU.out.mono ?_
  rintro e w1 ⟨rfl, hb1⟩
  go_wp2
  go_ret
  exact ⟨rfl, hb1⟩
set_option maxRecDepth 100000 in
theorem lifted (os : Os) (started : os.Started) (H : Type) (enc : TypeId × Value → H) :
    ReturnsInHanded {} Tryz.checked os 6 .any (fun w args => (Rows.valueNamesSpec.pre enc Tryz.prog Tryz.f6 [] false w args ∧ laidMetH Tryz.prog Rows.valueNamesRow.laid w) ∧ sizedMet enc Tryz.prog Tryz.f6 (OpenSpec.ofChange Rows.valueNamesSpec) false w args)
      (Rows.valueNamesSpec.post enc Tryz.prog Tryz.f6 false true false false) := by
  refine returnsInHanded_of_change_and (C := Tryz.checked) (X := fun w _ => laidMetH Tryz.prog Rows.valueNamesRow.laid w) (fun _ _ _ hh h => h.of_heap hh) own started (by kernel_rfl) Tryz.func6
    (ChangeSpec.witness_shaped (enc := enc) (C := Tryz.checked) (os := os) (X := fun w _ => laidMetH Tryz.prog Rows.valueNamesRow.laid w) false (World.laidAll Tryz.prog os Rows.valueNamesRow.laid) #[.slice none 0 0] 8 (World.laidAll_os _ _ _)
      (World.shaped_of_ZipB (by kernel_rfl) (by kernel_rfl)) (by kernel_rfl) (by kernel_rfl) (by kernel_rfl)
      (by rw [MakeChecks.laidMetH_plain _ _ _ (by kernel_rfl)]; exact laidMet_laidAll _ (by kernel_rfl) (by kernel_rfl))) ?_
  intro W base args ds gs before hval0 hW _ hwt hL _
  have hval : ∀ (j : Nat) t v, Tryz.f6.params[j]? = some t → args[j]? = some v → Value.okWide Tryz.prog W .any base t v := hval0
  have hW' := hW
  obtain ⟨p, q, hA0, hV, rfl, _, _⟩ := hW
  have hA : DataW.TrodAll enc Tryz.prog W 0 (fun _ => true) true Tryz.f6.params.toList args.toList ds p := hA0
  rw [Tryz.params6] at hA hval
  obtain ⟨v0, d0, rfl, rfl, h0⟩ := trodAll_one hA
  obtain ⟨rfl, rfl⟩ := trodVars_none hV
  have hlt : ∀ x ∈ p, x.block < W.heap.size := fun x hx => by simpa using hW'.lt x (by simpa using hx)
  have hs : Small 22 d0 := fun n hn => by
    have hm : n ∈ DataW.weightsEach Tryz.prog (Tryz.f6.params.toList ++ Rows.valueNamesSpec.plain.varTypes Tryz.prog) ([d0] ++ []) := by
      rw [Tryz.params6]
      exact DataW.weights_mem_each (j := 0) rfl rfl n hn
    simpa using List.all_eq_true.1 hwt n hm
  have hT : Tabs W := tabs (by rw [MakeChecks.laidMetH_plain _ _ _ (by kernel_rfl)] at hL; exact hL)
  refine (law v0 W hT (open_script (hval 0 22 v0 rfl rfl) h0 hs)).mono fun e W' ⟨he, hg⟩ => ?_
  subst he
  exact ⟨_, rfl, _, _, _, [], p, [], hW', trodAll_mk1 (shut_bool Tryz.underlying4 _), trodAll_mk1 (Below.trod laidOut (by kernel_rfl) (of_decide_eq_true (by kernel_rfl)) h0 hg hlt), rfl, Below.frame hg _, fun h => by cases h⟩

theorem holds : Rows.ValueNamesSaid :=
  OpenClaim.holds_of_wide 6 Tryz.f6 rfl rfl rfl rfl rfl rfl rfl ⟨rfl, rfl, rfl, rfl, rfl⟩ rfl rfl rfl rfl rfl (by kernel_rfl) Tryz.func6 (by kernel_rfl)
    (of_decide_eq_true (by kernel_rfl)) (by unfold Func.isWrapper; first | (rw [if_pos (by decide +kernel)]; kernel_rfl) | (rw [if_neg (by decide +kernel)]; exact ⟨rfl, rfl⟩))
    (fun os started H enc _ => lifted os started H enc)
end Go.Proofs.YtficmpaeochcgaaGreatDoor.valueNames
namespace Go.Proofs.YtficmpaeochcgaaGreatDoor
theorem valueNames_card : Rows.ValueNamesCardSaid :=
  Claim7.holds_tied_plain_at .later [] [.data, .data, .data, .data, .sentinel, .sentinel, .data, .data, .pinned] true (true, "f2ec34e30fe8faa946482ff766652eef005efd3bbfbd40c5abd324339c629c01") true valueNames.holds (fun _ h => by cases h) (by kernel_rfl) (fun _ h => by cases h) valueNames_row_tie rfl ⟨rfl, rfl⟩ (by kernel_rfl) rfl
    (fun f fn hf hfn => by
      obtain rfl : f = 6 := Option.some.inj ((show Tryz.prog.funcNamed "trellis/trellislaw1.ValueNames" = some 6 by kernel_rfl).symm.trans hf) |>.symm
      obtain rfl : fn = Tryz.f6 := (Option.some.inj (Tryz.func6.symm.trans hfn)).symm
      exact ⟨by kernel_rfl, fun j t ht => by
        rw [Tryz.params6] at ht
        have hm : t ∈ [22] := by simpa using Array.mem_of_getElem? ht
        have hall : ([22].all fun u => !Tryz.prog.wantsStandIn u) = true := by kernel_rfl
        exact (show Tryz.prog.wantsStandIn t = false by simpa using List.all_eq_true.1 hall t hm)⟩)
    (by kernel_rfl)
#print axioms valueNames_card
end Go.Proofs.YtficmpaeochcgaaGreatDoor
