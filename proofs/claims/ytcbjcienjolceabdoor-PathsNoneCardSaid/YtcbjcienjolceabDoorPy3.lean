/- PathsNone: the walk. -/
import Derived.Test.YtcbjcienjolceabDoorPy1
import Derived.Test.YtcbjcienjolceabDoorPy2
namespace Go.Proofs.YtcbjcienjolceabDoor
open Go.RowKit

theorem srch_same (rs : List Nr) (from_ : Int) : srch false rs false (some from_) (-1) 4097 [] [(from_, 0)] [] = ⟨[(from_, 0)], [], 0, true⟩ := by
  have e : nextI [((from_, 0) : Sn)] = 0 := rfl
  rw [srch]
  simp [e]
theorem self_any (Wb W : World) (sh : Nat) (from_ : Int) (sn : Shn Wb W sh (.slice none 0 0) [] false (.slice none 0 0) (.slice none 0 0) [] []) (hf : R64 from_) :
    Calls Tryd.prog 21 #[.func (.func 9) #[ptr sh] #[], I from_, I from_] W fun e W' => ∃ nv ev av gv, e = .returned (.tuple #[.agg #[I 0, nv, ev], .bool true, I 0]) ∧ Rw W.heap.size 2 1 W' nv [from_].length ([from_].map I) ∧ Rw W.heap.size 2 1 W' ev ([] : List Int).length (([] : List Int).map I) ∧ Blk W' sh 29 [.slice none 0 0, .bool false, av, gv] ∧ Rw Wb.heap.size 2 1 W' av 0 [] ∧ G Wb W' := by
  refine (least_any Wb W sh (.slice none 0 0) [] false _ _ from_ from_ [] [] (by simp) sn hf (by simp) (fun id => by simp [netOf]) _ rfl).mono ?_
  rintro e W' ⟨av', gv', gl', hsn, -, -, hres⟩
  rw [srch_same] at hsn hres
  rcases hres with ⟨hh, -⟩ | ⟨-, -, fs, i, x, st, nv, ev, hx, hxn, hst, hO, rfl, hrn, hre, -⟩
  · cases hh
  · have hl0 : st = [] := by
      have := congrArg List.length hst
      simp at this
      exact this
    subst hl0
    have hfs := hO.one rfl
    subst hfs
    have hil := (List.getElem?_eq_some_iff.1 hx).1
    have hi0 : i = 0 := by simp at hil; exact hil
    subst hi0
    simp at hx
    subst hx
    refine ⟨nv, ev, av', gv', rfl, ?_, ?_, hsn.blk, ?_, hsn.g⟩
    · simpa [wayL] using hrn
    · simpa [wayL] using hre
    · simpa using hsn.ask
set_option maxRecDepth 100000 in
set_option maxHeartbeats 2000000 in
theorem none_law (W : World) (from_ to_ most : Int) (v : Value) (l : List Int) (hI : Ids W v l) (hl : l.length ≤ 17592186044416) (hM : Mk W) (hf : R64 from_) :
    Calls Tryd.prog 6 #[I from_, I to_, I most, v] W fun e W' => e = .returned (.bool true) ∧ G W W' := by
  obtain ⟨la, lc, rfl⟩ : ∃ la lc, v = .slice la l.length lc := by obtain ⟨a, c, e, -⟩ := hI.at_; exact ⟨a, c, e⟩
  have gC : G W (W.alloc (.cells #[.slice none 0 0, .bool false, .slice none 0 0, .slice none 0 0] 29)) := (G.refl W).alloc _
  have hsn : Shn W (W.alloc (.cells #[.slice none 0 0, .bool false, .slice none 0 0, .slice none 0 0] 29)) W.heap.size (.slice none 0 0) [] false (.slice none 0 0) (.slice none 0 0) [] [] :=
    ⟨gC, Blk.new W [.slice none 0 0, .bool false, .slice none 0 0, .slice none 0 0] 29, Rw.nil _ _ _ _, Rw.nil _ _ _ _, rfl, fun i id v h => by simp at h, ⟨none, 0, rfl, .inl rfl⟩, Nat.le_refl _, hM⟩
  have HSF := hide (self_any W _ _ from_ hsn hf)
  have HI := hide hI
  have HL := hide hl
  clear hI hl hM hf gC hsn
  go_enter Tryd.func6, Tryd.ntmps6
  go_wp2_with fail
  refine HSF.out.mono ?_
  rintro e w1 ⟨nv, ev, av, gv, rfl, hrn, hre, hbs, hra, hg1⟩
  obtain ⟨sh, hsh⟩ : ∃ sh, sh = W.heap.size := ⟨_, rfl⟩
  rw [← hsh] at hbs ⊢
  clear hsh
  obtain ⟨na, nc, rfl⟩ := Rw.form hrn
  obtain ⟨qa, qc, rfl⟩ := Rw.form hre
  obtain ⟨va, vc, rfl⟩ := Rw.form hra
  obtain ⟨w2, hw2⟩ : ∃ w2, w2 = w1.alloc (.cells #[I 0, .slice na 1 nc, .slice qa 0 qc] 57) := ⟨_, rfl⟩
  obtain ⟨wb, hwb⟩ : ∃ wb, wb = w1.heap.size := ⟨_, rfl⟩
  have g12 : G w1 w2 := by rw [hw2]; exact (G.refl w1).alloc _
  have hb2 : Blk w2 wb 57 [I 0, .slice na 1 nc, .slice qa 0 qc] := by rw [hw2, hwb]; exact Blk.new w1 [I 0, .slice na 1 nc, .slice qa 0 qc] 57
  obtain ⟨w3, hw3⟩ : ∃ w3, w3 = w2.alloc (.cells #[I from_] 2) := ⟨_, rfl⟩
  have g23 : G w2 w3 := by rw [hw3]; exact (G.refl w2).alloc _
  have hb3 : Blk w3 w2.heap.size 2 [I from_] := by rw [hw3]; exact Blk.new w2 [I from_] 2
  have hmx : (1 : Nat) ≤ maxLen := of_decide_eq_true (by kernel_rfl)
  have hr3 : Rw w2.heap.size 2 1 w3 (.slice (some ⟨w2.heap.size, 0, none⟩) 1 1) [from_].length ([from_].map I) := ⟨by simp, .inr ⟨w2.heap.size, 1, _, rfl, Nat.le_refl _, hb3.h, Nat.le_refl _, hmx, by simp, by simp⟩⟩
  have HWE := hide (way_eq w3 _ _ _ 0 0 (.slice na 1 nc) (.slice (some ⟨w2.heap.size, 0, none⟩) 1 1) (.slice qa 0 qc) (.slice none 0 0) [from_] [] (Rw.G (Rw.G hrn g12) g23) hr3 (Rw.G (Rw.G hre g12) g23) (Rw.nil _ _ _ _) (by simp) (by simp))
  have HG3 := hide (hg1.trans (g12.trans g23))
  have HBS := hide ((hbs.G g12).G g23)
  have d2 := hb2.cell
  rw [hw2, hwb] at d2
  rw [hw3, hw2, World.size_alloc] at HWE
  clear hrn hre hbs hra hg1 hb2 hb3 hr3 g12 g23 HSF
  go_wp2_with fail
  refine HWE.out.mono ?_
  rw [← hw2, ← hw3]
  rintro e w4 ⟨rfl, hg4⟩
  have s4 := (HBS.out.G hg4).cell
  have HG4 := hide (HG3.out.trans hg4)
  have HN1 := hide (least_nil w4 from_ to_)
  clear hg4 HWE d2 hw2 hw3 hwb HBS
  go_wp2_with fail
  refine HN1.out.mono ?_
  rintro e w5 ⟨rfl, hg5⟩
  have gB : G w5 (w5.alloc (.cells #[I 0, .slice none 0 0, .slice none 0 0] 57)) := (G.refl w5).alloc _
  have d5 := (Blk.new w5 [I 0, .slice none 0 0, .slice none 0 0] 57).cell
  have HG5 := hide ((HG4.out.trans hg5).trans gB)
  have HWN := hide (way_eq (w5.alloc (.cells #[I 0, .slice none 0 0, .slice none 0 0] 57)) 0 0 0 0 0 (.slice none 0 0) (.slice none 0 0) (.slice none 0 0) (.slice none 0 0) [] [] (Rw.nil _ _ _ _) (Rw.nil _ _ _ _) (Rw.nil _ _ _ _) (Rw.nil _ _ _ _) (by simp) (by simp))
  clear hg5 gB HN1 s4
  go_wp2_with fail
  refine HWN.out.mono ?_
  rintro e w6 ⟨rfl, hg6⟩
  have HG6 := hide (HG5.out.trans hg6)
  have HN2 := hide (hops_nil w6 from_ to_)
  clear hg6 HWN d5
  go_wp2_with fail
  refine HN2.out.mono ?_
  rintro e w7 ⟨rfl, hg7⟩
  have HG7 := hide (HG6.out.trans hg7)
  have HN3 := hide (reach_nil w7 from_ most)
  clear hg7 HN2
  go_wp2_with fail
  refine HN3.out.mono ?_
  rintro e w8 ⟨rfl, hg8⟩
  have HG8 := hide (HG7.out.trans hg8)
  have HCP := hide (copy_any w8 _ l (HI.out.G HG8.out) HL.out)
  clear hg8 HN3
  go_wp2_with fail
  refine HCP.out.mono ?_
  rintro e w9 ⟨u9, rfl, hr9, hg9⟩
  obtain ⟨ua, uc, rfl⟩ := Rw.form hr9
  have HG9 := hide (HG8.out.trans hg9)
  have HN4 := hide (order_nil w9 ua l.length uc)
  clear hg9 hr9 HCP
  go_wp2_with fail
  refine HN4.out.mono ?_
  rintro e w10 ⟨rfl, hg10⟩
  have HG10 := hide (HG9.out.trans hg10)
  have HCQ := hide (copy_any w10 _ l (HI.out.G HG10.out) HL.out)
  clear hg10 HN4
  go_wp2_with fail
  refine HCQ.out.mono ?_
  rintro e w11 ⟨u11, rfl, hr11, hg11⟩
  obtain ⟨xa, xc, rfl⟩ := Rw.form hr11
  have HG11 := hide (HG10.out.trans hg11)
  have HN5 := hide (parts_nil w11 xa l.length xc)
  clear hg11 hr11 HCQ
  go_wp2_with fail
  refine HN5.out.mono ?_
  rintro e w12 ⟨rfl, hg12⟩
  have HG12 := hide (HG11.out.trans hg12)
  have HN6 := hide (heap_nil w12)
  clear hg12 HN5
  go_wp2_with fail
  refine HN6.out.mono ?_
  rintro e w13 ⟨rfl, hg13⟩
  have HG13 := hide (HG12.out.trans hg13)
  have HN7 := hide (len_nil w13)
  clear hg13 HN6
  go_wp2_with fail
  refine HN7.out.mono ?_
  rintro e w14 ⟨rfl, hg14⟩
  have HG14 := hide (HG13.out.trans hg14)
  have HN8 := hide (push_nil w14 from_)
  clear hg14 HN7
  go_wp2_with fail
  refine HN8.out.mono ?_
  rintro e w15 ⟨rfl, hg15⟩
  have HG15 := hide (HG14.out.trans hg15)
  have HN9 := hide (pop_nil w15)
  clear hg15 HN8
  go_wp2_with fail
  refine HN9.out.mono ?_
  rintro e w16 ⟨rfl, hg16⟩
  have HG16 := hide (HG15.out.trans hg16)
  have HNA := hide (len_nil w16)
  clear hg16 HN9
  go_wp2_with fail
  refine HNA.out.mono ?_
  rintro e w17 ⟨rfl, hg17⟩
  have HG17 := hide (HG16.out.trans hg17)
  clear hg17 HNA
  go_wp2_with fail
  go_ret
  exact ⟨rfl, HG17.out⟩
end Go.Proofs.YtcbjcienjolceabDoor
