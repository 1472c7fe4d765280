/- Paths: the document's each, the walk. -/
import Derived.Test.YtemkilffagjmcaaDoorPz6
namespace Go.Proofs.YtemkilffagjmcaaDoor
open Go.RowKit

/-- The list while the new one goes to its place. -/
def mid (o : List Int) (x : Int) (j : Nat) : List Int := o.take j ++ x :: o.drop j
theorem mid_len {o : List Int} {x : Int} {j : Nat} (h : j ≤ o.length) : (mid o x j).length = o.length + 1 := by
  unfold mid
  simp
  omega
theorem mid_at {o : List Int} {x : Int} {j : Nat} (h : j ≤ o.length) : (mid o x j)[j]? = some x := by
  unfold mid
  rw [List.getElem?_append_right (by simp; omega)]
  simp [Nat.min_eq_left h]
theorem mid_ahead {o : List Int} {x y : Int} {j i : Nat} (hi : i < j) (hy : o[i]? = some y) : (mid o x j)[i]? = some y := by
  have hil := (List.getElem?_eq_some_iff.1 hy).1
  unfold mid
  rw [List.getElem?_append_left (by simp; omega), List.getElem?_take_of_lt hi]
  exact hy
theorem mid_step {o : List Int} {x y : Int} {j : Nat} (hj : j + 1 ≤ o.length) (hy : o[j]? = some y) : ((mid o x (j + 1)).set (j + 1) y).set j x = mid o x j := by
  refine List.ext_getElem? fun q => ?_
  have hl1 := mid_len (x := x) hj
  have hl2 := mid_len (o := o) (x := x) (j := j) (by omega)
  by_cases e1 : q = j
  · subst e1
    rw [List.getElem?_set_self (by rw [List.length_set]; omega), mid_at (by omega)]
  · rw [List.getElem?_set_ne (fun e => e1 e.symm)]
    by_cases e2 : q = j + 1
    · subst e2
      rw [List.getElem?_set_self (by omega)]
      unfold mid
      rw [List.getElem?_append_right (by simp; omega)]
      simp only [List.length_take]
      rw [show j + 1 - min j o.length = 0 + 1 by omega, List.getElem?_cons_succ, List.getElem?_drop, Nat.add_zero]
      exact hy.symm
    · rw [List.getElem?_set_ne (fun e => e2 e.symm)]
      unfold mid
      by_cases hq : q < j
      · rw [List.getElem?_append_left (by simp; omega), List.getElem?_append_left (by simp; omega), List.getElem?_take_of_lt (by omega), List.getElem?_take_of_lt (by omega)]
      · rw [List.getElem?_append_right (by simp; omega), List.getElem?_append_right (by simp; omega)]
        simp only [List.length_take]
        rw [show q - min (j + 1) o.length = (q - j - 2) + 1 by omega, show q - min j o.length = (q - j - 1) + 1 by omega, List.getElem?_cons_succ, List.getElem?_cons_succ, List.getElem?_drop, List.getElem?_drop]
        congr 1
        omega
theorem mid_last (o : List Int) (x : Int) : mid o x o.length = o ++ [x] := by simp [mid]
theorem wsb (j : Nat) (h : j ≤ 17179869184) : wrap64 ((j : Int) + 1 - 1) = (j : Int) ∧ wrap64 (((j + 1 : Nat) : Int) - 1) = (j : Int) ∧ wrap64 (j : Int) = (j : Int) := by unfold wrap64; omega
theorem nsl (a b : Nat) (h : ¬ a < b) : ¬ ((a : Int) < b) := by omega
set_option maxRecDepth 100000 in
set_option maxHeartbeats 4000000 in
theorem each_any (W : World) (v : Value) (nodes : List Int) (hI : Ids W v nodes) (hnl : nodes.length ≤ 1048576) :
    Calls Tryd.prog 36 #[v] W fun e W' => ∃ ov, e = .returned ov ∧ Rw W.heap.size 2 1 W' ov (eachL nodes).length ((eachL nodes).map I) ∧ G W W' := by
  obtain ⟨la, lc, rfl⟩ : ∃ la lc, v = .slice la nodes.length lc := by obtain ⟨a, c, e, -⟩ := hI.at_; exact ⟨a, c, e⟩
  have HI := hide hI
  have HNL := hide hnl
  clear hI hnl
  go_enter Tryd.func36, Tryd.ntmps36
  go_wp2_with fail
  go_loopw [3, 4] (fun ov iv wr => ∃ (i : Nat), iv = I i ∧ i ≤ nodes.length ∧ Rw W.heap.size 2 1 wr ov (eachL (nodes.take i)).length ((eachL (nodes.take i)).map I) ∧ G W wr) (fun _ iv _ => nodes.length - (RowKit.intOf iv).toNat)
  case atStart => exact ⟨0, rfl, Nat.zero_le _, Rw.nil _ _ _ _, G.refl _⟩
  case round =>
    obtain ⟨i, rfl, hi, hrow, hg⟩ := hrel
    by_cases hil : i < nodes.length
    · have hiI : (i : Int) < nodes.length := Int.ofNat_lt.2 hil
      obtain ⟨x, hx⟩ : ∃ x, nodes[i]? = some x := ⟨_, List.getElem?_eq_getElem hil⟩
      obtain ⟨b, off, rfl, -⟩ : ∃ b off, la = some ⟨b, off, none⟩ ∧ True := by
        obtain ⟨a', c', e', -, h1⟩ := HI.out.at_
        simp only [Value.slice.injEq] at e'
        obtain ⟨rfl, -, -⟩ := e'
        rcases h1 with rfl | ⟨b, off, rfl, h2⟩
        · simp at hil
        · exact ⟨b, off, rfl, trivial⟩
      have HCX : Hid (∀ V, G W V → V.cell? ⟨b, off + i, none⟩ = some (I x)) := fun V gV => by
        obtain ⟨a', c', e', -, h1⟩ := (HI.out.G gV).at_
        simp only [Value.slice.injEq] at e'
        obtain ⟨e2, -, -⟩ := e'
        rcases h1 with rfl | ⟨b', off', e3, h2⟩
        · simp at hil
        · rw [← e2] at e3
          cases e3
          rw [h2 i hil, List.getElem?_map, hx]
          rfl
      obtain ⟨o, ho⟩ : ∃ o, o = eachL (nodes.take i) := ⟨_, rfl⟩
      have hol : o.length ≤ 1048576 := by rw [ho]; exact Nat.le_trans (eachL_len _) (Nat.le_trans (by rw [List.length_take]; exact Nat.min_le_right _ _) HNL.out)
      have HNX := hide (eachL_take hx)
      rw [← ho] at hrow HNX
      obtain ⟨oa, oc, rfl⟩ := Rw.form hrow
      have hwi : wrap64 ((i : Int) + 1) = (i : Int) + 1 := wone5 i (Nat.le_trans (Nat.le_of_lt hil) (Nat.le_trans HNL.out (by decide)))
      have HROW := hide hrow
      have HG := hide hg
      have HIL := hide hil
      have HOL := hide hol
      obtain ⟨wo, rfl⟩ : ∃ wo, wo = wr := ⟨_, rfl⟩
      clear hi hrow hg hil hx ho hol
      go_wp2_with fail
      go_loopw [5] (fun kv w1 => ∃ k : Nat, kv = I k ∧ k ≤ o.length ∧ G wo w1 ∧ ∀ (j : Nat) y, j < k → o[j]? = some y → y < x) (fun kv _ => o.length - (RowKit.intOf kv).toNat)
      case atStart => exact ⟨0, rfl, Nat.zero_le _, G.refl _, fun j y h => absurd h (by omega)⟩
      case round =>
        obtain ⟨k, rfl, hk, hg1, hlt⟩ := hrel
        have cx := HCX.out _ (HG.out.trans hg1)
        by_cases hkl : k < o.length
        · have hkI : (k : Int) < o.length := Int.ofNat_lt.2 hkl
          have hkd : decide ((k : Int) < o.length) = true := decide_eq_true hkI
          obtain ⟨y, hy⟩ : ∃ y, o[k]? = some y := ⟨_, List.getElem?_eq_getElem hkl⟩
          obtain ⟨g, cap, hee, -, hce, -⟩ := (Rw.G HROW.out hg1).cell (by omega)
          obtain ⟨rfl, rfl⟩ : oa = some ⟨g, 0, none⟩ ∧ oc = cap := by simp at hee; exact hee
          have ck : wr.cell? ⟨g, k, none⟩ = some (I y) := by rw [hce k (by omega), List.getElem?_map, hy]; rfl
          have hwk : wrap64 ((k : Int) + 1) = (k : Int) + 1 := wone5 k (Nat.le_trans (Nat.le_of_lt hkl) (Nat.le_trans HOL.out (by decide)))
          by_cases hyx : y < x
          · have hyd : decide (y < x) = true := decide_eq_true hyx
            have HKL := hide hkl
            have HG1 := hide hg1
            have HLT : Hid (∀ (j : Nat) z, j < k + 1 → o[j]? = some z → z < x) := fun j z hj hz => by
              by_cases e : j = k
              · rw [e, hy] at hz
                cases hz
                exact hyx
              · exact hlt j z (by omega) hz
            clear hk hg1 hlt hkl hy hee hce
            go_wp2_with fail
            go_quiet (fail)
            go_wp2_with fail
            go_roundw
            case rel => (try rw [hwk]); exact ⟨k + 1, by simp, HKL.out, HG1.out.trans (g_drewN _ _), HLT.out⟩
            case measure => (try rw [hwk]); simp only [RowKit.intOf]; exact ms5 HKL.out
          · have hyd : decide (y < x) = false := decide_eq_false hyx
            by_cases heq : y = x
            · have heb : (y == x) = true := by simpa using heq
              have HOLD : Hid (insU x o = o) := insU_old hlt (by rw [← heq]; exact hy)
              have HG1 := hide (HG.out.trans hg1)
              have HR1 := hide (Rw.G HROW.out hg1)
              clear hk hg1 hlt hkl hy hee hce
              go_wp2_with fail
              go_quiet (fail)
              go_wp2_with fail
              go_quiet (fail)
              go_wp2_with fail
              go_roundw
              case rel =>
                (try rw [hwi])
                refine ⟨i + 1, by simp, HIL.out, ?_, HG1.out.trans (g_drewN _ _)⟩
                rw [HNX.out, HOLD.out]
                exact Rw.G HR1.out (g_drewN _ _)
              case measure => (try rw [hwi]); simp only [RowKit.intOf]; exact ms5 HIL.out
            · have heb : (y == x) = false := beq_eq_false_iff_ne.2 heq
              have HNEW : Hid (insU x o = mid o x k) := insU_new hk hlt (fun z hz => by rw [hy] at hz; cases hz; omega)
              clear hkl hy hee hce
              have HK := hide hk
              have HG1 := hide hg1
              clear hk hg1 hlt
              go_wp2_with fail
              go_quiet (fail)
              go_wp2_with fail
              go_quiet (fail)
              generalize hw2 : World.drewN (World.drewN wr _) _ = w2
              have HG2 : Hid (G wo w2) := by rw [← hw2]; exact HG1.out.trans ((g_drewN _ _).trans (g_drewN _ _))
              clear hw2 cx
              have cx := HCX.out _ (HG.out.trans HG2.out)
              have gA : G w2 (w2.alloc (.cells #[I x] 2)) := (G.refl w2).alloc _
              obtain ⟨v', w', q1, q2, q3, q4⟩ := app_I (w2.alloc (.cells #[I x] 2)) W.heap.size (.slice (some ⟨g, 0, none⟩) o.length oc) o.length (o.map I) (Rw.G HROW.out (HG2.out.trans gA)) ⟨w2.heap.size, 0, none⟩ 1 1 [I x] rfl (fun j u hj => by rw [Addr.add_mid, Nat.zero_add, (Blk.new w2 [I x] 2).cell]; exact hj) (fun u hu => by simp at hu; subst hu; rfl) (by have := HOL.out; omega) (((HG.out.trans HG2.out).trans gA).size)
              have HRUN := hide q1
              have HROW2 : Hid (Rw W.heap.size 2 1 w' v' (o.length + 1) ((mid o x o.length).map I)) := by
                show Rw _ _ _ _ _ _ _
                rw [mid_last, List.map_append]
                exact q2
              have HG3 : Hid (G W w') := (((HG.out.trans HG2.out).trans gA).chg (F := fun _ => False)).more q3 (fun i hi e => by have := (Rw.own HROW.out e).1; omega) |>.G (fun _ q => q.elim)
              obtain ⟨va', vc', rfl⟩ := Rw.form q2
              obtain ⟨z1, z2, z3⟩ := wsb o.length (Nat.le_trans HOL.out (by decide))
              clear q1 q2 q3 q4 gA
              go_wp2_with (first | (at_builtin; refine wpList_append_run rfl _ _ 23 rfl (.slice (some ⟨g, 0, none⟩) o.length oc) (.slice (some ⟨w2.heap.size, 0, none⟩) 1 1) rfl rfl HRUN.out ?_) | fail)
              (try rw [z3])
              clear z1 z2 z3 cx
              go_loopw [6] (fun jv w4 => ∃ j : Nat, jv = I j ∧ k ≤ j ∧ j ≤ o.length ∧ Rw W.heap.size 2 1 w4 (.slice va' (o.length + 1) vc') (o.length + 1) ((mid o x j).map I) ∧ G W w4) (fun jv _ => (RowKit.intOf jv).toNat)
              case atStart => exact ⟨o.length, rfl, HK.out, Nat.le_refl _, HROW2.out, HG3.out⟩
              case round =>
                obtain ⟨j, rfl, hkj, hjo, hrow4, hg4⟩ := hrel
                by_cases hj : k < j
                · have hjI : (k : Int) < j := Int.ofNat_lt.2 hj
                  have hjd : decide ((k : Int) < j) = true := decide_eq_true hjI
                  obtain ⟨j', hj'⟩ : ∃ j', j = j' + 1 := ⟨j - 1, by omega⟩
                  obtain ⟨y', hy'⟩ : ∃ y', o[j']? = some y' := ⟨_, List.getElem?_eq_getElem (by omega)⟩
                  have hml := mid_len (o := o) (x := x) hjo
                  obtain ⟨g4, cap4, rest4, heq4, hlg4, hblk4, hlen4⟩ := hrow4.blk (by omega)
                  obtain ⟨rfl, rfl⟩ : va' = some ⟨g4, 0, none⟩ ∧ vc' = cap4 := by simp at heq4; exact heq4
                  have hz := hblk4.frozen
                  have cj : wr.cell? ⟨g4, j, none⟩ = some (I x) := by rw [hblk4.cell, List.getElem?_append_left (by rw [List.length_map]; omega), List.getElem?_map, mid_at hjo]; rfl
                  have ci : wr.cell? ⟨g4, j', none⟩ = some (I y') := by rw [hblk4.cell, List.getElem?_append_left (by rw [List.length_map]; omega), List.getElem?_map, mid_ahead (by omega) hy']; rfl
                  have hz2 := (hblk4.set j (I y')).frozen
                  have ci2 : (wr.setCell ⟨g4, j, none⟩ (I y')).cell? ⟨g4, j', none⟩ = some (I y') := by
                    have hne : j ≠ j' := by omega
                    rw [(hblk4.set j (I y')).cell, List.getElem?_set_ne hne, ← hblk4.cell]; exact ci
                  have wj : wrap64 ((j : Int) - 1) = (j' : Int) := by rw [hj']; exact (wsb j' (by have := HOL.out; omega)).2.1
                  have b1 : (j : Int) < (o.length : Int) + 1 := by omega
                  have b2 : (j' : Int) < (o.length : Int) + 1 := by omega
                  have HREL : Hid (∃ j2 : Nat, I (j' : Int) = I j2 ∧ k ≤ j2 ∧ j2 ≤ o.length ∧ Rw W.heap.size 2 1 ((wr.setCell ⟨g4, j, none⟩ (I y')).setCell ⟨g4, j', none⟩ (I x)).drew (.slice (some ⟨g4, 0, none⟩) (o.length + 1) vc') (o.length + 1) ((mid o x j2).map I) ∧ G W ((wr.setCell ⟨g4, j, none⟩ (I y')).setCell ⟨g4, j', none⟩ (I x)).drew) := by
                    refine ⟨j', rfl, by omega, by omega, ?_, ((hg4.setCell (p := ⟨g4, j, none⟩) hlg4 _).setCell (p := ⟨g4, j', none⟩) hlg4 _).drew⟩
                    have e3 : mid o x j' = ((mid o x j).set j y').set j' x := by rw [hj']; exact (mid_step (by omega) hy').symm
                    rw [e3, List.map_set, List.map_set]
                    exact Rw.G (Rw.set (Rw.set hrow4 j (by omega) (I y')) j' (by omega) (I x)) (G.drew (G.refl _))
                  have HMS : Hid (j' < j) := by show _ < _; omega
                  clear hkj hjo hrow4 hg4 hj hj' hy' hml heq4 hlg4 hblk4 hlen4
                  go_wp2_with fail
                  go_region
                  go_wp2_with fail
                  go_roundw
                  case rel => (try rw [wj]); exact HREL.out
                  case measure => (try rw [wj]); simp only [RowKit.intOf, Int.toNat_natCast]; exact HMS.out
                · have hjI : ¬ ((k : Int) < j) := nsl k j hj
                  have hjd : decide ((k : Int) < j) = false := decide_eq_false hjI
                  obtain rfl : j = k := by omega
                  have HRW : Hid (Rw W.heap.size 2 1 wr (.slice va' (o.length + 1) vc') (eachL (nodes.take (i + 1))).length ((eachL (nodes.take (i + 1))).map I)) := by
                    show Rw _ _ _ _ _ _ _
                    rw [HNX.out, HNEW.out, mid_len hjo]
                    exact hrow4
                  have HG4 := hide hg4
                  clear hkj hjo hrow4 hg4 hj
                  go_wp2_with fail
                  go_roundw
                  case rel => (try rw [hwi]); exact ⟨i + 1, by simp, HIL.out, HRW.out, HG4.out⟩
                  case measure => (try rw [hwi]); simp only [RowKit.intOf]; exact ms5 HIL.out
        · obtain rfl : k = o.length := Nat.le_antisymm hk (Nat.le_of_not_lt hkl)
          have HNEW : Hid (insU x o = mid o x o.length) := insU_new hk hlt (fun z hz => absurd (List.getElem?_eq_some_iff.1 hz).1 hkl)
          clear hkl
          have HK := hide hk
          have HG1 := hide hg1
          clear hk hg1 hlt
          go_wp2_with fail
          go_quiet (fail)
          go_wp2_with fail
          go_quiet (fail)
          generalize hw2 : World.drewN (World.drewN wr _) _ = w2
          have HG2 : Hid (G wo w2) := by rw [← hw2]; exact HG1.out.trans ((g_drewN _ _).trans (g_drewN _ _))
          clear hw2 cx
          have cx := HCX.out _ (HG.out.trans HG2.out)
          have gA : G w2 (w2.alloc (.cells #[I x] 2)) := (G.refl w2).alloc _
          obtain ⟨v', w', q1, q2, q3, q4⟩ := app_I (w2.alloc (.cells #[I x] 2)) W.heap.size (.slice oa o.length oc) o.length (o.map I) (Rw.G HROW.out (HG2.out.trans gA)) ⟨w2.heap.size, 0, none⟩ 1 1 [I x] rfl (fun j u hj => by rw [Addr.add_mid, Nat.zero_add, (Blk.new w2 [I x] 2).cell]; exact hj) (fun u hu => by simp at hu; subst hu; rfl) (by have := HOL.out; omega) (((HG.out.trans HG2.out).trans gA).size)
          have HRUN := hide q1
          have HROW2 : Hid (Rw W.heap.size 2 1 w' v' (o.length + 1) ((mid o x o.length).map I)) := by
            show Rw _ _ _ _ _ _ _
            rw [mid_last, List.map_append]
            exact q2
          have HG3 : Hid (G W w') := (((HG.out.trans HG2.out).trans gA).chg (F := fun _ => False)).more q3 (fun i hi e => by have := (Rw.own HROW.out e).1; omega) |>.G (fun _ q => q.elim)
          obtain ⟨va', vc', rfl⟩ := Rw.form q2
          obtain ⟨z1, z2, z3⟩ := wsb o.length (Nat.le_trans HOL.out (by decide))
          clear q1 q2 q3 q4 gA
          go_wp2_with (first | (at_builtin; refine wpList_append_run rfl _ _ 23 rfl (.slice oa o.length oc) (.slice (some ⟨w2.heap.size, 0, none⟩) 1 1) rfl rfl HRUN.out ?_) | fail)
          (try rw [z3])
          clear z1 z2 z3 cx
          go_loopw [6] (fun jv w4 => ∃ j : Nat, jv = I j ∧ o.length ≤ j ∧ j ≤ o.length ∧ Rw W.heap.size 2 1 w4 (.slice va' (o.length + 1) vc') (o.length + 1) ((mid o x j).map I) ∧ G W w4) (fun jv _ => (RowKit.intOf jv).toNat)
          case atStart => exact ⟨o.length, rfl, HK.out, Nat.le_refl _, HROW2.out, HG3.out⟩
          case round =>
            obtain ⟨j, rfl, hkj, hjo, hrow4, hg4⟩ := hrel
            obtain rfl : j = o.length := Nat.le_antisymm hjo hkj
            have HRW : Hid (Rw W.heap.size 2 1 wr (.slice va' (o.length + 1) vc') (eachL (nodes.take (i + 1))).length ((eachL (nodes.take (i + 1))).map I)) := by
              show Rw _ _ _ _ _ _ _
              rw [HNX.out, HNEW.out, mid_len hjo]
              exact hrow4
            have HG4 := hide hg4
            clear hkj hjo hrow4 hg4
            go_wp2_with fail
            go_roundw
            case rel => (try rw [hwi]); exact ⟨i + 1, by simp, HIL.out, HRW.out, HG4.out⟩
            case measure => (try rw [hwi]); simp only [RowKit.intOf]; exact ms5 HIL.out
    · have hiI : ¬ ((i : Int) < nodes.length) := nsl i _ hil
      obtain rfl : i = nodes.length := Nat.le_antisymm hi (Nat.le_of_not_lt hil)
      rw [List.take_length] at hrow
      obtain ⟨oa, oc, rfl⟩ := Rw.form hrow
      have HROW := hide hrow
      have HG := hide hg
      clear hi hrow hg hil
      go_wp2_with fail
      go_ret
      exact ⟨_, rfl, HROW.out, HG.out⟩
end Go.Proofs.YtemkilffagjmcaaDoor
