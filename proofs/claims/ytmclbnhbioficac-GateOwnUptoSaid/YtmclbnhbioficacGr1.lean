/- The document's gate: at, without, Ids; same of two lists. -/
import Derived.Test.YtmclbnhbioficacGh1
namespace Go.Proofs.Ytmclbnhbioficac
open Go.RowKit

abbrev SwO := Sw eT 65
theorem info_O : ∃ i, Try.prog.info? 65 = some i ∧ i.zero = some (.agg #[I 0, I 0, I 0]) ∧ i.size = 3 ∧ i.bytes = 24 := info_parts (by kernel_rfl)
set_option maxRecDepth 100000 in
set_option maxHeartbeats 1000000 in
theorem at_yes (l : List It) (v : Value) (id : Int) (k : Nat) (W : World) (h : SwO W v l) (hk : (l.map (·.1.1))[k]? = some id) (hf : ∀ j, j < k → (l.map (·.1.1))[j]? ≠ some id) (hm : l.length ≤ 1000) :
    Calls Try.prog 37 #[v, I id] W fun e W' => e = .returned (I k) ∧ W' = W := by
  have hkl : k < l.length := by simpa using (List.getElem?_eq_some_iff.1 hk).1
  obtain ⟨g, cap, rfl⟩ := h.slice (by omega)
  have HS := hide h
  have HF := hide hf
  have HID := hide hk
  have HK := hide hkl
  have HM := hide hm
  clear h hf hk hkl hm
  go_enter Try.func37, Try.ntmps37
  go_wp2_with fail
  go_loopw [5] (fun iv wr => ∃ i : Nat, iv = I i ∧ i ≤ k ∧ wr = W) (fun iv _ => k - (RowKit.intOf iv).toNat)
  case atStart => exact ⟨0, rfl, Nat.zero_le _, rfl⟩
  case round =>
    obtain ⟨i, rfl, hik, hwr⟩ := hrel
    have hil : i < l.length := Nat.lt_of_le_of_lt hik HK.out
    obtain ⟨y, hy⟩ : ∃ y, l[i]? = some y := ⟨_, List.getElem?_eq_getElem hil⟩
    have x1 : wr.cell? ⟨g, i * 3, none⟩ = some (I y.1.1) := by
      rw [hwr]
      have := HS.out.at hy 0 (by decide)
      simpa using this
    have i1 : (i : Int) < l.length := Int.ofNat_lt.2 hil
    have hyi : (l.map (·.1.1))[i]? = some y.1.1 := by rw [List.getElem?_map, hy]; rfl
    have HWR := hide hwr
    by_cases e : i = k
    · have hid : y.1.1 = id := by
        have h1 := HID.out
        rw [← e, hyi] at h1
        exact Option.some.inj h1
      rw [hid] at x1
      have HE := hide e
      clear hik hil e hy hyi hid hwr
      go_wp2_with fail
      go_ret
      have hik := HE.out
      subst hik
      exact ⟨rfl, HWR.out⟩
    · have hne : (y.1.1 == id) = false := beq_eq_false_iff_ne.2 (fun q => HF.out i (by omega) (by rw [hyi, q]))
      have HR : Hid (i + 1 ≤ k) := by show _ ≤ _; omega
      have HW : Hid (wrap64 ((i : Int) + 1) = (i : Int) + 1) := by show _ = _; have := HM.out; unfold wrap64; omega
      have HMS : Hid (i < k) := by show _ < _; omega
      clear hik hil e hy hyi hwr
      go_wp2_with fail
      rw [HW.out]
      go_roundw
      case rel => exact ⟨i + 1, rfl, HR.out, HWR.out⟩
      case measure => simp only [RowKit.intOf]; have := HMS.out; omega
set_option maxRecDepth 100000 in
set_option maxHeartbeats 1000000 in
theorem at_no (l : List It) (v : Value) (id : Int) (W : World) (h : SwO W v l) (hf : id ∉ l.map (·.1.1)) (hm : l.length ≤ 1000) :
    Calls Try.prog 37 #[v, I id] W fun e W' => e = .returned (I (-1)) ∧ W' = W := by
  obtain ⟨a, c, rfl⟩ := h.form
  have HS := hide h
  have HF := hide hf
  have HM := hide hm
  clear h hf hm
  go_enter Try.func37, Try.ntmps37
  go_wp2_with fail
  go_loopw [5] (fun iv wr => ∃ i : Nat, iv = I i ∧ i ≤ l.length ∧ wr = W) (fun iv _ => l.length - (RowKit.intOf iv).toNat)
  case atStart => exact ⟨0, rfl, Nat.zero_le _, rfl⟩
  case round =>
    obtain ⟨i, rfl, hik, hwr⟩ := hrel
    have HWR := hide hwr
    by_cases hil : i < l.length
    · obtain ⟨y, hy⟩ : ∃ y, l[i]? = some y := ⟨_, List.getElem?_eq_getElem hil⟩
      obtain ⟨g, cap, q⟩ := HS.out.slice (by omega)
      injection q with q1 q2 q3
      subst q1 q3
      have x1 : wr.cell? ⟨g, i * 3, none⟩ = some (I y.1.1) := by
        rw [hwr]
        have := HS.out.at hy 0 (by decide)
        simpa using this
      have i1 : (i : Int) < l.length := Int.ofNat_lt.2 hil
      have hne : (y.1.1 == id) = false := beq_eq_false_iff_ne.2 (fun q => HF.out (List.mem_map.2 ⟨y, List.mem_of_getElem? hy, q⟩))
      have HR : Hid (i + 1 ≤ l.length) := by show _ ≤ _; omega
      have HW : Hid (wrap64 ((i : Int) + 1) = (i : Int) + 1) := by show _ = _; have := HM.out; unfold wrap64; omega
      have HMS : Hid (i < l.length) := hil
      clear hik hil hy q2 hwr
      go_wp2_with fail
      rw [HW.out]
      go_roundw
      case rel => exact ⟨i + 1, rfl, HR.out, HWR.out⟩
      case measure => simp only [RowKit.intOf]; have := HMS.out; omega
    · have i1 : ¬ ((i : Int) < l.length) := by omega
      clear hik hil hwr
      go_wp2_with fail
      go_ret
      exact ⟨rfl, HWR.out⟩
theorem nd_first {l : List Int} (h : l.Nodup) {k : Nat} {id : Int} (hk : l[k]? = some id) : ∀ j, j < k → l[j]? ≠ some id := fun j hj e => by
  obtain ⟨a1, a2⟩ := List.getElem?_eq_some_iff.1 hk
  obtain ⟨b1, b2⟩ := List.getElem?_eq_some_iff.1 e
  have := (List.getElem_inj (h₀ := b1) (h₁ := a1) h).1 (b2.trans a2.symm)
  omega
set_option maxRecDepth 100000 in
set_option maxHeartbeats 1000000 in
theorem ids_any (l : List It) (v : Value) (W : World) (h : SwO W v l) (hm : l.length ≤ 1000) :
    Calls Try.prog 31 #[v] W fun e W' => ∃ v', e = .returned v' ∧ SwI W' v' (l.map (·.1.1)) ∧ G W W' ∧ Fresh W v' := by
  obtain ⟨a, c, rfl⟩ := h.form
  have HS := hide h
  have HM := hide hm
  clear h hm
  go_enter Try.func31, Try.ntmps31
  go_wp2_with fail
  go_loopw [4, 3] (fun iv ov wr => ∃ i : Nat, iv = I i ∧ i ≤ l.length ∧ SwI wr ov ((l.take i).map (·.1.1)) ∧ G W wr ∧ Fresh W ov) (fun iv _ _ => l.length - (RowKit.intOf iv).toNat)
  case atStart => exact ⟨0, rfl, Nat.zero_le _, Sw.nil _ _ _, G.refl _, fun k e => by simp [Value.ownBlock] at e⟩
  case round =>
    obtain ⟨i, rfl, hik, hs, hg, hfr⟩ := hrel
    by_cases hil : i < l.length
    · obtain ⟨y, hy⟩ : ∃ y, l[i]? = some y := ⟨_, List.getElem?_eq_getElem hil⟩
      obtain ⟨g, cap, q⟩ := HS.out.slice (by omega)
      injection q with q1 q2 q3
      subst q1 q3
      have x1 : wr.cell? ⟨g, i * 3, none⟩ = some (I y.1.1) := by
        have := (HS.out.G hg).at hy 0 (by decide)
        simpa using this
      have x2 : wr.cell? ⟨g, i * 3 + 1, none⟩ = some (I y.1.2) := by
        have := (HS.out.G hg).at hy 1 (by decide)
        simpa using this
      have x3 : wr.cell? ⟨g, i * 3 + 2, none⟩ = some (I y.2) := by
        have := (HS.out.G hg).at hy 2 (by decide)
        simpa using this
      have i1 : (i : Int) < l.length := Int.ofNat_lt.2 hil
      have HW : Hid (wrap64 ((i : Int) + 1) = (i : Int) + 1) := by show _ = _; have := HM.out; unfold wrap64; omega
      have hA := (G.refl wr).alloc (.cells #[I y.1.1] 3)
      have HIL := hide hil
      obtain ⟨i0, hi0, hz0, hz1, hz2⟩ := info_I
      obtain ⟨v', w', hrun, hs', hap⟩ := app_one (P := Try.prog) (ts := 33) i0 _ 8 Try.underlying33 hi0 hz0 hz1 hz2 rfl (by decide) (hs.G hA) ⟨wr.heap.size, 0, none⟩ 1 y.1.1 (fun j u hj => by
        have h1 := (Blk.new wr [I y.1.1] 3).cell j
        rw [Addr.add_mid, Nat.zero_add]
        rw [hj] at h1
        exact h1) (by rw [List.length_map, List.length_take]; have := HM.out; have hmx : (1001 : Nat) ≤ maxLen := of_decide_eq_true (by kernel_rfl); omega) (by rw [List.length_map, List.length_take]; have := HM.out; omega)
      have HRUN := hide hrun
      obtain ⟨hch, hob⟩ := Chg.app hap
      have e1 : ((l.take i).map (·.1.1)) ++ [y.1.1] = (l.take (i + 1)).map (·.1.1) := by
        rw [List.take_add_one, hy, List.map_append]; rfl
      rw [e1] at hs'
      have hsz := (hg.trans hA).size
      have HR : Hid (∃ u, v' = u ∧ SwI w' u ((l.take (i + 1)).map (·.1.1)) ∧ G W w' ∧ Fresh W u) := ⟨v', rfl, hs', ⟨hch.os.trans hg.os, hch.tape.trans hg.tape, hch.output.trans hg.output, Nat.le_trans hsz hch.size, fun k hk => (hch.block k (Nat.lt_of_lt_of_le hk hsz) (fun e => Nat.not_le.2 hk (hfr k e))).trans ((hg.trans hA).block k hk)⟩, fun k e => (hob k e).elim (hfr k) (fun q => Nat.le_trans hsz q)⟩
      clear hik hil hy q2 hg hfr hs hs' hrun hap hch hob hA hsz e1 hi0 hz0 hz1 hz2
      go_wp2_with (first | (at_builtin; refine wpList_append_run rfl _ _ 33 rfl u3 (.slice (some ⟨wr.heap.size, 0, none⟩) 1 1) rfl rfl HRUN.out ?_) | fail)
      rw [HW.out]
      obtain ⟨u, rfl, r1, r2, r3⟩ := HR.out
      go_roundw
      case rel => exact ⟨i + 1, rfl, HIL.out, r1, r2, r3⟩
      case measure => simp only [RowKit.intOf]; have := HIL.out; omega
    · have i1 : ¬ ((i : Int) < l.length) := by omega
      have e1 : l.take i = l := List.take_of_length_le (by omega)
      rw [e1] at hs
      have HR := hide (And.intro hs (And.intro hg hfr))
      clear hik hil hs hg hfr e1
      go_wp2_with fail
      go_ret
      exact ⟨_, rfl, HR.out.1, HR.out.2.1, HR.out.2.2⟩
/-- What is left of the first i, but for the k-th. -/
def woL (l : List It) (k i : Nat) : List It := (l.take i).eraseIdx k
theorem woL_step {l : List It} {k i : Nat} {y : It} (hy : l[i]? = some y) (h : i ≠ k) : woL l k (i + 1) = woL l k i ++ [y] := by
  unfold woL
  have hl := (List.getElem?_eq_some_iff.1 hy).1
  rw [List.take_add_one, hy]
  show (l.take i ++ [y]).eraseIdx k = _
  by_cases hk : k < i
  · rw [List.eraseIdx_append_of_lt_length (by rw [List.length_take]; omega)]
  · rw [List.eraseIdx_of_length_le (by simp; omega), List.eraseIdx_of_length_le (by simp; omega)]
theorem woL_same {l : List It} {k : Nat} (hk : k < l.length) : woL l k (k + 1) = woL l k k := by
  unfold woL
  have h1 : (l.take k).length = k := by rw [List.length_take]; omega
  rw [List.eraseIdx_of_length_le (show (l.take k).length ≤ k by omega), List.take_add_one, List.getElem?_eq_getElem hk]
  show (l.take k ++ [l[k]]).eraseIdx k = _
  rw [List.eraseIdx_append_of_length_le (by omega), h1, Nat.sub_self]
  simp
theorem woL_len (l : List It) (k i : Nat) : (woL l k i).length ≤ l.length := by
  unfold woL
  exact Nat.le_trans (List.length_eraseIdx_le _ _) (by rw [List.length_take]; omega)
theorem woL_all {l : List It} (k : Nat) : woL l k l.length = cutL l k := by
  unfold woL cutL
  rw [List.take_of_length_le (Nat.le_refl _), List.eraseIdx_eq_take_drop_succ]
set_option maxRecDepth 100000 in
set_option maxHeartbeats 1000000 in
theorem without_any (l : List It) (v : Value) (k : Nat) (W : World) (h : SwO W v l) (hk : k < l.length) (hm : l.length ≤ 1000) :
    Calls Try.prog 18 #[v, I k] W fun e W' => ∃ v', e = .returned v' ∧ SwO W' v' (cutL l k) ∧ G W W' ∧ Fresh W v' := by
  obtain ⟨g, cap, rfl⟩ := h.slice (by omega)
  have HS := hide h
  have HM := hide hm
  have HK := hide hk
  clear h hm hk
  go_enter Try.func18, Try.ntmps18
  go_wp2_with fail
  go_loopw [6, 5] (fun iv ov wr => ∃ i : Nat, iv = I i ∧ i ≤ l.length ∧ SwO wr ov (woL l k i) ∧ G W wr ∧ Fresh W ov) (fun iv _ _ => l.length - (RowKit.intOf iv).toNat)
  case atStart => exact ⟨0, rfl, Nat.zero_le _, by rw [show woL l k 0 = [] by simp [woL]]; exact Sw.nil _ _ _, G.refl _, fun k e => by simp [Value.ownBlock] at e⟩
  case round =>
    obtain ⟨i, rfl, hik, hs, hg, hfr⟩ := hrel
    by_cases hil : i < l.length
    · obtain ⟨y, hy⟩ : ∃ y, l[i]? = some y := ⟨_, List.getElem?_eq_getElem hil⟩
      have x1 : wr.cell? ⟨g, i * 3, none⟩ = some (I y.1.1) := by
        have := (HS.out.G hg).at hy 0 (by decide)
        simpa using this
      have x2 : wr.cell? ⟨g, i * 3 + 1, none⟩ = some (I y.1.2) := by
        have := (HS.out.G hg).at hy 1 (by decide)
        simpa using this
      have x3 : wr.cell? ⟨g, i * 3 + 2, none⟩ = some (I y.2) := by
        have := (HS.out.G hg).at hy 2 (by decide)
        simpa using this
      have i1 : (i : Int) < l.length := Int.ofNat_lt.2 hil
      have HW : Hid (wrap64 ((i : Int) + 1) = (i : Int) + 1) := by show _ = _; have := HM.out; unfold wrap64; omega
      have HIL := hide hil
      by_cases hik2 : i = k
      · have hne : ((i : Int) != (k : Int)) = false := by simp [hik2]
        have HR : Hid (SwO wr u5 (woL l k (i + 1)) ∧ G W wr ∧ Fresh W u5) := ⟨by have h2 := woL_same HK.out; rw [hik2] at hs ⊢; rw [h2]; exact hs, hg, hfr⟩
        clear hik hil hy hg hfr hs hik2 x1 x2 x3
        go_wp2_with fail
        rw [HW.out]
        go_roundw
        case rel => exact ⟨i + 1, rfl, HIL.out, HR.out⟩
        case measure => simp only [RowKit.intOf]; have := HIL.out; omega
      · have hne : ((i : Int) != (k : Int)) = true := by simp; omega
        have hA := (G.refl wr).alloc (.cells #[I y.1.1, I y.1.2, I y.2] 65)
        obtain ⟨i0, hi0, hz0, hz1, hz2⟩ := info_O
        obtain ⟨v', w', hrun, hs', hap⟩ := app_one (P := Try.prog) (ts := 59) i0 _ 24 Try.underlying59 hi0 hz0 hz1 hz2 rfl (by decide) (hs.G hA) ⟨wr.heap.size, 0, none⟩ 1 y (fun j u hj => by
          have h1 := (Blk.new wr [I y.1.1, I y.1.2, I y.2] 65).cell j
          rw [Addr.add_mid, Nat.zero_add]
          rw [hj] at h1
          exact h1) (by have h1 := woL_len l k i; have := HM.out; have hmx : (1001 : Nat) ≤ maxLen := of_decide_eq_true (by kernel_rfl); omega) (by have h1 := woL_len l k i; have := HM.out; omega)
        have HRUN := hide hrun
        obtain ⟨hch, hob⟩ := Chg.app hap
        rw [← woL_step hy hik2] at hs'
        have hsz := (hg.trans hA).size
        have HR : Hid (∃ u, v' = u ∧ SwO w' u (woL l k (i + 1)) ∧ G W w' ∧ Fresh W u) := ⟨v', rfl, hs', ⟨hch.os.trans hg.os, hch.tape.trans hg.tape, hch.output.trans hg.output, Nat.le_trans hsz hch.size, fun k hk => (hch.block k (Nat.lt_of_lt_of_le hk hsz) (fun e => Nat.not_le.2 hk (hfr k e))).trans ((hg.trans hA).block k hk)⟩, fun k e => (hob k e).elim (hfr k) (fun q => Nat.le_trans hsz q)⟩
        clear hik hil hy hg hfr hs hs' hrun hap hch hob hA hsz hi0 hz0 hz1 hz2 hik2
        go_wp2_with (first | (at_builtin; refine wpList_append_run rfl _ _ 59 rfl u5 (.slice (some ⟨wr.heap.size, 0, none⟩) 1 1) rfl rfl HRUN.out ?_) | fail)
        rw [HW.out]
        obtain ⟨u, rfl, r1, r2, r3⟩ := HR.out
        go_roundw
        case rel => exact ⟨i + 1, rfl, HIL.out, r1, r2, r3⟩
        case measure => simp only [RowKit.intOf]; have := HIL.out; omega
    · have i1 : ¬ ((i : Int) < l.length) := by omega
      have e1 : i = l.length := by omega
      rw [e1, woL_all] at hs
      have HR := hide (And.intro hs (And.intro hg hfr))
      clear hik hil hs hg hfr e1
      go_wp2_with fail
      go_ret
      exact ⟨_, rfl, HR.out.1, HR.out.2.1, HR.out.2.2⟩
set_option maxRecDepth 100000 in
set_option maxHeartbeats 1000000 in
theorem same_any (l : List Int) (u v : Value) (W : World) (h : SwI W u l) (k : SwI W v l) (hm : l.length ≤ 1000) :
    Calls Try.prog 7 #[u, v] W fun e W' => e = .returned (.bool true) ∧ G W W' := by
  obtain ⟨a, c, rfl⟩ := h.form
  obtain ⟨a2, c2, rfl⟩ := k.form
  have HS := hide h
  have HS2 := hide k
  have HM := hide hm
  clear h hm k
  go_enter Try.func7, Try.ntmps7
  go_wp2_with fail
  go_loopw [5] (fun iv wr => ∃ i : Nat, iv = I i ∧ i ≤ l.length ∧ G W wr) (fun iv _ => l.length - (RowKit.intOf iv).toNat)
  case atStart => exact ⟨0, rfl, Nat.zero_le _, G.refl _⟩
  case round =>
    obtain ⟨i, rfl, hik, hg⟩ := hrel
    have HG := hide hg
    by_cases hil : i < l.length
    · obtain ⟨y, hy⟩ : ∃ y, l[i]? = some y := ⟨_, List.getElem?_eq_getElem hil⟩
      obtain ⟨g, cap, q⟩ := HS.out.slice (by omega)
      injection q with q1 q2 q3
      subst q1 q3
      obtain ⟨g', cap', q⟩ := HS2.out.slice (by omega)
      injection q with q1 q4 q3
      subst q1 q3
      have x1 : wr.cell? ⟨g, i, none⟩ = some (I y) := by
        have := (HS.out.G hg).at hy 0 (by decide)
        simpa using this
      have x2 : wr.cell? ⟨g', i, none⟩ = some (I y) := by
        have := (HS2.out.G hg).at hy 0 (by decide)
        simpa using this
      have i1 : (i : Int) < l.length := Int.ofNat_lt.2 hil
      have HR : Hid (i + 1 ≤ l.length) := by show _ ≤ _; omega
      have HW : Hid (wrap64 ((i : Int) + 1) = (i : Int) + 1) := by show _ = _; have := HM.out; unfold wrap64; omega
      have HMS : Hid (i < l.length) := hil
      clear hik hil hy q2 q4 hg
      go_wp2_with fail
      go_quiet (fail)
      go_wp2_with fail
      rw [HW.out]
      go_roundw
      case rel => exact ⟨i + 1, rfl, HR.out, HG.out.drewN _⟩
      case measure => simp only [RowKit.intOf]; have := HMS.out; omega
    · have i1 : ¬ ((i : Int) < l.length) := by omega
      clear hik hil hg
      go_wp2_with fail
      go_ret
      exact ⟨rfl, HG.out⟩
end Go.Proofs.Ytmclbnhbioficac
