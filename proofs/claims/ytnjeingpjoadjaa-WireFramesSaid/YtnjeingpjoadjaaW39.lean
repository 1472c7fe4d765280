/- WireFrames: the law. -/
import Derived.Test.YtnjeingpjoadjaaW38
namespace Go.Proofs.Ytnjeingpjoadjaa
open Go.RowKit

theorem frL_len (k : Int) (b : List Nat) : (frL k b).length ≤ b.length + 12 := by
  unfold frL
  split
  · rw [frB_len]; omega
  · simp
theorem eq_code (a : Int) (w : World) : (binOp .eql 24 (I a) (I a)).run Try.prog w = .ok (.bool true) w := by simp [go_sem]
theorem By.rep (n : Nat) : By (List.replicate n 0) := fun x hx => by have := List.eq_of_mem_replicate hx; omega
set_option maxRecDepth 100000 in
set_option maxHeartbeats 1000000 in
theorem wireFrames (k : Int) (b : List Nat) (v : Value) (pad : Int) (W : World) (h : Rb W v b) (hb : By b) (hn : b.length ≤ 140737488351232) :
    Calls Try.prog 3 #[I k, v, I pad] W fun e W' => e = .returned (.bool true) ∧ G W W' := by
  have KC := hide (copy_w b v W h (by omega))
  have HB := hide hb
  have HN := hide hn
  obtain ⟨p, cap, rfl⟩ := h.form
  clear h hb hn
  go_enter Try.func3, Try.ntmps3
  go_wp2_with fail
  refine KC.out.mono ?_
  rintro e w1 ⟨v1, rfl, hs1, hg1, hf1⟩
  have HS1 := hide (And.intro hs1 (And.intro hg1 hf1))
  clear hs1 hg1 hf1 KC
  go_wp2_with fail
  go_loopw [7, 8] (fun ov iv wr => ∃ i : Nat, iv = I i ∧ i ≤ 2200000 ∧ SwB wr ov (b ++ List.replicate i 0) ∧ G W wr ∧ Fresh W ov) (fun _ iv _ => 2200000 - (RowKit.intOf iv).toNat)
  case atStart => exact ⟨0, rfl, by decide, by simpa using HS1.out.1, HS1.out.2.1, HS1.out.2.2⟩
  case round =>
    obtain ⟨i, rfl, hi, hs, hg, hf⟩ := hrel
    clear HS1
    by_cases c1 : (i : Int) < pad ∧ i < 2200000
    · have d1 := decide_eq_true c1.1
      have i2 : (i : Int) < 2200000 := by omega
      have d2 := decide_eq_true i2
      have hA := (G.refl wr).alloc (.cells (eB.fl [0]).toArray 5)
      have hn := HN.out
      obtain ⟨v5, w5, hr5, hs5, hg5, hf5⟩ := grow_Bw 22 (hs.G hA) (Row.lit wr 5 [0] 1 (by simp)) (hg.trans hA) hf (by simp; omega)
      have HR5 := hide hr5
      have e5 : (b ++ List.replicate i 0) ++ [0] = b ++ List.replicate (i + 1) 0 := by rw [List.append_assoc, List.replicate_succ']
      rw [e5] at hs5
      have HF : Hid (∃ u, v5 = u ∧ SwB w5 u (b ++ List.replicate (i + 1) 0) ∧ G W w5 ∧ Fresh W u) := ⟨_, rfl, hs5, hg5, hf5⟩
      have HW : Hid (wrap64 ((i : Int) + 1) = (i : Int) + 1) := by show _ = _; unfold wrap64; omega
      have HI := hide c1.2
      clear hA hn hr5 hs5 hg5 hf5 hs hg hf e5 hi c1 i2
      go_wp2_with (first | (at_builtin; refine wpList_append_run rfl _ _ 22 rfl u7 (.slice (some ⟨wr.heap.size, 0, none⟩) 1 1) rfl rfl HR5.out ?_) | fail)
      try rw [HW.out]
      obtain ⟨u, rfl, r1, r2, r3⟩ := HF.out
      refine ⟨⟨i + 1, rfl, HI.out, r1, r2, r3⟩, ?_⟩
      simp only [RowKit.intOf]; have := HI.out; omega
    · obtain ⟨c, hc⟩ : ∃ c, c = b ++ List.replicate i 0 := ⟨_, rfl⟩
      rw [← hc] at hs
      have hcb : By c := by rw [hc]; exact HB.out.app (By.rep i)
      have hcn : c.length ≤ 140737490551232 := by rw [hc]; simp; have := HN.out; omega
      have KR := hide (room_w c u7 wr hs.toRow (by omega))
      have HS := hide hs
      have HG := hide hg
      have HCB := hide hcb
      have HCN := hide hcn
      obtain ⟨q, cc, huf⟩ := hs.form
      subst huf
      have hdd : (decide ((i : Int) < pad) = true ∧ decide ((i : Int) < 2200000) = false) ∨ decide ((i : Int) < pad) = false := by
        by_cases c2 : (i : Int) < pad
        · exact .inl ⟨decide_eq_true c2, decide_eq_false (by omega)⟩
        · exact .inr (decide_eq_false c2)
      clear hs hg hf hi c1 hc hcb hcn HB HN
      rcases hdd with ⟨d1, d2⟩ | d1
      · go_wp2_with fail
        refine KR.out.mono ?_
        rintro e w2 ⟨vf, rfl, hsf, hg2, -⟩
        have hcn := HCN.out
        have hlf : (c ++ mks).length = c.length + 8 := by simp [mks]
        obtain ⟨gf, cf, ef⟩ := hsf.slice (by omega)
        rw [hlf] at ef
        subst ef
        have hrf := hsf.toRow
        have hrf2 := Row.pre hrf c.length (by omega)
        rw [List.take_left] at hrf2
        have c1 : c.length ≤ cf := by have := hrf2.cap; omega
        have KF := hide (frame_w k c _ w2 hrf2 HCB.out (by omega))
        have HRF := hide hrf
        have HG2 := hide hg2
        clear hsf hg2 hrf hrf2 hlf hcn KR
        go_wp2_with fail
        refine KF.out.mono ?_
        rintro e w3 ⟨x, rfl, hsx, hg3, -⟩
        have hcn := HCN.out
        have KF2 := hide (rframe_w k c _ w3 ((HS.out.G HG2.out).G hg3).toRow HCB.out (by omega))
        have HSX := hide hsx
        have HG3 := hide hg3
        clear hsx hg3 hcn KF
        go_wp2_with fail
        refine KF2.out.mono ?_
        rintro e w4 ⟨y, rfl, hsy, hg4, -⟩
        have hcn := HCN.out
        have hfl := frL_len k c
        have KB := hide (bytes_w (frL k c) x y w4 (HSX.out.G hg4).toRow hsy.toRow (by omega))
        have HG4 := hide hg4
        generalize frC k c.length = cd
        clear hsy hg4 hcn KF2 HSX hfl
        go_wp2_with fail
        refine KB.out.mono ?_
        rintro e w5 ⟨rfl, hg5⟩
        have hcn := HCN.out
        have hge := HG2.out.trans (HG3.out.trans (HG4.out.trans hg5))
        have KS := hide (stays_w c _ _ w5 (HRF.out.G (HG3.out.trans (HG4.out.trans hg5))) (HS.out.G hge).toRow (by omega))
        have HGE := hide (HG.out.trans hge)
        clear hg5 hcn hge KB HG2 HG3 HG4 HRF HS HG
        go_wp2_with fail
        refine KS.out.mono ?_
        rintro e w6 ⟨rfl, hg6⟩
        have HG6 := hide hg6
        clear hg6 KS
        go_wp2_with fail
        go_ret
        exact ⟨rfl, HGE.out.trans HG6.out⟩
      · go_wp2_with fail
        refine KR.out.mono ?_
        rintro e w2 ⟨vf, rfl, hsf, hg2, -⟩
        have hcn := HCN.out
        have hlf : (c ++ mks).length = c.length + 8 := by simp [mks]
        obtain ⟨gf, cf, ef⟩ := hsf.slice (by omega)
        rw [hlf] at ef
        subst ef
        have hrf := hsf.toRow
        have hrf2 := Row.pre hrf c.length (by omega)
        rw [List.take_left] at hrf2
        have c1 : c.length ≤ cf := by have := hrf2.cap; omega
        have KF := hide (frame_w k c _ w2 hrf2 HCB.out (by omega))
        have HRF := hide hrf
        have HG2 := hide hg2
        clear hsf hg2 hrf hrf2 hlf hcn KR
        go_wp2_with fail
        refine KF.out.mono ?_
        rintro e w3 ⟨x, rfl, hsx, hg3, -⟩
        have hcn := HCN.out
        have KF2 := hide (rframe_w k c _ w3 ((HS.out.G HG2.out).G hg3).toRow HCB.out (by omega))
        have HSX := hide hsx
        have HG3 := hide hg3
        clear hsx hg3 hcn KF
        go_wp2_with fail
        refine KF2.out.mono ?_
        rintro e w4 ⟨y, rfl, hsy, hg4, -⟩
        have hcn := HCN.out
        have hfl := frL_len k c
        have KB := hide (bytes_w (frL k c) x y w4 (HSX.out.G hg4).toRow hsy.toRow (by omega))
        have HG4 := hide hg4
        generalize frC k c.length = cd
        clear hsy hg4 hcn KF2 HSX hfl
        go_wp2_with fail
        refine KB.out.mono ?_
        rintro e w5 ⟨rfl, hg5⟩
        have hcn := HCN.out
        have hge := HG2.out.trans (HG3.out.trans (HG4.out.trans hg5))
        have KS := hide (stays_w c _ _ w5 (HRF.out.G (HG3.out.trans (HG4.out.trans hg5))) (HS.out.G hge).toRow (by omega))
        have HGE := hide (HG.out.trans hge)
        clear hg5 hcn hge KB HG2 HG3 HG4 HRF HS HG
        go_wp2_with fail
        refine KS.out.mono ?_
        rintro e w6 ⟨rfl, hg6⟩
        have HG6 := hide hg6
        clear hg6 KS
        go_wp2_with fail
        go_ret
        exact ⟨rfl, HGE.out.trans HG6.out⟩
end Go.Proofs.Ytnjeingpjoadjaa
