/- Wire: rows as long as may come in. -/
import Derived.Test.YtcdjjmjhdoanlaaDoorW4
namespace Go.Proofs.YtcdjjmjhdoanlaaDoor
open Go.RowKit

theorem app_Bb {w : World} {v x : Value} {l ns : List Nat} (tr : TypeId) (h : SwB w v l) (hx : Rb w x ns) (hb : l.length + ns.length ≤ 140737488355328) :
    ∃ v' w', (Builtin.append_ #[23, 23] tr #[v, x]).run Tryd.prog w = .ok v' w' ∧ SwB w' v' (l ++ ns) ∧ Chg (fun k => v.ownBlock = some k) w w' ∧ (v'.ownBlock = v.ownBlock ∨ v'.ownBlock = some w.heap.size) := by
  obtain ⟨i, hi, h0, h1, h2⟩ := info_B
  have hm : (140737488355328 : Nat) ≤ maxLen := of_decide_eq_true (by kernel_rfl)
  exact app_row (P := Tryd.prog) i _ 1 Tryd.underlying23 hi h0 h1 h2 rfl (by decide) h hx (by omega) (by omega)
theorem grow_Bb {W w : World} {v x : Value} {l ns : List Nat} (tr : TypeId) (h : SwB w v l) (hx : Rb w x ns) (hg : G W w) (hf : Fresh W v) (hb : l.length + ns.length ≤ 140737488355328) :
    ∃ v' w', (Builtin.append_ #[23, 23] tr #[v, x]).run Tryd.prog w = .ok v' w' ∧ SwB w' v' (l ++ ns) ∧ G W w' ∧ Fresh W v' := by
  obtain ⟨v', w', h1, h2, h3, h4⟩ := app_Bb tr h hx hb
  obtain ⟨h5, h6⟩ := hf.app hg h3 h4
  exact ⟨v', w', h1, h2, h6, h5⟩
theorem mk_Bb (W : World) (c : Nat) (z : Int) (hz : z = (c : Int)) (hc : c ≤ 140737488355328) : ∃ w', (Instr.makeSlice 23 (.int .i64 0) (.int .i64 z)).run Tryd.prog W = .ok (.slice (some ⟨W.heap.size, 0, none⟩) 0 c) w' ∧ SwB w' (.slice (some ⟨W.heap.size, 0, none⟩) 0 c) [] ∧ G W w' ∧ Fresh W (.slice (some ⟨W.heap.size, 0, none⟩) 0 c) := by
  subst hz
  obtain ⟨i, hi, h0, h1, h2⟩ := info_B
  have hm : (140737488355328 : Nat) ≤ maxLen := of_decide_eq_true (by kernel_rfl)
  obtain ⟨w', q1, q2, q3⟩ := run_make_own (P := Tryd.prog) W 0 23 5 i _ 1 Tryd.underlying23 hi h0 h1 .i64 .i64 c (by rw [h2]; omega) (by omega) (Nat.zero_le _)
  exact ⟨w', q1, Sw.of_row (E := eB) (b := 0) (n := 0) (by simpa [Enc.fl] using q2) rfl, ⟨q3.os, q3.tape, q3.output, q3.size, fun k hk => q3.block k hk (by simp)⟩, fun k e => by simp [Value.ownBlock] at e; omega⟩
set_option maxRecDepth 100000 in
set_option maxHeartbeats 1000000 in
theorem room_big (b : List Nat) (v : Value) (W : World) (h : Rb W v b) (hn : b.length ≤ 140737488351232) :
    Calls Tryd.prog 4 #[v] W fun e W' => ∃ v', e = .returned v' ∧ SwB W' v' (b ++ mks) ∧ G W W' ∧ Fresh W v' := by
  obtain ⟨p, cap, rfl⟩ := h.form
  obtain ⟨w1, hmk, hs1, hg1, hf1⟩ := mk_Bb W (b.length + 8) ((b.length : Int) + 8) (by omega) (by omega)
  obtain ⟨v2, w2, hr2, hs2, hg2, hf2⟩ := grow_Bb 23 hs1 (h.G hg1) hg1 hf1 (by simp; omega)
  have HMK := hide hmk
  have HR2 := hide hr2
  have HF : Hid (SwB w2 v2 b ∧ G W w2 ∧ Fresh W v2) := ⟨hs2, hg2, hf2⟩
  have e1 : wrap64 ((b.length : Int) + 8) = (b.length : Int) + 8 := by unfold wrap64; omega
  have HN := hide hn
  clear h hmk hs1 hg1 hf1 hr2 hs2 hg2 hf2 hn
  go_enter Tryd.func4, Tryd.ntmps4
  go_wp2_with fail
  rw [HMK.out]
  go_wp2_with (first | (at_builtin; refine wpList_append_run rfl _ _ 23 rfl (.slice (some ⟨W.heap.size, 0, none⟩) 0 (b.length + 8)) (.slice p b.length cap) rfl rfl HR2.out ?_) | fail)
  go_loopw [3, 4] (fun ov iv wr => ∃ i : Nat, iv = I i ∧ i ≤ 8 ∧ SwB wr ov (b ++ mks.take i) ∧ G W wr ∧ Fresh W ov) (fun _ iv _ => 8 - (RowKit.intOf iv).toNat)
  case atStart => exact ⟨0, rfl, by decide, by simpa using HF.out.1, HF.out.2.1, HF.out.2.2⟩
  case round =>
    obtain ⟨i, rfl, hi, hs, hg, hf⟩ := hrel
    clear HF HMK HR2 e1
    by_cases h8 : i < 8
    · have i1 : (i : Int) < 8 := by omega
      have hA := (G.refl wr).alloc (.cells (eB.fl [200 + i]).toArray 5)
      have hn := HN.out
      obtain ⟨v5, w5, hr5, hs5, hg5, hf5⟩ := grow_Bb 23 (hs.G hA) (Row.lit wr 5 [200 + i] 1 (by simp)) (hg.trans hA) hf (by simp; omega)
      have HR5 := hide hr5
      have e5 : (b ++ mks.take i) ++ [200 + i] = b ++ mks.take (i + 1) := by
        rw [List.append_assoc]
        congr 1
        rcases (by omega : i = 0 ∨ i = 1 ∨ i = 2 ∨ i = 3 ∨ i = 4 ∨ i = 5 ∨ i = 6 ∨ i = 7) with rfl | rfl | rfl | rfl | rfl | rfl | rfl | rfl <;> rfl
      rw [e5] at hs5
      have HF : Hid (∃ u, v5 = u ∧ SwB w5 u (b ++ mks.take (i + 1)) ∧ G W w5 ∧ Fresh W u) := ⟨_, rfl, hs5, hg5, hf5⟩
      have HW : Hid (wrap64 ((i : Int) + 1) = (i : Int) + 1) := by show _ = _; unfold wrap64; omega
      have e1 : wrap64 (200 + (i : Int)) = 200 + (i : Int) := by unfold wrap64; omega
      have e2 : (200 + (i : Int)) % 256 = 200 + (i : Int) := by omega
      have HI := hide h8
      clear hA hn hr5 hs5 hg5 hf5 hs hg hf e5 hi h8
      go_wp2_with (first | (at_builtin; refine wpList_append_run rfl _ _ 23 rfl u3 (.slice (some ⟨wr.heap.size, 0, none⟩) 1 1) rfl rfl HR5.out ?_) | fail)
      try rw [HW.out]
      obtain ⟨u, rfl, r1, r2, r3⟩ := HF.out
      refine ⟨⟨i + 1, rfl, HI.out, r1, r2, r3⟩, ?_⟩
      simp only [RowKit.intOf]; have := HI.out; omega
    · have i1 : ¬ (i : Int) < 8 := by omega
      have e8 : i = 8 := by omega
      rw [e8] at hs
      have HF := hide (And.intro hs (And.intro hg hf))
      clear hs hg hf hi h8 e8
      go_wp2_with fail
      go_ret
      exact ⟨_, rfl, HF.out.1, HF.out.2.1, HF.out.2.2⟩
set_option maxRecDepth 100000 in
set_option maxHeartbeats 1000000 in
theorem bytes_big (l : List Nat) (a b : Value) (W : World) (h : Rb W a l) (k : Rb W b l) (hn : l.length ≤ 140737488355328) :
    Calls Tryd.prog 24 #[a, b] W fun e W' => e = .returned (.bool true) ∧ G W W' := by
  obtain ⟨p, cap, rfl⟩ := h.form
  obtain ⟨p', cap', rfl⟩ := k.form
  have HS := hide h
  have HS2 := hide k
  have HN := hide hn
  clear h k hn
  go_enter Tryd.func24, Tryd.ntmps24
  go_wp2_with fail
  go_loopw [5] (fun iv wr => ∃ i : Nat, iv = I i ∧ i ≤ l.length ∧ G W wr) (fun iv _ => l.length - (RowKit.intOf iv).toNat)
  case atStart => exact ⟨0, rfl, Nat.zero_le _, G.refl _⟩
  case round =>
    obtain ⟨i, rfl, hi, hg⟩ := hrel
    by_cases hil : i < l.length
    · obtain ⟨x, hx⟩ : ∃ x, l[i]? = some x := ⟨_, List.getElem?_eq_getElem hil⟩
      obtain ⟨g, o, c, q⟩ := HS.out.addr (by omega)
      obtain ⟨g', o', c', q'⟩ := HS2.out.addr (by omega)
      injection q with q1 q2 q3
      injection q' with q1' q2' q3'
      subst q1 q1' q3 q3'
      have x1 := Rb.at (HS.out.G hg) hx
      have x2 := Rb.at (HS2.out.G hg) hx
      have i1 : (i : Int) < l.length := Int.ofNat_lt.2 hil
      have HW : Hid (wrap64 ((i : Int) + 1) = (i : Int) + 1) := by show _ = _; have := HN.out; unfold wrap64; omega
      have HIL := hide hil
      have HG := hide hg
      clear hi hil hx hg q2 q2'
      go_wp2_with fail
      go_quiet (fail)
      go_wp2_with fail
      try rw [HW.out]
      refine ⟨⟨i + 1, rfl, HIL.out, HG.out.drewN _⟩, ?_⟩
      simp only [RowKit.intOf]; have := HIL.out; omega
    · have i1 : ¬ ((i : Int) < l.length) := by omega
      have HG := hide hg
      clear hi hil hg
      go_wp2_with fail
      go_ret
      exact ⟨rfl, HG.out⟩
set_option maxRecDepth 100000 in
set_option maxHeartbeats 1000000 in
theorem stays_big (b : List Nat) (f v : Value) (W : World) (h : Rb W f (b ++ mks)) (k : Rb W v b) (hn : b.length ≤ 140737488351232) :
    Calls Tryd.prog 8 #[f, v] W fun e W' => e = .returned (.bool true) ∧ G W W' := by
  have hl : (b ++ mks).length = b.length + 8 := by simp [mks]
  obtain ⟨g, o, cap, rfl⟩ := h.addr (by omega)
  obtain ⟨p', cap', rfl⟩ := k.form
  have hcap := h.cap.1
  have HB : Hid (Rb W (.slice (some ⟨g, o, none⟩) b.length cap) b) := by
    have := Row.pre h b.length (by omega)
    rw [List.take_left] at this
    exact this
  have KB := hide (fun (w : World) (hg : G W w) => bytes_big b _ _ w (HB.out.G hg) (k.G hg) (by omega))
  have HAT : Hid (∀ i, i < 8 → W.cell? ⟨g, o + (b.length + i), none⟩ = some (bv (200 + i))) := fun i hi => by
    refine Rb.at h ?_
    rw [List.getElem?_append_right (by omega), Nat.add_sub_cancel_left]
    rcases (by omega : i = 0 ∨ i = 1 ∨ i = 2 ∨ i = 3 ∨ i = 4 ∨ i = 5 ∨ i = 6 ∨ i = 7) with rfl | rfl | rfl | rfl | rfl | rfl | rfl | rfl <;> rfl
  obtain ⟨n, hnn⟩ : ∃ n, n = b.length := ⟨_, rfl⟩
  rw [← hnn] at hl KB HAT hn
  rw [hl] at hcap ⊢
  rw [← hnn]
  have HN := hide hn
  have HCAP := hide hcap
  clear h k hn hl hnn HB hcap
  go_enter Tryd.func8, Tryd.ntmps8
  go_wp2_with fail
  go_loopw [5] (fun iv wr => ∃ i : Nat, iv = I i ∧ i ≤ 8 ∧ G W wr) (fun iv _ => 8 - (RowKit.intOf iv).toNat)
  case atStart => exact ⟨0, rfl, by decide, G.refl _⟩
  case round =>
    obtain ⟨i, rfl, hi, hg⟩ := hrel
    by_cases h8 : i < 8
    · have i1 : (i : Int) < 8 := by omega
      have x0 := HAT.out i h8
      have x1 : wr.cell? ⟨g, o + (n + i), none⟩ = some (bv (200 + i)) := (hg.cell (cell_lt x0)).trans x0
      have HW : Hid (wrap64 ((i : Int) + 1) = (i : Int) + 1) := by show _ = _; unfold wrap64; omega
      have e1 : wrap64 (200 + (i : Int)) = 200 + (i : Int) := by unfold wrap64; omega
      have e2 : (200 + (i : Int)) % 256 = 200 + (i : Int) := by omega
      have e3 : wrap64 ((n : Int) + (i : Int)) = (n : Int) + (i : Int) := by have := HN.out; unfold wrap64; omega
      have e4 : (n : Int) + (i : Int) < (n : Int) + 8 := by omega
      have e5 : n + i < n + 8 := by omega
      have HI := hide h8
      have HG := hide hg
      clear hi h8 hg x0
      go_wp2_with fail
      try rw [HW.out]
      refine ⟨⟨i + 1, rfl, HI.out, HG.out⟩, ?_⟩
      simp only [RowKit.intOf]; have := HI.out; omega
    · have i1 : ¬ (i : Int) < 8 := by omega
      have KB2 := hide (KB.out wr hg)
      have HG := hide hg
      have c1 : n ≤ cap := by have := HCAP.out; omega
      clear hi h8 hg KB
      go_wp2_with fail
      refine KB2.out.mono ?_
      rintro e w2 ⟨rfl, hg2⟩
      have HG2 := hide hg2
      clear hg2 KB2
      go_wp2_with fail
      go_ret
      exact ⟨rfl, HG.out.trans HG2.out⟩
end Go.Proofs.YtcdjjmjhdoanlaaDoor
