/- WireRequests. -/
import Derived.Test.YtcdjjmjhdoanlaaGreatDoorW17
namespace Go.Proofs.YtcdjjmjhdoanlaaGreatDoor
open Go.RowKit

theorem info_64 : ∃ i, Tryz.prog.info? 2 = some i ∧ i.zero = some (I 0) ∧ i.size = 1 ∧ i.bytes = 8 := info_parts (by kernel_rfl)
theorem info_Z : ∃ i, Tryz.prog.info? 4 = some i ∧ i.zero = some (.bool false) ∧ i.size = 1 ∧ i.bytes = 1 := info_parts (by kernel_rfl)
/-- A list of one's own out of another. -/
theorem own_I {W w : World} {x : Value} {l : List Int} (hx : Row eI.rel w x l) (hg : G W w) (hb : l.length ≤ 17592186044416) :
    ∃ v' w', (Builtin.append_ #[30, 30] 30 #[.slice (some ⟨w.heap.size, 0, none⟩) 0 0, x]).run Tryz.prog (w.alloc (.cells #[] 2)) = .ok v' w' ∧ Sw eI 2 w' v' l ∧ G W w' ∧ Fresh w v' := by
  obtain ⟨i, hi, h0, h1, h2⟩ := info_64
  have hA := (G.refl w).alloc (.cells #[] 2)
  have hs : Sw eI 2 (w.alloc (.cells #[] 2)) (.slice (some ⟨w.heap.size, 0, none⟩) 0 0) [] := Sw.lit (E := eI) w [] (of_decide_eq_true (by kernel_rfl))
  have hm : (17592186044416 : Nat) ≤ maxLen := of_decide_eq_true (by kernel_rfl)
  obtain ⟨v', w', q1, q2, q3, q4⟩ := app_row (P := Tryz.prog) (tr := 30) i _ 8 Tryz.underlying30 hi h0 h1 h2 rfl (by decide) hs (hx.G hA) (by simp; omega) (by simp; omega)
  have hf : Fresh w (.slice (some ⟨w.heap.size, 0, none⟩) 0 0) := Fresh.new w 0 0 (G.refl w)
  obtain ⟨f2, g2⟩ := hf.app hA q3 q4
  exact ⟨v', w', q1, q2, hg.trans g2, f2⟩
theorem own_Z {W w : World} {x : Value} {l : List Bool} (hx : Row eZ.rel w x l) (hg : G W w) (hb : l.length ≤ 140737488351232) :
    ∃ v' w', (Builtin.append_ #[31, 31] 31 #[.slice (some ⟨w.heap.size, 0, none⟩) 0 0, x]).run Tryz.prog (w.alloc (.cells #[] 4)) = .ok v' w' ∧ Sw eZ 4 w' v' l ∧ G W w' ∧ Fresh w v' := by
  obtain ⟨i, hi, h0, h1, h2⟩ := info_Z
  have hA := (G.refl w).alloc (.cells #[] 4)
  have hs : Sw eZ 4 (w.alloc (.cells #[] 4)) (.slice (some ⟨w.heap.size, 0, none⟩) 0 0) [] := Sw.lit (E := eZ) w [] (of_decide_eq_true (by kernel_rfl))
  have hm : (140737488351232 : Nat) ≤ maxLen := of_decide_eq_true (by kernel_rfl)
  obtain ⟨v', w', q1, q2, q3, q4⟩ := app_row (P := Tryz.prog) (tr := 31) i _ 1 Tryz.underlying31 hi h0 h1 h2 rfl (by decide) hs (hx.G hA) (by simp; omega) (by simp; omega)
  have hf : Fresh w (.slice (some ⟨w.heap.size, 0, none⟩) 0 0) := Fresh.new w 0 0 (G.refl w)
  obtain ⟨f2, g2⟩ := hf.app hA q3 q4
  exact ⟨v', w', q1, q2, hg.trans g2, f2⟩
set_option maxRecDepth 100000 in
set_option maxHeartbeats 1000000 in
theorem snums_any (l : List (Int)) (a b : Value) (W : World) (h : Row eI.rel W a l) (k : Row eI.rel W b l) (hn : l.length ≤ 140737488355328) :
    Calls Tryz.prog 38 #[a, b] W fun e W' => e = .returned (.bool true) ∧ G W W' := by
  obtain ⟨p, cap, rfl⟩ := h.form
  obtain ⟨p', cap', rfl⟩ := k.form
  have HS := hide h
  have HS2 := hide k
  have HN := hide hn
  clear h k hn
  go_enter Tryz.func38, Tryz.ntmps38
  go_wp2_with fail
  go_loopw [5] (fun iv wr => ∃ i : Nat, iv = I i ∧ i ≤ l.length ∧ G W wr) (fun iv _ => l.length - (RowKit.intOf iv).toNat)
  case atStart => exact ⟨0, rfl, Nat.zero_le _, G.refl _⟩
  case round =>
    obtain ⟨i, rfl, hi, hg⟩ := hrel
    by_cases hil : i < l.length
    · obtain ⟨x, hx⟩ : ∃ x, l[i]? = some x := ⟨_, List.getElem?_eq_getElem hil⟩
      obtain ⟨g, o, c, q⟩ := HS.out.addr (by omega)
      obtain ⟨g', o', c', q'⟩ := HS2.out.addr (by omega)
      injection q with q1 q2 q3
      injection q' with q1' q2' q3'
      subst q1 q1' q3 q3'
      have x1 := RI.at (HS.out.G hg) hx
      have x2 := RI.at (HS2.out.G hg) hx
      have i1 : (i : Int) < l.length := Int.ofNat_lt.2 hil
      have HW : Hid (wrap64 ((i : Int) + 1) = (i : Int) + 1) := by show _ = _; have := HN.out; unfold wrap64; omega
      have HIL := hide hil
      have HG := hide hg
      clear hi hil hx hg q2 q2'
      go_wp2_with fail
      go_quiet (fail)
      go_wp2_with fail
      try rw [HW.out]
      refine ⟨⟨i + 1, rfl, HIL.out, HG.out.drewN _⟩, ?_⟩
      simp only [RowKit.intOf]; have := HIL.out; omega
    · have i1 : ¬ ((i : Int) < l.length) := by omega
      have HG := hide hg
      clear hi hil hg
      go_wp2_with fail
      go_ret
      exact ⟨rfl, HG.out⟩
set_option maxRecDepth 100000 in
set_option maxHeartbeats 1000000 in
theorem ownq_any (w : World) (v : Value) (q : Rq) (hv : RqV w v q) : Calls Tryz.prog 17 #[v] w fun e w' => ∃ v', e = .returned v' ∧ RqV w' v' q ∧ G w w' := by
  obtain ⟨⟨vn, vb, rfl, h1, h2⟩, hr, ln, lt, lb⟩ := hv
  obtain ⟨w2, hw2⟩ : ∃ w2, w2 = (w.alloc (.cells #[I q.k, vn, .string q.t, vb] 33)).alloc (.cells #[I 0, .slice none 0 0, .string { data := #[] }, .slice none 0 0] 33) := ⟨_, rfl⟩
  have hA2 : G w w2 := by rw [hw2]; exact ((G.refl w).alloc _).alloc _
  have hsz : w2.heap.size = w.heap.size + 1 + 1 := by rw [hw2]; simp
  have hB2 : Blk w2 w.heap.size 33 [I q.k, vn, .string q.t, vb] := by rw [hw2]; exact (Blk.new w [I q.k, vn, .string q.t, vb] 33).G ((G.refl _).alloc _)
  have hC2 : Blk w2 (w.heap.size + 1) 33 [I 0, .slice none 0 0, .string { data := #[] }, .slice none 0 0] := by
    have := Blk.new (w.alloc (.cells #[I q.k, vn, .string q.t, vb] 33)) [I 0, .slice none 0 0, .string { data := #[] }, .slice none 0 0] 33
    rw [hw2]
    simpa using this
  obtain ⟨v3, w3, hr3, hs3, hg3, hf3⟩ := own_I (h1.G hA2) (G.refl w2) ln
  rw [hsz] at hr3
  have hb3 := hB2.G hg3
  have hc3 := hC2.G hg3
  have hb4 : Blk (w3.setCell ⟨w.heap.size, 1, none⟩ v3) w.heap.size 33 [I q.k, v3, .string q.t, vb] := hb3.set 1 v3
  have hc4 : Blk (w3.setCell ⟨w.heap.size, 1, none⟩ v3) (w.heap.size + 1) 33 [I 0, .slice none 0 0, .string { data := #[] }, .slice none 0 0] := hc3.off (by omega)
  have hs4 : Sw eI 2 (w3.setCell ⟨w.heap.size, 1, none⟩ v3) v3 q.ns := hs3.off (hs3.ne hb3 (by decide))
  have hg4 : G w (w3.setCell ⟨w.heap.size, 1, none⟩ v3) := (hA2.trans hg3).setCell (Nat.le_refl _) _
  obtain ⟨v5, w5, hr5, hs5, hg5, hf5⟩ := own_Z (h2.G hg4) (G.refl _) (by omega)
  have hsz4 : (w3.setCell ⟨w.heap.size, 1, none⟩ v3).heap.size = w3.heap.size := by simp
  rw [hsz4] at hr5
  have hb5 := hb4.G hg5
  have hc5 := hc4.G hg5
  have hb6 : Blk (w5.setCell ⟨w.heap.size, 3, none⟩ v5) w.heap.size 33 [I q.k, v3, .string q.t, v5] := hb5.set 3 v5
  have hc6 : Blk (w5.setCell ⟨w.heap.size, 3, none⟩ v5) (w.heap.size + 1) 33 [I 0, .slice none 0 0, .string { data := #[] }, .slice none 0 0] := hc5.off (by omega)
  have hs6 : Sw eI 2 (w5.setCell ⟨w.heap.size, 3, none⟩ v5) v3 q.ns := (hs4.G hg5).off ((hs4.G hg5).ne hb5 (by decide))
  have ht6 : Sw eZ 4 (w5.setCell ⟨w.heap.size, 3, none⟩ v5) v5 q.bs := hs5.off (hs5.ne hb5 (by decide))
  have hg6 : G w (w5.setCell ⟨w.heap.size, 3, none⟩ v5) := (hg4.trans hg5).setCell (Nat.le_refl _) _
  obtain ⟨a3, d3, e3⟩ := hs3.form
  obtain ⟨a5, d5, e5⟩ := hs5.form
  have HFIN : Hid (∀ w7, Chg (fun k => k = w.heap.size + 1) (w5.setCell ⟨w.heap.size, 3, none⟩ v5) w7 → RqV w7 (.agg #[I q.k, v3, .string q.t, v5]) q ∧ G w w7) := fun w7 hch => by
    have hk : ∀ k, w.heap.size + 1 ≠ k → k < (w5.setCell ⟨w.heap.size, 3, none⟩ v5).heap.size → w7.heap[k]? = (w5.setCell ⟨w.heap.size, 3, none⟩ v5).heap[k]? := fun k hk hl => hch.block k hl (fun e => hk e.symm)
    refine ⟨⟨⟨v3, v5, rfl, (hs6.chg hch (fun k hk e => ?_)).toRow, (ht6.chg hch (fun k hk e => ?_)).toRow⟩, hr, ln, lt, lb⟩, ⟨hch.os.trans hg6.os, hch.tape.trans hg6.tape, hch.output.trans hg6.output, Nat.le_trans hg6.size hch.size, fun k hk2 => (hch.block k (Nat.lt_of_lt_of_le hk2 hg6.size) (fun e => by omega)).trans (hg6.block k hk2)⟩⟩
    · subst e; exact hs6.ne hc6 (by decide) hk
    · subst e; exact ht6.ne hc6 (by decide) hk
  have HR3 := hide hr3
  have HR5 := hide hr5
  have k2 := hB2.cell
  have k3 := hb3.cell
  have f3 := hb3.frozen
  have k4 := (hb4.G ((G.refl _).alloc (.cells #[] 4))).cell
  have k5 := hb5.cell
  have f5 := hb5.frozen
  have k6 := hb6.cell
  have m6 := hc6.cell
  have g6 := hc6.frozen
  have HC6 := hide hc6
  have HW2 := hide hw2
  clear h1 h2 hr ln lt lb hA2 hB2 hC2 hr3 hs3 hg3 hf3 hb3 hc3 hb4 hc4 hs4 hg4 hr5 hs5 hg5 hf5 hb5 hc5 hb6 hc6 hs6 ht6 hg6 hsz hsz4
  subst e3 e5
  go_enter Tryz.func17, Tryz.ntmps17
  go_wp2_with (first | (at_builtin; refine Hid.out ?_) | fail)
  unfold Hid
  rw [show (w.alloc (.cells #[I q.k, vn, .string q.t, vb] 33)).alloc (.cells #[I 0, .slice none 0 0, .string { data := #[] }, .slice none 0 0] 33) = w2 from HW2.out.symm]
  refine wpList_append_run rfl _ _ 30 rfl (.slice (some ⟨w.heap.size + 1 + 1, 0, none⟩) 0 0) vn rfl rfl HR3.out ?_
  clear HR3
  go_wp2_with (first | (at_builtin; refine wpList_append_run rfl _ _ 31 rfl (.slice (some ⟨w3.heap.size, 0, none⟩) 0 0) vb rfl rfl HR5.out ?_) | fail)
  have hC9 := (((HC6.out.set 0 (I q.k)).set 1 (.slice a3 q.ns.length d3)).set 2 (.string q.t)).set 3 (.slice a5 q.bs.length d5)
  have hF := HFIN.out _ ((((chg_setCell (F := fun k => k = w.heap.size + 1) (b := w.heap.size + 1) (o := 0) _ (I q.k) (.inl rfl)).trans (chg_setCell (F := fun k => k = w.heap.size + 1) (b := w.heap.size + 1) (o := 1) _ (.slice a3 q.ns.length d3) (.inl rfl))).trans (chg_setCell (F := fun k => k = w.heap.size + 1) (b := w.heap.size + 1) (o := 2) _ (.string q.t) (.inl rfl))).trans (chg_setCell (F := fun k => k = w.heap.size + 1) (b := w.heap.size + 1) (o := 3) _ (.slice a5 q.bs.length d5) (.inl rfl)))
  exact bodyPost_ret_by (v := .agg #[I q.k, .slice a3 q.ns.length d3, .string q.t, .slice a5 q.bs.length d5]) (results_cell_row Tryz.results17 _ _ (w.heap.size + 1) 33 _ (0, 0) _ rfl hC9.h Tryz.underlying33 rfl (by kernel_rfl)) rfl ⟨_, rfl, hF.1, hF.2⟩
end Go.Proofs.YtcdjjmjhdoanlaaGreatDoor
