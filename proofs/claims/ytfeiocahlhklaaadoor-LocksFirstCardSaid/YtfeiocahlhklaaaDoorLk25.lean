/- Locks: places of one that holds on one resource, and waits for nothing. -/
import Derived.Test.YtfeiocahlhklaaaDoorLk24
namespace Go.Proofs.YtfeiocahlhklaaaDoor
open Go.RowKit

theorem app_res (w7 : World) (lo : Nat) (r : Rs) (hlo : lo ≤ w7.heap.size) :
    ∃ g cap w9, (Builtin.append_ #[56, 56] 56 #[.slice none 0 0, .slice (some ⟨w7.heap.size, 0, none⟩) 1 1]).run Tryd.prog (w7.alloc (.cells #[I r.lv, .string r.lb, I r.id] 23)) = .ok (.slice (some ⟨g, 0, none⟩) 1 cap) w9 ∧ w9.ownsRow lo 23 3 (.slice (some ⟨g, 0, none⟩) 1 cap) 1 [I r.lv, .string r.lb, I r.id] ∧ G (w7.alloc (.cells #[I r.lv, .string r.lb, I r.id] 23)) w9 := by
  obtain ⟨i0, hi, hz0, hz1, hz2⟩ := info_parts (show (Tryd.prog.info? 23).map (fun i => (i.zero, i.size, i.bytes)) = some (some (.agg #[.int .i64 0, .string ByteArray.empty, .int .i64 0]), 3, 32) from by kernel_rfl)
  have gA : G w7 (w7.alloc (.cells #[I r.lv, .string r.lb, I r.id] 23)) := (G.refl w7).alloc _
  have hmx : (1099511627776 : Nat) ≤ maxLen := of_decide_eq_true (by kernel_rfl)
  obtain ⟨v', w9, q1, q2, q3, -, -⟩ := run_append_own_at (P := Tryd.prog) (w := w7.alloc (.cells #[I r.lv, .string r.lb, I r.id] 23)) lo 56 56 23 i0 _ 3 32 Tryd.underlying56 hi hz0 hz1 hz2 rfl (by decide) (.slice none 0 0) 0 [] (World.ownsRow_nil _ _ _ _) ⟨w7.heap.size, 0, none⟩ 1 1 [I r.lv, .string r.lb, I r.id] rfl (fun j u hj => by
    have h1 := (Blk.new w7 [I r.lv, .string r.lb, I r.id] 23).cell j
    rw [hj] at h1
    by_cases hj0 : j = 0
    · subst hj0; simpa [Addr.add] using h1
    · simpa [Addr.add, hj0] using h1) (by simp [Value.oneCell']) (by omega) (by omega) (Nat.le_trans hlo gA.size)
  obtain ⟨g, cap, rfl⟩ := ownsRow_succ q2
  exact ⟨g, cap, w9, q1, q2, ⟨q3.os, q3.tape, q3.output, q3.size, fun k hk => q3.block k hk (by simp [Value.ownBlock])⟩⟩
set_option maxRecDepth 100000 in
set_option maxHeartbeats 1000000 in
theorem places_one (p : Pt) (r : Rs) (w : World) (hb : Blk w p.blk 47 p.cells) (hm : Mp Rs.v 23 w p.hb (fun r => nz (p.hf r))) (hr : r.ok) (hgo : p.goal = 0) (hf : p.hf r ≠ 0) (hone : ∀ a, p.hf a ≠ 0 → a = r) :
    Calls Tryd.prog 17 #[ptr p.blk] w fun e w' => ∃ g cap, e = .returned (.slice (some ⟨g, 0, none⟩) 1 cap) ∧ w'.ownsRow w.heap.size 23 3 (.slice (some ⟨g, 0, none⟩) 1 cap) 1 [I r.lv, .string r.lb, I r.id] ∧ G w w' := by
  obtain ⟨w0, cnt0, hrun0, hrg0, hg0, hs0⟩ := hm.range kyR Tryd.underlying44
  have hc := hb.cell
  simp only [Pt.cells, hgo] at hc
  have HB := hide hb; have HM := hide hm; have HRO := hide hr; have HF := hide hf; have HONE := hide hone; have HRG := hide hrg0; have HG0 := hide hg0; have HS0 := hide hs0; have HGO := hide hgo
  clear hb hm hr hf hone hrg0 hg0 hs0 hgo
  go_enter Tryd.func17, Tryd.ntmps17
  go_wp2
  go_loopw [3] (fun u wr => ∃ (left : Rs → Prop) (cnt : Nat), Rg Rs.v 23 wr p.hb w.heap.size (fun r => nz (p.hf r)) left cnt ∧ G w wr ∧ w.heap.size < wr.heap.size ∧ (∀ a, left a → a = r) ∧ ((left r ∧ u = .slice none 0 0) ∨ ((∀ a, ¬ left a) ∧ ∃ g cap, u = .slice (some ⟨g, 0, none⟩) 1 cap ∧ wr.ownsRow w.heap.size 23 3 u 1 [I r.lv, .string r.lb, I r.id]))) (fun _ wr => wr.rangeLeft p.hb w.heap.size)
  case atStart =>
    exact ⟨_, _, HRG.out, HG0.out, by rw [HS0.out]; omega, fun a ha => HONE.out a (fun e => ha (by simp [nz, e])), .inl ⟨by simp [nz, HF.out], rfl⟩⟩
  case round =>
    obtain ⟨left, cnt, hrg, hgw, hszw, hlo, halt⟩ := hrel
    have HR := hide hrg
    have HGW := hide hgw
    have HSZW := hide hszw
    have HLO := hide hlo
    rcases hrg.next kyR 0 with ⟨hno, hnx⟩ | ⟨y, v, w1, cnt1, hky, hly, hgy, hnx, hrg1, hlt, hch, hsz, hen⟩
    · rcases halt with ⟨h1, -⟩ | ⟨-, g, cap, rfl, hrow⟩
      · exact absurd h1 (hno r (kyR_ok.2 HRO.out))
      have hc1 := (HB.out.G hgw).cell
      simp only [Pt.cells, HGO.out] at hc1
      have HROW := hide hrow
      have KS := hide (fun fv W => sortF_one (some ⟨g, 0, none⟩) cap fv W)
      clear hrg hgw hlo hno hc hrow hszw
      go_wp2
      go_quiet (fail)
      go_wp2_with (first | (go_at_call 28; refine (KS.out _ _).mono ?_; rintro e w' ⟨rfl, rfl⟩) | fail)
      go_ret
      exact ⟨g, cap, rfl, own_G HROW.out ((G.refl wr).drewN nq), HGW.out.trans ((G.refl wr).drewN nq)⟩
    · have ey : y = r := hlo y hly
      subst ey
      rcases halt with ⟨-, rfl⟩ | ⟨h1, -⟩
      · have g1 : G w w1 := ⟨hch.os.trans hgw.os, hch.tape.trans hgw.tape, hch.output.trans hgw.output, Nat.le_trans hgw.size hch.size, fun j hj => (hch.block j (Nat.lt_of_lt_of_le hj hgw.size) (by omega)).trans (hgw.block j hj)⟩
        have gB : G w1 (w1.alloc (.cells #[I y.lv, .string y.lb, I y.id] 23)) := (G.refl w1).alloc _
        have gC : G w1 ((w1.alloc (.cells #[I y.lv, .string y.lb, I y.id] 23)).alloc (.cells #[I y.lv, .string y.lb, I y.id] 23)) := gB.alloc _
        obtain ⟨g, cap, w9, r1, r2, r3⟩ := app_res (w1.alloc (.cells #[I y.lv, .string y.lb, I y.id] 23)) w.heap.size y (Nat.le_trans g1.size gB.size)
        simp only [World.size_alloc] at r1
        have hbn := (Blk.new w1 [I y.lv, .string y.lb, I y.id] 23).cell
        have hleft := hrg.left_eq
        have HR1 := hide r1; have HR2 := hide r2; have HG1 := hide g1; have HG9 := hide (gC.trans r3); have HRG1 := hide hrg1; have HLT := hide hlt; have HLEFT := hide hleft; have HSZ1 := hide hsz
        simp only [Rs.v] at hnx hen
        clear r1 r2 r3 g1 gB gC hrg1 hlt hleft hsz hrg hgw hlo hch hky hgy hszw
        go_wp2_with (first | (at_builtin; refine wpList_append_run rfl _ _ 56 rfl _ _ rfl rfl HR1.out ?_) | fail)
        have z1 := HSZ1.out
        have z2 := HSZW.out
        have hp1 : p.hb < w1.heap.size := by
          have := HM.out.lt
          have := HG1.out.size
          omega
        have hrg9 := HRG1.out.keep (HG9.out.block _ hp1) (HG9.out.block _ (by omega))
        go_roundw
        case rel =>
          exact ⟨_, _, hrg9, HG1.out.trans HG9.out, by have := HG9.out.size; omega, fun a ha => HLO.out a ha.1, .inr ⟨fun a ha => ha.2 (HLO.out a ha.1), g, cap, rfl, HR2.out⟩⟩
        case measure =>
          rw [hrg9.left_eq, HLEFT.out]
          exact HLT.out
      · exact absurd hly (h1 y)
end Go.Proofs.YtfeiocahlhklaaaDoor
