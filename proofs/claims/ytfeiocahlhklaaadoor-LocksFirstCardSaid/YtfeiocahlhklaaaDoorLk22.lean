/- Locks: Ask, where all is in order and the asker holds nothing there. -/
import Derived.Test.YtfeiocahlhklaaaDoorLk21
namespace Go.Proofs.YtfeiocahlhklaaaDoor
open Go.RowKit

set_option maxRecDepth 100000 in
set_option maxHeartbeats 1000000 in
theorem Ask_any (t : Nat) (s : Gs) (x m : Int) (r : Rs) (p : Pt) (w : World) (h : TT w t s) (ht : Tb w) (hx : R64 x) (hr : r.ok) (hres : ResP r) (hm : modeB m = true) (hm0 : m ≠ 0) (hj : joinI 0 m = m) (hp : s.lv x = some p) (hgo : p.goal = 0) (hh : p.hf r = 0) (R : Int → Value → World → Prop)
    (KA : ∀ w1, G w w1 → Calls Tryd.prog 16 #[ptr t, r.v, .agg #[I x, I m]] w1 fun e w' => ∃ k u, e = .returned (.tuple #[I k, u]) ∧ R k u w') :
    Calls Tryd.prog 7 #[ptr t, I x, r.v, I m] w fun e w' => ∃ k u, e = .returned (.tuple #[I k, u, I 0]) ∧ R k u w' := by
  have g1 : G w (w.alloc (.cells #[I r.lv, .string r.lb, I r.id] 23)) := (G.refl w).alloc _
  have g2 : G w ((w.alloc (.cells #[I r.lv, .string r.lb, I r.id] 23)).alloc (.cells #[I r.lv, .string r.lb, I r.id] 23)) := g1.alloc _
  have KP := hide (partyOf_any t s x _ (h.G g1) hx)
  rw [hp] at KP
  simp only [ptv, Option.isSome_some, if_true] at KP
  have KR := hide (isRes_any r (w.alloc (.cells #[I r.lv, .string r.lb, I r.id] 23)))
  rw [(resB_iff r).2 hres] at KR
  have KM := hide (isMode_any m ((w.alloc (.cells #[I r.lv, .string r.lb, I r.id] 23)).alloc (.cells #[I r.lv, .string r.lb, I r.id] 23)))
  rw [hm] at KM
  have KJ : Hid (∀ W, G w W → Calls Tryd.prog 15 #[I 0, I m] W fun e w' => e = .returned (I m) ∧ w' = W) := fun W g => by
    have := joins_any 0 m W (ht.G g)
    rw [hj] at this
    exact this
  have hpo := h.pt x p hp
  have hcell := (hpo.blk.G g2).cell
  have hl := (hpo.hm.G g2).lookN kyR Tryd.underlying44 Tryd.zeroValue3 (kyR_ok.2 hr)
  simp only [nz_get, hh] at hl
  simp only [Pt.cells, hgo] at hcell
  have hrc := ((Blk.new w [I r.lv, .string r.lb, I r.id] 23).G ((G.refl _).alloc (.cells #[I r.lv, .string r.lb, I r.id] 23)))
  have hrc' := hrc.cell
  have HRC := hide hrc
  have HG := hide g2
  have HKA := hide KA
  have hne : ¬ m = 0 := hm0
  clear hpo g1 g2 hp h hrc KA ht hx hr hres hm hj hgo hh hm0
  simp only [Rs.v] at hl HKA ⊢
  go_enter Tryd.func7, Tryd.ntmps7
  go_wp2_with (first | (go_at_call 12; refine KP.out.mono ?_; rintro e w' ⟨rfl, rfl⟩) | (go_at_call 13; refine KR.out.mono ?_; rintro e w' ⟨rfl, rfl⟩) | (go_at_call 14; refine KM.out.mono ?_; rintro e w' ⟨rfl, rfl⟩) | fail)
  go_quiet (fail)
  go_wp2_with (first | (go_at_call 15; refine (KJ.out _ (HG.out.drewN _)).mono ?_; rintro e w' ⟨rfl, rfl⟩) | (go_at_call 16; refine (HKA.out _ (HG.out.drewN _)).mono ?_; rintro e w' ⟨k, u, rfl, hR⟩) | fail)
  go_ret3
  exact ⟨k, u, rfl, hR⟩
end Go.Proofs.YtfeiocahlhklaaaDoor
