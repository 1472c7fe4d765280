/- Locks: Mode. -/
import Derived.Test.YtfeiocahlhklaaaDoorLk6
import Derived.Deep.QuietTactic
namespace Go.Proofs.YtfeiocahlhklaaaDoor
open Go.RowKit

theorem drewN_heap (w : World) (n : Nat) : (w.drewN n).heap = w.heap := rfl
theorem G.drewN {a w : World} (h : G a w) (n : Nat) : G a (w.drewN n) := h.trans ⟨rfl, rfl, rfl, Nat.le_refl _, fun _ _ => rfl⟩
theorem Chg.drewN {F : Nat → Prop} {a w : World} (h : Chg F a w) (n : Nat) : Chg F a (w.drewN n) := h.trans ⟨rfl, rfl, rfl, Nat.le_refl _, fun _ _ _ => rfl⟩
theorem Mp.drewN {α : Type} {enc : α → Value} {k : TypeId} {w : World} {b : Nat} {g : α → Option Value} (h : Mp enc k w b g) (n : Nat) : Mp enc k (w.drewN n) b g := h.keep (by rw [drewN_heap])
theorem Mp.lookN {α : Type} {enc : α → Value} {k : TypeId} {w : World} {b : Nat} {g : α → Option Value} (h : Mp enc k w b g) (Y : Ky enc k) {t e : TypeId} (ht : Tryd.prog.underlying t = some (.map k e)) {z : Value} (hz : ∀ w, (zeroValue e).run Tryd.prog w = .ok z w) {a : α} (ha : KyOk enc k a) :
    ∀ n, (Instr.lookup t (.map (some b)) (enc a) false).run Tryd.prog (w.drewN n) = .ok ((g a).getD z) (w.drewN n) := fun n => (h.drewN n).look Y ht (hz _) ha
theorem nz_get (n : Int) : (nz n).getD (I 0) = I n := by unfold nz; split <;> simp_all
set_option maxRecDepth 100000 in
set_option maxHeartbeats 1000000 in
theorem mode_none (t : Nat) (s : Gs) (x : Int) (r : Rs) (w : World) (h : TT w t s) (hx : R64 x) (hn : s.lv x = none) : Calls Tryd.prog 11 #[ptr t, I x, r.v] w fun e w' => e = .returned (.tuple #[I 0, I 80]) ∧ G w w' := by
  have g1 := (G.refl w).alloc (.cells #[I r.lv, .string r.lb, I r.id] 23)
  have KP := hide (partyOf_any t s x _ (h.G g1) hx)
  rw [hn] at KP
  have HG := hide g1
  clear g1 hn
  simp only [Rs.v]
  go_enter Tryd.func11, Tryd.ntmps11
  go_wp2_with (first | (go_at_call 12; refine KP.out.mono ?_; rintro e w' ⟨rfl, rfl⟩) | fail)
  go_ret2
  exact ⟨rfl, HG.out⟩
set_option maxRecDepth 100000 in
set_option maxHeartbeats 1000000 in
theorem mode_any (t : Nat) (s : Gs) (x : Int) (r : Rs) (w : World) (p : Pt) (h : TT w t s) (hx : R64 x) (hr : r.ok) (hp : s.lv x = some p) : Calls Tryd.prog 11 #[ptr t, I x, r.v] w fun e w' => e = .returned (.tuple #[I (if resB r then p.hf r else 0), I (if resB r then 0 else 82)]) ∧ G w w' := by
  have g1 := (G.refl w).alloc (.cells #[I r.lv, .string r.lb, I r.id] 23)
  have KP := hide (partyOf_any t s x _ (h.G g1) hx)
  rw [hp] at KP
  simp only [ptv, Option.isSome_some, if_true] at KP
  have KR := hide (isRes_any r (w.alloc (.cells #[I r.lv, .string r.lb, I r.id] 23)))
  have g2 := g1.alloc (.cells #[I r.lv, .string r.lb, I r.id] 23)
  have hpo := (h.pt x p hp)
  have hcell := (hpo.blk.G g2).cell
  have hl := (hpo.hm.G g2).lookN kyR Tryd.underlying44 Tryd.zeroValue3 (kyR_ok.2 hr)
  simp only [nz_get] at hl
  simp only [Pt.cells] at hcell
  have hrc := (Blk.new w [I r.lv, .string r.lb, I r.id] 23).G ((G.refl _).alloc (.cells #[I r.lv, .string r.lb, I r.id] 23))
  have hrc' := hrc.cell
  have HG := hide g2
  clear hpo g1 g2 hp h hrc
  generalize p.hf r = m at *
  cases hb : resB r with
  | true =>
    rw [hb] at KR
    clear hb
    simp only [Rs.v] at hl ⊢
    go_enter Tryd.func11, Tryd.ntmps11
    go_wp2_with (first | (go_at_call 12; refine KP.out.mono ?_; rintro e w' ⟨rfl, rfl⟩) | (go_at_call 13; refine KR.out.mono ?_; rintro e w' ⟨rfl, rfl⟩) | fail)
    go_quiet (fail)
    go_wp2
    go_ret2
    exact ⟨rfl, HG.out.drewN _⟩
  | false =>
    rw [hb] at KR
    clear hb hl
    simp only [Rs.v]
    go_enter Tryd.func11, Tryd.ntmps11
    go_wp2_with (first | (go_at_call 12; refine KP.out.mono ?_; rintro e w' ⟨rfl, rfl⟩) | (go_at_call 13; refine KR.out.mono ?_; rintro e w' ⟨rfl, rfl⟩) | fail)
    go_ret2
    exact ⟨rfl, HG.out⟩
end Go.Proofs.YtfeiocahlhklaaaDoor
