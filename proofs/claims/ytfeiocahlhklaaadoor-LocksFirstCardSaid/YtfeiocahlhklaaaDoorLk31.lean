/- Locks: LocksFirst's calls, each by itself. -/
import Derived.Test.YtfeiocahlhklaaaDoorLk30
namespace Go.Proofs.YtfeiocahlhklaaaDoor
open Go.RowKit
variable {W0 : World} {B : Nat} {ri : List Value}

theorem end2 (t : Nat) (s : Gs) (r : Rs) (w : World) (a b : Int) (p2 p3 : Pt) (q : Pl) (h : St W0 B ri w t s) (hr : r.ok) (ha : a ≠ 0) (hb : b ≠ 0) (h2 : s.lv 2 = some p2) (h3 : s.lv 3 = some p3) (w2 : p2.has 2 r a) (w3 : p3.wants 3 r b) (hq : s.pl r = some q) (hf : ∀ z, q.hf z = if z = 2 then a else 0) (hqs : q.qs = [(3, b)]) :
    Calls Tryd.prog 8 #[ptr t, I 2] w fun e w' => ∃ u s' p', e = .returned (.tuple #[u, .slice none 0 0, I 0]) ∧ RowI w' u [3] ∧ St W0 B ri w' t s' ∧ s'.lv 3 = some p' ∧ p'.has 3 r b := by
  have hmx : (1099511627776 : Nat) ≤ maxLen := of_decide_eq_true (by kernel_rfl)
  refine (End_one t s 2 r p2 q w (fun s' out => ∃ k, Inv2 ((s.delPt 2).setPl r (q.hold 2 0)) r q.blk b s' k out ∧ ∃ q', s'.pl r = some q' ∧ k = q'.qs.length) h.tt h.tb h.gl (r64_small (by omega) (by omega)) h2 hr w2.2.2.2.1 (by rw [w2.2.1]; exact ha) w2.2.2.1 hq (fun o ho => by rw [hqs] at ho; simp at ho; rw [ho]; simp) (by rw [hqs]; simp; omega) (fun w3' hT3 hTb3 => ?_)).mono ?_
  · have hq3 : ((s.delPt 2).setPl r (q.hold 2 0)).pl r = some (q.hold 2 0) := by simp [Gs.setPl]
    refine (serve_any t _ r (q.hold 2 0) w3' (Inv2 ((s.delPt 2).setPl r (q.hold 2 0)) r q.blk b) [3] [r] hT3 hTb3 h.gl hr hq3 (.inl ⟨rfl, rfl, rfl⟩) (srv2 _ r (q.hold 2 0) b p3 hb hq3 (fun z => ?_) hqs ?_ w3) (by simp; omega) (by simp; omega)).mono ?_
    · show upd q.hf 2 0 z = 0
      unfold upd
      rw [hf z]
      split <;> rfl
    · show upd s.lv 2 none 3 = _
      rw [upd_other (by omega)]; exact h3
    · rintro e w' ⟨u, s', k, out, q', e1, e2, e3, e4, e5, e6, e7⟩
      refine ⟨u, out, s', e1, ?_, e5, e6, e7, k, e2, q', e3, e4⟩
      rcases e2 with ⟨-, rfl, -⟩ | ⟨-, rfl, -⟩ <;> simp
  · rintro e w' ⟨u, out, s', e1, e2, e3, e4, k, e5, q', e6, e7⟩
    rcases e5 with ⟨k0, o0, rfl⟩ | ⟨k0, o0, hA⟩
    · exfalso
      have hq3 : ((s.delPt 2).setPl r (q.hold 2 0)).pl r = some (q.hold 2 0) := by simp [Gs.setPl]
      rw [hq3] at e6
      cases e6
      rw [k0] at e7
      have : (q.hold 2 0).qs = [(3, b)] := hqs
      rw [this] at e7
      simp at e7
    · obtain ⟨-, ⟨p', hl, hp'⟩, -⟩ := hA
      rw [o0] at e2
      exact ⟨u, s', p', e1, RowI.of_own e2, h.ext e3 e4, by rw [hl, upd_same], hp'⟩
/-- One more begins. -/
theorem beg (t : Nat) (s : Gs) (w : World) (x : Int) (h : St W0 B ri w t s) (x1 : 1 ≤ x) (x3 : x ≤ 3) (hlv : ∀ y p, s.lv y = some p → 1 ≤ y ∧ y < x ∧ p.isNew y) (hpl : ∀ z, s.pl z = none) :
    Calls Tryd.prog 6 #[ptr t, I x, I x] w fun e w' => ∃ s' p, e = .returned (I 0) ∧ St W0 B ri w' t s' ∧ p.isNew x ∧ s'.lv = upd s.lv x (some p) ∧ ∀ z, s'.pl z = none := by
  have hmx : (1099511627776 : Nat) ≤ maxLen := of_decide_eq_true (by kernel_rfl)
  refine (begin_any t s x x w h.tt (r64_small (by omega) (by omega)) x1 x1 (fun y p hy => by have := hlv y p hy; exact r64_small (by omega) (by omega)) [1, 2] (fun y p hy => by
    have := hlv y p hy
    have e : y = 1 ∨ y = 2 := by omega
    rcases e with e | e <;> rw [e] <;> simp) (by simp; omega)).mono ?_
  rintro e w' (⟨⟨y, p, hy, ho⟩, -⟩ | ⟨-, e1, s', p, e2, e3, e4, e5, e6⟩)
  · exfalso
    obtain ⟨a1, a2, a3⟩ := hlv y p hy
    rcases ho with ho | ho
    · omega
    · have := a3.1
      omega
  · exact ⟨s', p, e1, h.ext e2 e6, e3, e4, fun z => by rw [e5]; exact hpl z⟩
end Go.Proofs.YtfeiocahlhklaaaDoor
