/- Locks: the states that LocksFirst comes through. -/
import Derived.Test.YtfeiocahlhklaaaDoorLk28
namespace Go.Proofs.YtfeiocahlhklaaaDoor
open Go.RowKit
variable {W0 : World} {B : Nat} {ri : List Value}

structure St (W0 : World) (B : Nat) (ri : List Value) (w : World) (t : Nat) (s : Gs) : Prop where
  tt : TT w t s
  tb : Tb w
  gl : s.own 0 = none ∧ s.own 1 = none
  bx : Blk w B 23 ri
  bo : s.own B = none
  gw : Go.Proofs.YtfeiocahlhklaaaDoor.G W0 w
  ob : ∀ b tg, s.own b = some tg → W0.heap.size ≤ b
theorem St.ext {w w' : World} {t : Nat} {s s' : Gs} (h : St W0 B ri w t s) (T : TT w' t s') (E : Ext w w' s s') : St W0 B ri w' t s' := ⟨T, h.tb.ext E h.gl, ⟨E.free h.tb.lf h.gl.1, E.free h.tb.lj h.gl.2⟩, h.bx.chg E.chg (fun e => e h.bo), E.free h.bx.lt h.bo, ⟨E.chg.os.trans h.gw.os, E.chg.tape.trans h.gw.tape, E.chg.output.trans h.gw.output, Nat.le_trans h.gw.size E.chg.size, fun b hb => (E.chg.block b (Nat.lt_of_lt_of_le hb h.gw.size) (fun e => by
  cases e2 : s.own b with
  | none => exact e e2
  | some tg => have := h.ob b tg e2; omega)).trans (h.gw.block b hb)⟩, fun b tg o => by
  rcases E.new b tg o with o | o
  · exact h.ob b tg o
  · exact Nat.le_trans h.gw.size o⟩
theorem St.G {w w' : World} {t : Nat} {s : Gs} (h : St W0 B ri w t s) (g : Go.Proofs.YtfeiocahlhklaaaDoor.G w w') : St W0 B ri w' t s := ⟨h.tt.G g, h.tb.G g, h.gl, h.bx.G g, h.bo, h.gw.trans g, h.ob⟩
/-- It holds m on r, and waits for nothing. -/
def Pt.has (p : Pt) (st : Int) (r : Rs) (m : Int) : Prop := p.stamp = st ∧ p.hf r = m ∧ (∀ z, p.hf z ≠ 0 → z = r) ∧ p.goal = 0 ∧ ∀ y, p.wd y = false
/-- It holds nothing, and waits for m on r. -/
def Pt.wants (p : Pt) (st : Int) (r : Rs) (m : Int) : Prop := p.stamp = st ∧ (∀ z, p.hf z = 0) ∧ p.at_ = r ∧ p.goal = m ∧ ∀ y, p.wd y = false
theorem Pt.calm {p : Pt} (h : ∀ y, p.wd y = false) : p.hurt = false := Pt.hurt_no (fun ⟨y, hy⟩ => by rw [h y] at hy; cases hy)
/-- Older ones are left alone. -/
theorem wbL_older (x st : Int) (s : Gs) (l : List Int) (h : ∀ y ∈ l, ∀ b, s.lv y = some b → ¬ st < b.stamp) : wbL x st s l = (s, []) := by
  unfold wbL
  induction l with
  | nil => rfl
  | cons y l ih =>
    rw [List.foldl_cons]
    have e : wbs x st (s, []) y = (s, []) := by
      unfold wbs
      split
      · rename_i b hb
        rw [if_neg (h y (by simp) b hb)]
      · rfl
    rw [e]
    exact ih (fun z hz => h z (by simp [hz]))
theorem srt_nil : srt [] = [] := List.eq_nil_of_length_eq_zero (srt_len [])
theorem r64_small {x : Int} (h1 : 0 ≤ x) (h2 : x ≤ 100) : R64 x := by unfold R64; omega
theorem ask1 (t : Nat) (s : Gs) (r : Rs) (w : World) (p : Pt) (h : St W0 B ri w t s) (hr : r.ok) (hp : s.lv 1 = some p) (hn : p.isNew 1) (hpl : ∀ z, s.pl z = none) :
    Calls Tryd.prog 16 #[ptr t, r.v, .agg #[I 1, I 5]] w fun e w' => ∃ k u, e = .returned (.tuple #[I k, u]) ∧ k = 1 ∧ ∃ s' p' q, St W0 B ri w' t s' ∧ Ext w w' s s' ∧ s'.lv = upd s.lv 1 (some p') ∧ p'.has 1 r 5 ∧ s'.pl r = some q ∧ (∀ z, q.hf z = if z = 1 then 5 else 0) ∧ q.qs = [] := by
  obtain ⟨n1, n2, n3, n4, n5⟩ := hn
  have hmx : (1099511627776 : Nat) ≤ maxLen := of_decide_eq_true (by kernel_rfl)
  refine (ask_any t s 1 5 r p w (fun s1 q => q.isNew ∧ s1.pl = upd s.pl r (some q) ∧ s1.lv = s.lv) h.tt h.tb h.gl (r64_small (by omega) (by omega)) hp (fun y hy => by rw [n5 y] at hy; cases hy) (fun wA hA => (placeOf_new t s r wA hA hr (hpl r) [] (fun r' h' => absurd (hpl r') h') (by simp; omega)).mono (fun e w' hh => ?_)) [] (fun y hy => by rw [n5 y] at hy; cases hy) (by simp; omega) [] (fun s1 q hq z hz => absurd (hq.1.2.1 z) hz) (by simp; omega) (fun s1 q hq => by rw [hq.1.2.2]; simp) [1] (fun s1 q hq y hy => ?_) (by simp) (by simp; omega) (fun s1 q hq => by rw [hq.1.2.2]; simp) [] (fun z hz => absurd (n2 z) hz) (by simp; omega) hr (by omega) (fun s1 q hq => ⟨hq.1.2.1 1, by rw [hq.1.2.2]; simp, by rw [hq.1.2.2]; simp⟩)).mono ?_
  · obtain ⟨s', q, e1, e2, e3, e4, e5, e6⟩ := hh
    exact ⟨s', q, e1, e2, by rw [e4, upd_same], e5, e6, e3, e4, e5⟩
  · rcases hy with hy | ⟨i, g, hi, -⟩
    · exact absurd (hq.1.2.1 y) hy.1
    · rw [hq.1.2.2] at hi; simp at hi
  · rintro e w' ⟨s1, q, u, hq, ⟨-, e1, -, e3, e4⟩ | ⟨hb, -⟩⟩
    · refine ⟨1, u, e1, rfl, (s1.setPl r (q.hold 1 5)).setPt 1 (p.hold r 5).rest, (p.hold r 5).rest, q.hold 1 5, h.ext e3 e4, e4, ?_, ⟨n1, ?_, fun z hz => ?_, rfl, n5⟩, ?_, fun z => ?_, hq.1.2.2⟩
      · show upd s1.lv 1 _ = _
        rw [hq.2.2]
      · show upd p.hf r 5 r = 5
        rw [upd_same]
      · replace hz : upd p.hf r 5 z ≠ 0 := hz
        by_cases e : z = r
        · exact e
        · rw [upd_other e] at hz
          exact absurd (n2 z) hz
      · show upd s1.pl r _ r = _
        rw [upd_same]
      · show upd q.hf 1 5 z = _
        unfold upd
        rw [hq.1.2.1 z]
    · rw [blkB_no (fun ⟨y, hy⟩ => by
        rcases hy with hy | ⟨i, g, hi, -⟩
        · exact absurd (hq.1.2.1 y) hy.1
        · rw [hq.1.2.2] at hi; simp at hi)] at hb
      cases hb
theorem askW (t : Nat) (s : Gs) (r : Rs) (w : World) (x m st : Int) (p : Pt) (q : Pl) (h : St W0 B ri w t s) (hr : r.ok) (hx : R64 x) (hm0 : m ≠ 0) (hp : s.lv x = some p) (hn : p.isNew st) (hq : s.pl r = some q) (h0 : q.hf x = 0) (Lh : List Int) (hLh : ∀ z, q.hf z ≠ 0 → z ∈ Lh ∧ R64 z) (hl : Lh.length < 1000) (hqs : ∀ o ∈ q.qs, R64 o.1) (hql : q.qs.length < 1000)
    (hold : ∀ y, inW q.hf q.qs x m q.qs.length y → y ≠ x ∧ R64 y ∧ ∃ b, s.lv y = some b ∧ b.stamp ≤ st ∧ ∀ z, b.wd z = false) (hb : ∃ y, inW q.hf q.qs x m q.qs.length y) :
    Calls Tryd.prog 16 #[ptr t, r.v, .agg #[I x, I m]] w fun e w' => ∃ k u, e = .returned (.tuple #[I k, u]) ∧ k = 2 ∧ ∃ s' p' q', (∃ a c, u = .slice a 0 c) ∧ St W0 B ri w' t s' ∧ Ext w w' s s' ∧ s'.lv = upd s.lv x (some p') ∧ p'.wants st r m ∧ s'.pl r = some q' ∧ q'.hf = q.hf ∧ q'.qs = q.qs ++ [(x, m)] := by
  obtain ⟨n1, n2, n3, n4, n5⟩ := hn
  have hmx : (1099511627776 : Nat) ≤ maxLen := of_decide_eq_true (by kernel_rfl)
  refine (ask_any t s x m r p w (fun s1 q1 => s1 = s ∧ q1 = q) h.tt h.tb h.gl hx hp (fun y hy => by rw [n5 y] at hy; cases hy) (fun wA hA => (placeOf_there t s r q wA hA hr hq).mono (fun e w' hh => ⟨s, q, hh.1, hA.G hh.2, hq, rfl, G.ext s hh.2, rfl, rfl⟩)) [] (fun y hy => by rw [n5 y] at hy; cases hy) (by simp; omega) Lh (fun s1 q1 hh z hz => by rw [hh.2] at hz; exact hLh z hz) (by omega) (fun s1 q1 hh => by rw [hh.2]; omega) [x] (fun s1 q1 hh y hy => ?_) (by simp) (by simp; omega) (fun s1 q1 hh => by rw [hh.2]; omega) [] (fun z hz => absurd (n2 z) hz) (by simp; omega) hr hm0 (fun s1 q1 hh => by rw [hh.2]; exact ⟨h0, hqs, by omega⟩)).mono ?_
  · rw [hh.2] at hy
    obtain ⟨a1, a2, b, a3, a4, a5⟩ := hold y hy
    exact ⟨a1, a2, b, a3, fun z hz => by rw [a5 z] at hz; cases hz⟩
  · rintro e w' ⟨s1, q1, u, ⟨rfl, rfl⟩, ⟨hbk, -⟩ | ⟨-, s2, q2, s4, zs, e1, hrow, hl2, hp2, hqf, hqq, hD, hT4, hE4⟩⟩
    · rw [blkB_yes hb] at hbk
      cases hbk
    · have hw : zs = [] ∧ s4 = s2.setPt x { p with at_ := r, goal := m } := by
        rcases hD with ⟨hh, -⟩ | ⟨-, xs, hxs, hz, h4⟩
        · rw [Pt.calm (p := { p with at_ := r, goal := m }) n5] at hh
          cases hh
        · have e := wbL_older x p.stamp (s2.setPt x { p with at_ := r, goal := m }) xs (fun y hy b hb => by
            obtain ⟨a1, a2, b', a3, a4, a5⟩ := hold y ((hxs y).1 hy)
            replace hb : upd s2.lv x _ y = some b := hb
            rw [upd_other a1, hl2, a3] at hb
            cases hb
            rw [n1]
            omega)
          rw [e] at hz h4
          exact ⟨hz.trans srt_nil, h4⟩
      obtain ⟨rfl, rfl⟩ := hw
      refine ⟨2, u, e1, rfl, _, { p with at_ := r, goal := m }, q2, own_nil_form hrow, h.ext hT4 hE4, hE4, ?_, ⟨n1, n2, rfl, rfl, n5⟩, ?_, hqf, hqq⟩
      · show upd s2.lv x _ = _
        rw [hl2]
      · show s2.pl r = _
        rw [hp2, upd_same]
end Go.Proofs.YtfeiocahlhklaaaDoor
