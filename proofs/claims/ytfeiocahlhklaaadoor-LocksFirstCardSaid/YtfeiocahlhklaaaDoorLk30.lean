/- Locks: what LocksFirst's Ends serve. -/
import Derived.Test.YtfeiocahlhklaaaDoorLk29
namespace Go.Proofs.YtfeiocahlhklaaaDoor
open Go.RowKit
variable {W0 : World} {B : Nat} {ri : List Value}

/-- Behind the first grant. -/
def SrA (s : Gs) (r : Rs) (B : Nat) (a b : Int) (s' : Gs) : Prop := s'.own = s.own ∧ (∃ p', s'.lv = upd s.lv 2 (some p') ∧ p'.has 2 r a) ∧ ∃ q', s'.pl r = some q' ∧ q'.blk = B ∧ (∀ z, q'.hf z = if z = 2 then a else 0) ∧ q'.qs = [(3, b)]
/-- Behind the second. -/
def SrB (s : Gs) (r : Rs) (B : Nat) (s' : Gs) : Prop := s'.own = s.own ∧ ∃ q', s'.pl r = some q' ∧ q'.blk = B ∧ (∀ z, q'.hf z ≠ 0 → z = 2 ∨ z = 3) ∧ q'.hf 2 ≠ 0 ∧ q'.qs = []
def Inv1 (s : Gs) (r : Rs) (B : Nat) (a b : Int) (s' : Gs) (k : Nat) (out : List Int) : Prop := (k = 0 ∧ out = [] ∧ s' = s) ∨ (k = 0 ∧ out = [2] ∧ SrA s r B a b s') ∨ (k = 1 ∧ out = [2] ∧ SrA s r B a b s' ∧ fitB a b = false) ∨ (k = 0 ∧ out = [2, 3] ∧ SrB s r B s' ∧ fitB a b = true)
theorem has_of_wants {p : Pt} {st m : Int} {r : Rs} (h : p.wants st r m) : ((p.hold r m).rest).has st r m := by
  obtain ⟨n1, n2, n3, n4, n5⟩ := h
  refine ⟨n1, ?_, fun z hz => ?_, rfl, n5⟩
  · show upd p.hf r m r = m
    rw [upd_same]
  · replace hz : upd p.hf r m z ≠ 0 := hz
    by_cases e : z = r
    · exact e
    · rw [upd_other e] at hz
      exact absurd (n2 z) hz
theorem srv1 (s : Gs) (r : Rs) (q : Pl) (a b : Int) (p2 p3 : Pt) (ha : a ≠ 0) (hb : b ≠ 0) (hq : s.pl r = some q) (hf : ∀ z, q.hf z = 0) (hqs : q.qs = [(2, a), (3, b)]) (h2 : s.lv 2 = some p2) (h3 : s.lv 3 = some p3) (w2 : p2.wants 2 r a) (w3 : p3.wants 3 r b) :
    SrvOk (Inv1 s r q.blk a b) s r q.blk [2, 3] [r] := by
  rintro s' k out (⟨rfl, rfl, rfl⟩ | ⟨rfl, rfl, hA⟩ | ⟨rfl, rfl, hA, hfit⟩ | ⟨rfl, rfl, hB, hfit⟩)
  · refine ⟨rfl, by simp, q, hq, rfl, fun z hz => absurd (hf z) hz, by rw [hqs]; simp, Nat.zero_le _, fun e => by rw [hqs] at e; simp at e, fun y g hy => ?_⟩
    rw [hqs] at hy
    simp only [List.getElem?_cons_zero, Option.some.injEq, Prod.mk.injEq] at hy
    obtain ⟨rfl, rfl⟩ := hy
    have hbk : blkB q 2 a 0 = false := blkB_no (fun ⟨y, hy⟩ => by
      rcases hy with hy | ⟨i, g, hi, -⟩
      · exact absurd (hf y) hy.1
      · omega)
    refine ⟨r64_small (by omega) (by omega), ha, p2, h2, fun z hz => absurd (w2.2.1 z) hz, (fun e => by rw [hbk] at e; cases e), fun _ v' => .inr (.inl ⟨rfl, rfl, rfl, ⟨_, rfl, has_of_wants w2⟩, ({ q with q := v', qs := cutQ q.qs 0 } : Pl).hold 2 a, ?_, ?_, fun z => ?_, ?_⟩)⟩
    · show upd _ r _ r = _
      rw [upd_same]
    · rfl
    · show upd q.hf 2 a z = _
      unfold upd
      rw [hf z]
    · show cutQ q.qs 0 = _
      rw [hqs]
      rfl
  · obtain ⟨ho, ⟨p', hl, hp'⟩, q', hq', hqb, hqf, hqq⟩ := hA
    refine ⟨ho, by simp, q', hq', hqb, fun z hz => ?_, by rw [hqq]; simp, Nat.zero_le _, fun e => by rw [hqq] at e; simp at e, fun y g hy => ?_⟩
    · rw [hqf z] at hz
      split at hz
      · rename_i e; rw [e]; exact ⟨by simp, r64_small (by omega) (by omega)⟩
      · exact absurd rfl hz
    rw [hqq] at hy
    simp only [List.getElem?_cons_zero, Option.some.injEq, Prod.mk.injEq] at hy
    obtain ⟨rfl, rfl⟩ := hy
    have h22 : q'.hf 2 = a := by rw [hqf]; rfl
    refine ⟨r64_small (by omega) (by omega), hb, p3, by rw [hl, upd_other (by omega)]; exact h3, fun z hz => absurd (w3.2.1 z) hz, fun e => .inr (.inr (.inl ⟨rfl, rfl, ⟨ho, ⟨p', hl, hp'⟩, q', hq', hqb, hqf, hqq⟩, ?_⟩)), fun e v' => .inr (.inr (.inr ⟨rfl, rfl, ⟨ho, ({ q' with q := v', qs := cutQ q'.qs 0 } : Pl).hold 3 b, ?_, hqb, fun z hz => ?_, ?_, ?_⟩, ?_⟩))⟩
    · have hex : ∃ y, inW q'.hf q'.qs 3 b 0 y := Classical.byContradiction fun hno => by
        rw [blkB_no hno] at e
        cases e
      obtain ⟨y, hy | ⟨i, g, hi, -⟩⟩ := hex
      · have h1 := hy.1
        rw [hqf y] at h1
        split at h1
        · rename_i e2
          have h3 := hy.2.2
          rw [e2, h22] at h3
          exact h3
        · exact absurd rfl h1
      · omega
    · show upd _ r _ r = _
      rw [upd_same]
    · replace hz : upd q'.hf 3 b z ≠ 0 := hz
      by_cases e3 : z = 3
      · exact .inr e3
      · rw [upd_other e3, hqf z] at hz
        split at hz
        · rename_i e4; exact .inl e4
        · exact absurd rfl hz
    · show upd q'.hf 3 b 2 ≠ 0
      rw [upd_other (by omega), h22]
      exact ha
    · show cutQ q'.qs 0 = _
      rw [hqq]
      rfl
    · cases hfit : fitB a b with
      | true => rfl
      | false =>
        rw [blkB_yes ⟨2, .inl ⟨by rw [h22]; exact ha, by omega, by rw [h22]; exact hfit⟩⟩] at e
        cases e
  · obtain ⟨ho, ⟨p', hl, hp'⟩, q', hq', hqb, hqf, hqq⟩ := hA
    refine ⟨ho, by simp, q', hq', hqb, fun z hz => ?_, by rw [hqq]; simp, by rw [hqq]; simp, fun _ => ⟨2, by rw [hqf]; exact ha⟩, fun y g hy => by rw [hqq] at hy; simp at hy⟩
    rw [hqf z] at hz
    split at hz
    · rename_i e; rw [e]; exact ⟨by simp, r64_small (by omega) (by omega)⟩
    · exact absurd rfl hz
  · obtain ⟨ho, q', hq', hqb, hqf, h22, hqq⟩ := hB
    refine ⟨ho, by simp, q', hq', hqb, fun z hz => ?_, by rw [hqq]; simp, Nat.zero_le _, fun _ => ⟨2, h22⟩, fun y g hy => by rw [hqq] at hy; simp at hy⟩
    rcases hqf z hz with e | e <;> rw [e] <;> exact ⟨by simp, r64_small (by omega) (by omega)⟩
def SrC (s : Gs) (r : Rs) (B : Nat) (b : Int) (s' : Gs) : Prop := s'.own = s.own ∧ (∃ p', s'.lv = upd s.lv 3 (some p') ∧ p'.has 3 r b) ∧ ∃ q', s'.pl r = some q' ∧ q'.blk = B ∧ (∀ z, q'.hf z = if z = 3 then b else 0) ∧ q'.qs = []
def Inv2 (s : Gs) (r : Rs) (B : Nat) (b : Int) (s' : Gs) (k : Nat) (out : List Int) : Prop := (k = 0 ∧ out = [] ∧ s' = s) ∨ (k = 0 ∧ out = [3] ∧ SrC s r B b s')
theorem srvLen {s : Gs} {r : Rs} {B : Nat} {a b : Int} {s' : Gs} {k : Nat} {out : List Int} (h : Inv1 s r B a b s' k out) : out.length < 1099511627776 := by
  rcases h with ⟨-, rfl, -⟩ | ⟨-, rfl, -⟩ | ⟨-, rfl, -⟩ | ⟨-, rfl, -⟩ <;> simp
theorem srv2 (s : Gs) (r : Rs) (q : Pl) (b : Int) (p3 : Pt) (hb : b ≠ 0) (hq : s.pl r = some q) (hf : ∀ z, q.hf z = 0) (hqs : q.qs = [(3, b)]) (h3 : s.lv 3 = some p3) (w3 : p3.wants 3 r b) :
    SrvOk (Inv2 s r q.blk b) s r q.blk [3] [r] := by
  rintro s' k out (⟨rfl, rfl, rfl⟩ | ⟨rfl, rfl, hA⟩)
  · refine ⟨rfl, by simp, q, hq, rfl, fun z hz => absurd (hf z) hz, by rw [hqs]; simp, Nat.zero_le _, fun e => by rw [hqs] at e; simp at e, fun y g hy => ?_⟩
    rw [hqs] at hy
    simp only [List.getElem?_cons_zero, Option.some.injEq, Prod.mk.injEq] at hy
    obtain ⟨rfl, rfl⟩ := hy
    have hbk : blkB q 3 b 0 = false := blkB_no (fun ⟨y, hy⟩ => by
      rcases hy with hy | ⟨i, g, hi, -⟩
      · exact absurd (hf y) hy.1
      · omega)
    refine ⟨r64_small (by omega) (by omega), hb, p3, h3, fun z hz => absurd (w3.2.1 z) hz, (fun e => by rw [hbk] at e; cases e), fun _ v' => .inr ⟨rfl, rfl, rfl, ⟨_, rfl, has_of_wants w3⟩, ({ q with q := v', qs := cutQ q.qs 0 } : Pl).hold 3 b, ?_, ?_, fun z => ?_, ?_⟩⟩
    · show upd _ r _ r = _
      rw [upd_same]
    · rfl
    · show upd q.hf 3 b z = _
      unfold upd
      rw [hf z]
    · show cutQ q.qs 0 = _
      rw [hqs]
      rfl
  · obtain ⟨ho, ⟨p', hl, hp'⟩, q', hq', hqb, hqf, hqq⟩ := hA
    refine ⟨ho, by simp, q', hq', hqb, fun z hz => ?_, by rw [hqq]; simp, by rw [hqq]; simp, fun _ => ⟨3, by rw [hqf]; exact hb⟩, fun y g hy => by rw [hqq] at hy; simp at hy⟩
    rw [hqf z] at hz
    split at hz
    · rename_i e; rw [e]; exact ⟨by simp, r64_small (by omega) (by omega)⟩
    · exact absurd rfl hz
/-- End of 1: 2 is served, and 3 too if it fits. -/
theorem end1 (t : Nat) (s : Gs) (r : Rs) (w : World) (a b : Int) (p1 p2 p3 : Pt) (q : Pl) (h : St W0 B ri w t s) (hr : r.ok) (ha : a ≠ 0) (hb : b ≠ 0) (h1 : s.lv 1 = some p1) (h2 : s.lv 2 = some p2) (h3 : s.lv 3 = some p3) (w1 : p1.has 1 r 5) (w2 : p2.wants 2 r a) (w3 : p3.wants 3 r b) (hq : s.pl r = some q) (hf : ∀ z, q.hf z = if z = 1 then 5 else 0) (hqs : q.qs = [(2, a), (3, b)]) :
    Calls Tryd.prog 8 #[ptr t, I 1] w fun e w' => ∃ u out s', e = .returned (.tuple #[u, .slice none 0 0, I 0]) ∧ RowI w' u out ∧ out = (if fitB a b then [2, 3] else [2]) ∧ St W0 B ri w' t s' ∧ (fitB a b = false → ∃ p2' q', s'.lv 2 = some p2' ∧ p2'.has 2 r a ∧ s'.lv 3 = some p3 ∧ s'.pl r = some q' ∧ (∀ z, q'.hf z = if z = 2 then a else 0) ∧ q'.qs = [(3, b)]) := by
  have hmx : (1099511627776 : Nat) ≤ maxLen := of_decide_eq_true (by kernel_rfl)
  refine (End_one t s 1 r p1 q w (fun s' out => ∃ k, Inv1 ((s.delPt 1).setPl r (q.hold 1 0)) r q.blk a b s' k out ∧ ∃ q', s'.pl r = some q' ∧ k = q'.qs.length) h.tt h.tb h.gl (r64_small (by omega) (by omega)) h1 hr w1.2.2.2.1 (by rw [w1.2.1]; omega) w1.2.2.1 hq (fun o ho => by rw [hqs] at ho; simp at ho; rcases ho with e | e <;> rw [e] <;> simp) (by rw [hqs]; simp; omega) (fun w3' hT3 hTb3 => ?_)).mono ?_
  · have hq3 : ((s.delPt 1).setPl r (q.hold 1 0)).pl r = some (q.hold 1 0) := by simp [Gs.setPl]
    refine (serve_any t _ r (q.hold 1 0) w3' (Inv1 ((s.delPt 1).setPl r (q.hold 1 0)) r q.blk a b) [2, 3] [r] hT3 hTb3 h.gl hr hq3 (.inl ⟨rfl, rfl, rfl⟩) (srv1 _ r (q.hold 1 0) a b p2 p3 ha hb hq3 (fun z => ?_) hqs ?_ ?_ w2 w3) (by simp; omega) (by simp; omega)).mono ?_
    · show upd q.hf 1 0 z = 0
      unfold upd
      rw [hf z]
      split <;> rfl
    · show upd s.lv 1 none 2 = _
      rw [upd_other (by omega)]; exact h2
    · show upd s.lv 1 none 3 = _
      rw [upd_other (by omega)]; exact h3
    · rintro e w' ⟨u, s', k, out, q', e1, e2, e3, e4, e5, e6, e7⟩
      exact ⟨u, out, s', e1, (srvLen e2), e5, e6, e7, k, e2, q', e3, e4⟩
  · rintro e w' ⟨u, out, s', e1, e2, e3, e4, k, e5, q', e6, e7⟩
    have hfin : out = (if fitB a b then [2, 3] else [2]) ∧ (fitB a b = false → SrA ((s.delPt 1).setPl r (q.hold 1 0)) r q.blk a b s') := by
      rcases e5 with ⟨k0, o0, rfl⟩ | ⟨k0, o0, hA⟩ | ⟨k0, o0, hA, hfit⟩ | ⟨k0, o0, hB, hfit⟩
      · exfalso
        have hq3 : ((s.delPt 1).setPl r (q.hold 1 0)).pl r = some (q.hold 1 0) := by simp [Gs.setPl]
        rw [hq3] at e6
        cases e6
        rw [k0] at e7
        have : (q.hold 1 0).qs = [(2, a), (3, b)] := hqs
        rw [this] at e7
        simp at e7
      · exfalso
        obtain ⟨-, -, q2, e8, -, -, e9⟩ := hA
        rw [e8] at e6
        cases e6
        rw [k0, e9] at e7
        simp at e7
      · rw [hfit, o0]; exact ⟨rfl, fun _ => hA⟩
      · rw [hfit, o0]; exact ⟨rfl, fun e => by cases e⟩
    refine ⟨u, out, s', e1, RowI.of_own e2, hfin.1, h.ext e3 e4, fun hfit => ?_⟩
    obtain ⟨-, ⟨p', hl, hp'⟩, q2, e8, -, e10, e9⟩ := hfin.2 hfit
    refine ⟨p', q2, by rw [hl, upd_same], hp', ?_, e8, e10, e9⟩
    rw [hl, upd_other (by omega)]
    show upd s.lv 1 none 3 = _
    rw [upd_other (by omega)]
    exact h3
end Go.Proofs.YtfeiocahlhklaaaDoor
