/- GateOwn: keep, walked. -/
import Derived.Test.YtmclbnhbioficacGo1
namespace Go.Proofs.Ytmclbnhbioficac
open Go.RowKit

abbrev rep (n : Nat) (x : Int) : List Int := List.replicate n x
/-- A copy of a row. -/
theorem app_copy {w : World} {va : Option Addr} {n vc : Nat} {l : List Int} (h : SwI w (.slice va n vc) l) (hn : n = l.length) (hl : l.length ≤ 1000) : ∃ v' w', (Builtin.append_ #[33, 33] 33 #[.slice none 0 0, (.slice va n vc)]).run Try.prog w = .ok v' w' ∧ SwI w' v' l ∧ G w w' ∧ Fresh w v' := by
  subst hn
  by_cases h0 : l.length = 0
  · have e0 : l = [] := List.eq_nil_of_length_eq_zero h0
    subst e0
    exact ⟨_, w, app_nilI va vc w, Sw.nil _ _ _, G.refl _, fun k e => by simp [Value.ownBlock] at e⟩
  · obtain ⟨g, cap, e⟩ := h.slice (by omega)
    injection e with e1 _ e3
    subst e1 e3
    obtain ⟨v', w', hr, hs, hch, hob⟩ := app_all (Sw.nil eI 3 w) ⟨g, 0, none⟩ vc l (h.cellI) (by simp; omega)
    rw [List.nil_append] at hs
    refine ⟨v', w', hr, hs, hch.G (fun k e => by simp [Value.ownBlock] at e), fun k e => ?_⟩
    rcases hob with q | q
    · rw [q] at e; simp [Value.ownBlock] at e
    · rw [q] at e; have := Option.some.inj e; omega
def KeepP (bv v : Value) (es : List (SV × SV)) (n : Nat) (mark : Int) (W : World) (e : Ending) (W' : World) : Prop := ∃ (bv' : Value) (s1 s2 s3 s4 : SV), e = .returned bv' ∧ SwK W' bv' (es ++ [(s1, s2)] ++ [(s3, s4)]) ∧ RowI W' (sv s1) (rep n mark) ∧ RowI W' (sv s2) (rep n mark) ∧ RowI W' (sv s3) (rep n mark ++ rep 64 (mark + 1)) ∧ RowI W' (sv s4) (rep n mark ++ rep 64 (mark + 1)) ∧ Chg (fun k => v.ownBlock = some k ∨ bv.ownBlock = some k) W W' ∧ (∀ s ∈ [s1, s2, s3, s4], ∀ k, (sv s).ownBlock = some k → (v.ownBlock = some k ∨ W.heap.size ≤ k) ∧ k < W'.heap.size ∧ bv'.ownBlock ≠ some k) ∧ (∀ k, bv'.ownBlock = some k → bv.ownBlock = some k ∨ W.heap.size ≤ k)
theorem RowI.of_lt {w : World} {v : Value} {l : List Int} (h : SwI w v l) {k : Nat} (hk : v.ownBlock = some k) : k < w.heap.size := h.lt hk
/-- While 64 more are put behind both. -/
structure Kw (w1 w3 w4 wr : World) (v wv bv1 gv vv : Value) (es1 : List (SV × SV)) (n i : Nat) (mark : Int) : Prop where
  g : SwI wr gv (rep n mark ++ rep i (mark + 1))
  x : SwI wr vv (rep n mark ++ rep i (mark + 1))
  l : RowI wr v (rep n mark)
  w : RowI wr wv (rep n mark)
  b : SwK wr bv1 es1
  c : Chg (fun k => v.ownBlock = some k) w4 wr
  go : ∀ k, gv.ownBlock = some k → v.ownBlock = some k ∨ w4.heap.size ≤ k
  xo : ∀ k, vv.ownBlock = some k → w3.heap.size ≤ k
  ap : ∀ k, gv.ownBlock = some k → vv.ownBlock ≠ some k
/-- What is fixed the while. -/
structure Kf (w1 w3 w4 : World) (v wv : Value) (n : Nat) : Prop where
  vf : ∃ o c, v = .slice o n c ∧ (n = 0 ∨ ∃ g, o = some ⟨g, 0, none⟩)
  v1 : ∀ k, v.ownBlock = some k → k < w3.heap.size
  w1 : ∀ k, wv.ownBlock = some k → k < w3.heap.size ∧ v.ownBlock ≠ some k
  s : w3.heap.size ≤ w4.heap.size
theorem Kw.G {w1 w3 w4 wr w' : World} {v wv bv1 gv vv : Value} {es1 : List (SV × SV)} {n i : Nat} {mark : Int} (h : Kw w1 w3 w4 wr v wv bv1 gv vv es1 n i mark) (k : Go.Proofs.Ytmclbnhbioficac.G wr w') : Kw w1 w3 w4 w' v wv bv1 gv vv es1 n i mark := ⟨h.g.G k, h.x.G k, h.l.G k, h.w.G k, h.b.G k, h.c.trans k.chg, h.go, h.xo, h.ap⟩
theorem rep_snoc (n i : Nat) (mark : Int) : rep n mark ++ rep i (mark + 1) ++ [mark + 1] = rep n mark ++ rep (i + 1) (mark + 1) := by
  rw [List.append_assoc]
  congr 1
  exact (List.replicate_succ' (n := i) (a := mark + 1)).symm
/-- One more behind the first. -/
theorem Kw.one {w1 w3 w4 wr : World} {v wv bv1 gv vv : Value} {es1 : List (SV × SV)} {n i : Nat} {mark : Int} (f : Kf w1 w3 w4 v wv n) (h : Kw w1 w3 w4 wr v wv bv1 gv vv es1 n i mark) (hn : n + i ≤ 2000) :
    ∃ g' w', (Builtin.append_ #[33, 33] 33 #[gv, .slice (some ⟨wr.heap.size, 0, none⟩) 1 1]).run Try.prog (wr.alloc (.cells #[I (mark + 1)] 3)) = .ok g' w' ∧ SwI w' g' (rep n mark ++ rep (i + 1) (mark + 1)) ∧ SwI w' vv (rep n mark ++ rep i (mark + 1)) ∧ RowI w' v (rep n mark) ∧ RowI w' wv (rep n mark) ∧ SwK w' bv1 es1 ∧ Chg (fun k => v.ownBlock = some k) w4 w' ∧ (∀ k, g'.ownBlock = some k → v.ownBlock = some k ∨ w4.heap.size ≤ k) ∧ (∀ k, g'.ownBlock = some k → vv.ownBlock ≠ some k) := by
  obtain ⟨g', w', q1, q2, q3⟩ := app_int h.g (by simp; omega) (mark + 1)
  rw [rep_snoc] at q2
  have hA := (G.refl wr).alloc (.cells #[I (mark + 1)] 3)
  have h0 := h.G hA
  have hc := Chg.app q3
  have hs4 : w4.heap.size ≤ (wr.alloc (.cells #[I (mark + 1)] 3)).heap.size := h0.c.size
  refine ⟨g', w', q1, q2, h0.x.chg hc.1 (fun k e q => h0.ap k q e), ?_, ?_, ?_, ?_, fun k e => ?_, fun k e q => ?_⟩
  · rcases q3 with q3 | q3
    · by_cases e : gv.ownBlock = v.ownBlock
      · obtain ⟨o, c, rfl, hv⟩ := f.vf
        exact RowI.pre q2 ⟨o, c, by rw [List.length_replicate], hv.elim (fun q => .inl (by rw [q]; rfl)) .inr⟩ (q3.1.trans e)
      · exact h0.l.chg hc.1 (fun k e1 e2 => e (e2.trans e1.symm))
    · exact h0.l.G q3.2
  · refine h0.w.chg hc.1 (fun k e1 e2 => ?_)
    rcases h0.go k e2 with r | r
    · exact (f.w1 k e1).2 r
    · exact Nat.not_le.2 (f.w1 k e1).1 (Nat.le_trans f.s r)
  · exact h0.b.chg hc.1 (fun k e1 e2 => by
      obtain ⟨xs, hx⟩ := own_blk h0.g e2
      exact h0.b.ne hx (by decide) e1)
  · exact h0.c.more hc.1 (fun i hi e => (h0.go i e).resolve_right (Nat.not_le.2 hi))
  · rcases hc.2 k e with r | r
    · exact h0.go k r
    · exact .inr (Nat.le_trans hs4 r)
  · rcases hc.2 k e with r | r
    · exact h0.ap k r q
    · exact Nat.not_le.2 (h0.x.lt q) r
/-- One more behind the second. -/
theorem Kw.two {w1 w3 w4 wr : World} {v wv bv1 gv vv : Value} {es1 : List (SV × SV)} {n i : Nat} {mark : Int} (f : Kf w1 w3 w4 v wv n) (hg : SwI wr gv (rep n mark ++ rep (i + 1) (mark + 1))) (hx : SwI wr vv (rep n mark ++ rep i (mark + 1))) (hl : RowI wr v (rep n mark)) (hw : RowI wr wv (rep n mark)) (hb : SwK wr bv1 es1) (hc4 : Chg (fun k => v.ownBlock = some k) w4 wr) (hgo : ∀ k, gv.ownBlock = some k → v.ownBlock = some k ∨ w4.heap.size ≤ k) (hap : ∀ k, gv.ownBlock = some k → vv.ownBlock ≠ some k) (hxo : ∀ k, vv.ownBlock = some k → w3.heap.size ≤ k) (hn : n + i ≤ 2000) (hx4 : ∀ k, vv.ownBlock = some k → k < w4.heap.size → False) :
    ∃ v' w', (Builtin.append_ #[33, 33] 33 #[vv, .slice (some ⟨wr.heap.size, 0, none⟩) 1 1]).run Try.prog (wr.alloc (.cells #[I (mark + 1)] 3)) = .ok v' w' ∧ Kw w1 w3 w4 w' v wv bv1 gv v' es1 n (i + 1) mark ∧ ∀ k, v'.ownBlock = some k → k < w4.heap.size → False := by
  obtain ⟨v', w', q1, q2, q3⟩ := app_int hx (by simp; omega) (mark + 1)
  rw [rep_snoc] at q2
  have hA := (G.refl wr).alloc (.cells #[I (mark + 1)] 3)
  have hc := Chg.app q3
  have hs4 : w4.heap.size ≤ (wr.alloc (.cells #[I (mark + 1)] 3)).heap.size := Nat.le_trans hc4.size hA.size
  refine ⟨v', w', q1, ⟨(hg.G hA).chg hc.1 (fun k e q => hap k e q), q2, (hl.G hA).chg hc.1 (fun k e q => hx4 k q (Nat.lt_of_lt_of_le (f.v1 k e) f.s)), (hw.G hA).chg hc.1 (fun k e q => hx4 k q (Nat.lt_of_lt_of_le (f.w1 k e).1 f.s)), (hb.G hA).chg hc.1 (fun k e1 e2 => by
    obtain ⟨xs, hxx⟩ := own_blk (hx.G hA) e2
    exact (hb.G hA).ne hxx (by decide) e1), (hc4.trans hA.chg).more hc.1 (fun i hi e => absurd (hx4 i e hi) id), hgo, fun k e => ?_, fun k e q => ?_⟩, fun k e hk => ?_⟩
  · rcases hc.2 k e with r | r
    · exact hxo k r
    · exact Nat.le_trans f.s (Nat.le_trans hs4 r)
  · rcases hc.2 k q with r | r
    · exact hap k e r
    · exact Nat.not_le.2 ((hg.G hA).lt e) r
  · rcases hc.2 k e with r | r
    · exact hx4 k r hk
    · exact Nat.not_le.2 hk (Nat.le_trans hs4 r)
end Go.Proofs.Ytmclbnhbioficac
