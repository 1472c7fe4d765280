/- GateOwn: the book. -/
import Derived.Test.YtmclbnhbioficacGo3
import Derived.Test.YtmclbnhbioficacGr6
namespace Go.Proofs.Ytmclbnhbioficac
open Go.RowKit
/-- Both lists of an entry hold the same. -/
def Ent (w : World) (x : SV × SV) : Prop := ∃ l : List Int, l.length ≤ 2000 ∧ RowI w (sv x.1) l ∧ RowI w (sv x.2) l
def At (x : SV × SV) (j : Nat) : Prop := (sv x.1).ownBlock = some j ∨ (sv x.2).ownBlock = some j
theorem Ent.chg {F : Nat → Prop} {w w' : World} {x : SV × SV} (h : Ent w x) (k : Chg F w w') (hF : ∀ j, At x j → ¬ F j) : Ent w' x := by
  obtain ⟨l, hl, h1, h2⟩ := h
  exact ⟨l, hl, h1.chg k (fun b e => hF b (.inl e)), h2.chg k (fun b e => hF b (.inr e))⟩
/-- What is known of the two gates and of the book. -/
structure Bo (W wr : World) (b r : Nat) (m : GM) (K K2 : Nat → Prop) (bv : Value) (es : List (SV × SV)) : Prop where
  p : PR wr b r m K K2
  g : G W wr
  k : ∀ j, Un K K2 j → W.heap.size ≤ j
  s : SwK wr bv es
  o : ∀ j, bv.ownBlock = some j → W.heap.size ≤ j ∧ ¬ Un K K2 j
  e : ∀ x ∈ es, Ent wr x
  n : ∀ x ∈ es, ∀ j, At x j → j < wr.heap.size ∧ ¬ Un K K2 j ∧ bv.ownBlock ≠ some j
/-- A list of the caller's that is not yet in the book. -/
structure Pe (W wr : World) (K K2 : Nat → Prop) (es : List (SV × SV)) (v : Value) (l : List Int) : Prop where
  s : SwI wr v l
  n : ∀ j, v.ownBlock = some j → W.heap.size ≤ j ∧ ¬ Un K K2 j ∧ ∀ x ∈ es, ¬ At x j
theorem Bo.pass {W wr w' : World} {b r : Nat} {m m' : GM} {K K2 K' K2' : Nat → Prop} {bv : Value} {es : List (SV × SV)} (h : Bo W wr b r m K K2 bv es) (hp : PR w' b r m' K' K2') (hs : Ste (Un K K2) wr (Un K' K2') w') : Bo W w' b r m' K' K2' bv es := by
  obtain ⟨hg, hk⟩ := hs.toG h.g h.k
  have hn : ∀ j, j < wr.heap.size → ¬ Un K K2 j → ¬ Un K' K2' j := fun j hj h1 q => (hs.nw j q).elim h1 (fun r => Nat.not_le.2 hj r)
  exact ⟨hp, hg, hk, h.s.chg hs.chg (fun j e => (h.o j e).2), fun j e => ⟨(h.o j e).1, hn j (h.s.lt e) (h.o j e).2⟩, fun x hx => (h.e x hx).chg hs.chg (fun j e => (h.n x hx j e).2.1), fun x hx j e => ⟨Nat.lt_of_lt_of_le (h.n x hx j e).1 hs.chg.size, hn j (h.n x hx j e).1 (h.n x hx j e).2.1, (h.n x hx j e).2.2⟩⟩
theorem Bo.G {W wr w' : World} {b r : Nat} {m : GM} {K K2 : Nat → Prop} {bv : Value} {es : List (SV × SV)} (h : Bo W wr b r m K K2 bv es) (g : Go.Proofs.Ytmclbnhbioficac.G wr w') : Bo W w' b r m K K2 bv es := h.pass (h.p.G g) (Ste.G g)
theorem Pe.pass {W wr w' : World} {K K2 K' K2' : Nat → Prop} {es : List (SV × SV)} {v : Value} {l : List Int} (h : Pe W wr K K2 es v l) (hs : Ste (Un K K2) wr (Un K' K2') w') : Pe W w' K' K2' es v l :=
  ⟨h.s.chg hs.chg (fun j e => (h.n j e).2.1), fun j e => ⟨(h.n j e).1, fun q => (hs.nw j q).elim (h.n j e).2.1 (fun r => Nat.not_le.2 (h.s.lt e) r), (h.n j e).2.2⟩⟩
theorem Pe.G {W wr w' : World} {K K2 : Nat → Prop} {es : List (SV × SV)} {v : Value} {l : List Int} (h : Pe W wr K K2 es v l) (g : Go.Proofs.Ytmclbnhbioficac.G wr w') : Pe W w' K K2 es v l := h.pass (Ste.G g)
/-- A list that has just been handed out. -/
theorem Bo.new {W wr w' : World} {b r : Nat} {m : GM} {K K2 K' K2' : Nat → Prop} {bv : Value} {es : List (SV × SV)} (h : Bo W wr b r m K K2 bv es) {v : Value} {l : List Int} (hs : SwI w' v l) (hf : Fresh wr v) (hn : ∀ j, v.ownBlock = some j → ¬ Un K' K2' j) : Pe W w' K' K2' es v l :=
  ⟨hs, fun j e => ⟨Nat.le_trans h.g.size (hf j e), hn j e, fun x hx q => Nat.not_le.2 (h.n x hx j q).1 (hf j e)⟩⟩
theorem Bo.keep {W wr w' : World} {b r : Nat} {m : GM} {K K2 : Nat → Prop} {bv v : Value} {es : List (SV × SV)} {l : List Int} {n : Nat} {mark : Int} {e : Ending} (h : Bo W wr b r m K K2 bv es) (hv : Pe W wr K K2 es v l) (hn : n ≤ 1000) (hk : KeepP bv v es n mark wr e w') :
    ∃ bv' es', e = .returned bv' ∧ Bo W w' b r m K K2 bv' es' ∧ es'.length = es.length + 2 ∧ ∀ u l', Pe W wr K K2 es u l' → (∀ j, u.ownBlock = some j → v.ownBlock ≠ some j) → Pe W w' K K2 es' u l' := by
  obtain ⟨bv', s1, s2, s3, s4, rfl, hb, r1, r2, r3, r4, hc, hs, ho⟩ := hk
  have hx : ∀ x, x = (s1, s2) ∨ x = (s3, s4) → ∀ j, At x j → (v.ownBlock = some j ∨ wr.heap.size ≤ j) ∧ j < w'.heap.size ∧ bv'.ownBlock ≠ some j := fun x hx j e => by
    rcases hx with rfl | rfl <;> rcases e with e | e
    · exact hs s1 (by simp) j e
    · exact hs s2 (by simp) j e
    · exact hs s3 (by simp) j e
    · exact hs s4 (by simp) j e
  have hun : ∀ j, (v.ownBlock = some j ∨ wr.heap.size ≤ j) → ¬ Un K K2 j := fun j e q => by
    rcases e with e | e
    · exact (hv.n j e).2.1 q
    · exact Nat.not_le.2 (q.elim (h.p.p.lt j) (h.p.q.lt j)) e
  have hF : ∀ j, Un K K2 j → ¬ (v.ownBlock = some j ∨ bv.ownBlock = some j) := fun j q e => e.elim (fun e => (hv.n j e).2.1 q) (fun e => (h.o j e).2 q)
  have hmem : ∀ x, x ∈ es ++ [(s1, s2)] ++ [(s3, s4)] → x ∈ es ∨ (x = (s1, s2) ∨ x = (s3, s4)) := fun x q => by
    simp only [List.mem_append, List.mem_singleton] at q
    rcases q with (q | q) | q
    · exact .inl q
    · exact .inr (.inl q)
    · exact .inr (.inr q)
  refine ⟨bv', es ++ [(s1, s2)] ++ [(s3, s4)], rfl, ⟨⟨h.p.p.off hc (fun j q => hF j (.inl q)), h.p.q.off hc (fun j q => hF j (.inr q)), h.p.ap⟩, ?_, h.k, hb, fun j e => ?_, fun x q => ?_, fun x q j e => ?_⟩, by simp, fun u l' hu hap => ⟨hu.s.chg hc (fun j e q => ?_), fun j e => ⟨(hu.n j e).1, (hu.n j e).2.1, fun x q a => ?_⟩⟩⟩
  · exact ⟨hc.os.trans h.g.os, hc.tape.trans h.g.tape, hc.output.trans h.g.output, Nat.le_trans h.g.size hc.size, fun k hk => (hc.block k (Nat.lt_of_lt_of_le hk h.g.size) (fun e => Nat.not_le.2 hk (e.elim (fun e => (hv.n k e).1) (fun e => (h.o k e).1)))).trans (h.g.block k hk)⟩
  · rcases ho j e with q | q
    · exact h.o j q
    · exact ⟨Nat.le_trans h.g.size q, hun j (.inr q)⟩
  · rcases hmem x q with q | q
    · exact (h.e x q).chg hc (fun j a e => e.elim (fun e => (hv.n j e).2.2 x q a) (fun e => (h.n x q j a).2.2 e))
    · rcases q with rfl | rfl
      · exact ⟨_, by simp; omega, r1, r2⟩
      · exact ⟨_, by simp; omega, r3, r4⟩
  · rcases hmem x q with q | q
    · have h1 := h.n x q j e
      exact ⟨Nat.lt_of_lt_of_le h1.1 hc.size, h1.2.1, fun a => (ho j a).elim h1.2.2 (fun r => Nat.not_le.2 h1.1 r)⟩
    · have h1 := hx x q j e
      exact ⟨h1.2.1, hun j h1.1, h1.2.2⟩
  · rcases q with q | q
    · exact hap j e q
    · obtain ⟨xs, hxx⟩ := own_blk hu.s e
      exact h.s.ne hxx (by decide) q
  · rcases hmem x q with q | q
    · exact (hu.n j e).2.2 x q a
    · rcases (hx x q j a).1 with r | r
      · exact hap j e r
      · exact Nat.not_le.2 (hu.s.lt e) r
end Go.Proofs.Ytmclbnhbioficac
