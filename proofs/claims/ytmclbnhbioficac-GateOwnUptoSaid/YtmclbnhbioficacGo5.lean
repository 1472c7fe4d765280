/- GateOwn: the calls, with the book. -/
import Derived.Test.YtmclbnhbioficacGo4
namespace Go.Proofs.Ytmclbnhbioficac
open Go.RowKit
theorem stat_bo {W wr : World} {b r : Nat} {m : GM} {K K2 : Nat → Prop} {bv : Value} {es : List (SV × SV)} (h : Bo W wr b r m K K2 bv es) (hv : Iv m) :
    Calls Try.prog 11 #[ptr b] wr fun e w' => ∃ v4 v6 K', e = .returned (.agg #[v4, v6, I m.lg, I m.un, I m.mo]) ∧ Bo W w' b r m K' K2 bv es ∧ Pe W w' K' K2 es v4 m.ids ∧ Pe W w' K' K2 es v6 m.qids ∧ (∀ j, v4.ownBlock = some j → v6.ownBlock ≠ some j) ∧ Fresh wr v4 ∧ Fresh wr v6 ∧ Ste (Un K K2) wr (Un K' K2) w' := by
  refine (stat_any b m K wr h.p.p hv).mono ?_
  rintro e w' ⟨v4, v6, rfl, h4, h6, f4, f6, hap, K', hp, hs, hn⟩
  obtain ⟨hb, hst⟩ := h.p.both hp hs (h.p.ref hp hs) (Ste.refl K2 w')
  have n2 : ∀ (v : Value), Fresh wr v → (∀ j, v.ownBlock = some j → ¬ K' j) → ∀ j, v.ownBlock = some j → ¬ Un K' K2 j := fun v hf hk j e q => q.elim (hk j e) (fun q => Nat.not_le.2 (h.p.q.lt j q) (hf j e))
  exact ⟨v4, v6, K', rfl, h.pass hb hst, h.new h4 f4 (n2 v4 f4 (fun j e => hn j (.inl e))), h.new h6 f6 (n2 v6 f6 (fun j e => hn j (.inr e))), hap, f4, f6, hst⟩
theorem keep_bo {W wr : World} {b r : Nat} {m : GM} {K K2 : Nat → Prop} {bv v : Value} {es : List (SV × SV)} {l : List Int} (h : Bo W wr b r m K K2 bv es) (hv : Pe W wr K K2 es v l) (hl : l.length ≤ 1000) (he : es.length ≤ 900000000) (mark : Int) (hm : -1000000000000 ≤ mark ∧ mark ≤ 0) :
    Calls Try.prog 9 #[bv, v, I mark] wr fun e w' => ∃ bv' es', e = .returned bv' ∧ Bo W w' b r m K K2 bv' es' ∧ es'.length = es.length + 2 ∧ ∀ u l', (Pe W wr K K2 es u l' → (∀ j, u.ownBlock = some j → v.ownBlock ≠ some j) → Pe W w' K K2 es' u l') ∧ ∀ k xs, Blk wr k 39 xs → Blk w' k 39 xs := by
  obtain ⟨a, c, e⟩ := hv.s.form
  subst e
  refine (keep_any bv a l.length c es l mark wr h.s hv.s rfl hl he hm).mono fun e w' hk => ?_
  obtain ⟨bv', es', q1, q2, q3, q4⟩ := h.keep hv hl hk
  refine ⟨bv', es', q1, q2, q3, fun u l' => ⟨q4 u l', fun k xs hx => ?_⟩⟩
  obtain ⟨_, _, _, _, _, _, _, _, _, _, _, hc, _⟩ := hk
  exact hx.chg hc (fun q => q.elim (fun q => hv.s.ne hx (by decide) q) (fun q => h.s.ne hx (by decide) q))
/-- What is known between two steps. -/
structure Lw (W wr : World) (b r i : Nat) (mk : Int) (bv : Value) (es : List (SV × SV)) (m : GM) (K K2 : Nat → Prop) : Prop where
  b : Bo W wr b r m K K2 bv es
  iv : Iv m
  sp : m.sp ≤ i
  ck : m.ck ≤ i
  mr : mk = -3 - 10 * (i : Int)
  ln : es.length ≤ 10 * i
theorem iv_lens {m : GM} (h : Iv m) : m.ids.length ≤ 1000 ∧ m.qids.length ≤ 1000 := by
  have h1 : m.ids.length = m.ins.length := List.length_map _
  have h2 : m.qids.length = m.q.length := List.length_map _
  have h3 := h.crowd
  omega
end Go.Proofs.Ytmclbnhbioficac
