/- Paths: the way, as a thing of thought. -/
import Derived.Test.YtcbjcienjolceaaDoorPn1
import Derived.Test.YtcbjcienjolceaaDoorPw3
namespace Go.Proofs.YtcbjcienjolceaaDoor

/-- One find leads on to the next. -/
def Lnk (rs : List Nr) (from_ : Int) (p c : Fd) : Prop := (∃ a ∈ (netOf rs false p.n).1, c.n = a.2.1 ∧ c.s = p.s + a.2.2 ∧ c.e = a.1) ∧ IsD false rs false from_ p.n p.s ∧ IsD false rs false from_ c.n c.s
/-- The finds of a way, the last one first. -/
structure Chn (rs : List Nr) (from_ : Int) (D : List Fd) (x : Fd) : Prop where
  head : D[0]? = some x
  last : ∀ q, D[q]? ≠ none → D[q + 1]? = none → D[q]? = some ⟨from_, 0, 0, -1⟩
  link : ∀ (q : Nat) c p, D[q]? = some c → D[q + 1]? = some p → Lnk rs from_ p c
theorem chain {rs : List Nr} {from_ : Int} {fs : List Fd} {st : List Sn} (k : Org rs false from_ fs st) (hst : ∀ p ∈ st, IsD false rs false from_ p.1 p.2) : ∀ (f i : Nat), i < fs.length → i < f → IsD false rs false from_ (fs[i]!).n (fs[i]!).s → Chn rs from_ (wayL fs f i) fs[i]!
  | 0, i, _, h, _ => by omega
  | f + 1, i, hi, h, hD => by
    unfold wayL
    rcases k.org i hi with e | ⟨i', a, h1, h2, h3, h4⟩
    · rw [e]
      refine ⟨rfl, fun q hq hn => ?_, fun q c p hc hp => ?_⟩
      · match q, hq with
        | 0, _ => rfl
        | q + 1, hq => simp at hq
      · simp at hp
    · have hb : ¬ ((fs[i]!).b < 0) := by rw [h4]; simp
      have hbn : (fs[i]!).b.toNat = i' := by rw [h4]; simp
      rw [if_neg hb, hbn]
      have hD' := hst _ h2
      have ih := chain k hst f i' (by omega) (by omega) hD'
      refine ⟨rfl, fun q hq hn => ?_, fun q c p hc hp => ?_⟩
      · match q, hq, hn with
        | 0, _, hn =>
          have := ih.head
          simp only [Nat.zero_add, List.getElem?_cons_succ] at hn
          rw [hn] at this
          cases this
        | q + 1, hq, hn =>
          rw [List.getElem?_cons_succ] at hq hn ⊢
          exact ih.last q hq hn
      · match q, hc, hp with
        | 0, hc, hp =>
          simp only [List.getElem?_cons_zero, Option.some.injEq] at hc
          simp only [Nat.zero_add, List.getElem?_cons_succ] at hp
          rw [ih.head] at hp
          cases hp
          subst hc
          refine ⟨⟨a, h3, ?_, ?_, ?_⟩, hD', hD⟩ <;> rw [h4]
        | q + 1, hc, hp =>
          rw [List.getElem?_cons_succ] at hc hp
          exact ih.link q c p hc hp
/-- The same, the first one first. -/
structure Way (rs : List Nr) (from_ : Int) (E : List Fd) (x : Fd) : Prop where
  len : 0 < E.length
  first : E[0]? = some ⟨from_, 0, 0, -1⟩
  last : E[E.length - 1]? = some x
  link : ∀ (q : Nat) p c, E[q]? = some p → E[q + 1]? = some c → Lnk rs from_ p c
theorem Chn.way {rs : List Nr} {from_ : Int} {D : List Fd} {x : Fd} (k : Chn rs from_ D x) : Way rs from_ D.reverse x := by
  have hl : 0 < D.length := (List.getElem?_eq_some_iff.1 k.head).1
  have hn : D[D.length - 1]? ≠ none := by rw [List.getElem?_eq_getElem (by omega)]; simp
  refine ⟨by rw [List.length_reverse]; exact hl, ?_, ?_, fun q p c hp hc => ?_⟩
  · rw [List.getElem?_reverse (by omega), Nat.sub_zero]
    exact k.last _ hn (List.getElem?_eq_none (by omega))
  · rw [List.length_reverse, List.getElem?_reverse (by omega), show D.length - 1 - (D.length - 1) = 0 by omega]
    exact k.head
  · have hq : q + 1 < D.length := by have := (List.getElem?_eq_some_iff.1 hc).1; rwa [List.length_reverse] at this
    rw [List.getElem?_reverse (by omega)] at hp hc
    refine k.link (D.length - 1 - (q + 1)) c p hc ?_
    rw [show D.length - 1 - (q + 1) + 1 = D.length - 1 - q by omega]
    exact hp
/-- No arc between the two is lighter. -/
theorem Lnk.least {rs : List Nr} {from_ : Int} {p c : Fd} (k : Lnk rs from_ p c) : (∃ a ∈ (netOf rs false p.n).1, a.2.1 = c.n ∧ a.1 = c.e ∧ a.2.2 = c.s - p.s) ∧ ∀ a ∈ (netOf rs false p.n).1, a.2.1 = c.n → c.s - p.s ≤ a.2.2 := by
  obtain ⟨⟨a, ha, h1, h2, h3⟩, hp, hc⟩ := k
  refine ⟨⟨a, ha, h1.symm, h3.symm, by omega⟩, fun b hb he => ?_⟩
  have := hc.2 (p.s + wei false b) (by rw [← he]; exact .step hp.1 hb)
  have e : wei false b = b.2.2 := rfl
  omega
end Go.Proofs.YtcbjcienjolceaaDoor
