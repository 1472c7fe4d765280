/- Paths: Least. -/
import Derived.Test.YtemkilffagjmcaaDoorPwx
import Derived.BigRegion
import Derived.Test.YtemkilffagjmcaaDoorPj10
import Derived.Test.YtemkilffagjmcaaDoorPl2
import Derived.Test.YtemkilffagjmcaaDoorPv1
namespace Go.Proofs.YtemkilffagjmcaaDoor
section
section
open Go.RowKit

theorem ms3 {k n : Nat} (h : k < n) : n - ((k : Int) + 1).toNat < n - (k : Int).toNat := by omega
theorem wr1 {n i : Nat} (h : n ≤ 17179869184) (hi : i ≤ n) : wrap64 ((n : Int) - 1) = (n : Int) - 1 ∧ wrap64 ((i : Int) + 1) = (i : Int) + 1 ∧ wrap64 ((n : Int) - 1 - i - 1) = (n : Int) - 1 - ((i + 1 : Nat) : Int) := by unfold wrap64; omega
end
open Go.RowKit

/-- The finds from one back to the first. -/
def wayL (fs : List Fd) : Nat → Nat → List Fd
  | 0, _ => []
  | f + 1, i => fs[i]! :: (if (fs[i]!).b < 0 then [] else wayL fs f (fs[i]!).b.toNat)
/-- Each was found by one that was there ahead of it. -/
def Back (fs : List Fd) : Prop := ∀ j : Nat, j < fs.length → -1 ≤ (fs[j]!).b ∧ (fs[j]!).b < j
theorem wayL_fuel {fs : List Fd} (hb : Back fs) : ∀ (f i : Nat), i < fs.length → i < f → wayL fs f i = wayL fs (i + 1) i
  | 0, i, _, h => by omega
  | f + 1, i, hi, h => by
    unfold wayL
    split
    · rfl
    · rename_i hn
      have := hb i hi
      have e1 := wayL_fuel hb f (fs[i]!).b.toNat (by omega) (by omega)
      have e2 := wayL_fuel hb i (fs[i]!).b.toNat (by omega) (by omega)
      rw [e1, e2]
termination_by f => f
theorem wayL_len (fs : List Fd) : ∀ (f i : Nat), (wayL fs f i).length ≤ f
  | 0, i => Nat.le_refl _
  | f + 1, i => by
    unfold wayL
    split
    · rw [List.length_cons, List.length_nil]; omega
    · have := wayL_len fs f (fs[i]!).b.toNat
      rw [List.length_cons]
      omega
section
variable {W wr w1 w2 : World} {wb rb : Nat} {s0 : Int} {nv ev v2 : Value} {ns es : List Int}
end
end
open Go.RowKit

/-- Where the finds come from. -/
structure Org (rs : List Nr) (tail : Bool) (from_ : Int) (fs : List Fd) (st : List Sn) : Prop where
  one : st = [] → fs = [⟨from_, 0, 0, -1⟩]
  org : ∀ j, j < fs.length → fs[j]! = ⟨from_, 0, 0, -1⟩ ∨ ∃ (i : Nat) (a : Ar), i < j ∧ ((fs[i]!).n, (fs[i]!).s) ∈ st ∧ a ∈ (netOf rs tail (fs[i]!).n).1 ∧ fs[j]! = ⟨a.2.1, (fs[i]!).s + a.2.2, a.1, i⟩
theorem Org.back {rs : List Nr} {tail : Bool} {from_ : Int} {fs : List Fd} {st : List Sn} (k : Org rs tail from_ fs st) : Back fs := fun j hj => by
  rcases k.org j hj with e | ⟨i, a, hi, -, -, e⟩
  · rw [e]; simp; omega
  · rw [e]; simp; omega
theorem Org.mono {rs : List Nr} {tail : Bool} {from_ : Int} {fs : List Fd} {st st' : List Sn} (k : Org rs tail from_ fs st) (h : ∀ p ∈ st, p ∈ st') (hne : st' ≠ []) : Org rs tail from_ fs st' :=
  ⟨fun q => absurd q hne, fun j hj => (k.org j hj).imp_right (fun ⟨i, a, h1, h2, h3⟩ => ⟨i, a, h1, h _ h2, h3⟩)⟩
theorem Org.look {rs : List Nr} {tail : Bool} {from_ : Int} {fs : List Fd} {bs : Int → Option Nat} {st : List Sn} {i : Nat} (hrel : ∀ (i : Nat) (N : Int) (r : List Ar) (fs : List Fd) (bs : Int → Option Nat) (st : List Sn), (∀ a ∈ r, a ∈ (netOf rs tail N).1) → i < fs.length → (fs[i]!).n = N → (N, (fs[i]!).s) ∈ st → st ≠ [] → Org rs tail from_ fs st → Org rs tail from_ (relaxP false (fs[i]!).s i r fs bs).2.1 st) (hi : i < fs.length) (k : Org rs tail from_ fs st) (_h0 : (lookP false rs tail i fs bs).1 = 0) : Org rs tail from_ (lookP false rs tail i fs bs).2.1 (st ++ [((fs[i]!).n, (fs[i]!).s)]) := by
  have k2 := k.mono (st' := st ++ [((fs[i]!).n, (fs[i]!).s)]) (fun p hp => by simp [hp]) (by simp)
  unfold lookP
  split
  · exact hrel i _ _ fs bs _ (fun a ha => ha) hi rfl (by simp) (by simp) k2
  · exact k2
theorem Org.relax {rs : List Nr} {tail : Bool} {from_ : Int} {st : List Sn} (i : Nat) (N : Int) : ∀ (r : List Ar) (fs : List Fd) (bs : Int → Option Nat), (∀ a ∈ r, a ∈ (netOf rs tail N).1) → i < fs.length → (fs[i]!).n = N → (N, (fs[i]!).s) ∈ st → st ≠ [] → Org rs tail from_ fs st → Org rs tail from_ (relaxP false (fs[i]!).s i r fs bs).2.1 st
  | [], fs, bs, _, _, _, _, _, k => k
  | a :: r, fs, bs, hr, hi, hN, hst, hne, k => by
    have hr' : ∀ a ∈ r, a ∈ (netOf rs tail N).1 := fun b hb => hr b (by simp [hb])
    unfold relaxP
    split
    · exact k
    · split
      · exact k
      · split
        · exact Org.relax i N r fs bs hr' hi hN hst hne k
        · have e : (fs ++ [⟨a.2.1, (fs[i]!).s + wei false a, a.1, i⟩])[i]! = fs[i]! := get_app hi
          have h := Org.relax (from_ := from_) i N r (fs ++ [⟨a.2.1, (fs[i]!).s + wei false a, a.1, i⟩]) (upd bs a.2.1 (some fs.length)) hr' (by simp; omega) (by rw [e]; exact hN) (by rw [e]; exact hst) hne ⟨fun q => absurd q hne, fun j hj => ?_⟩
          · rw [e] at h
            exact h
          · by_cases hjl : j < fs.length
            · rw [get_app hjl]
              rcases k.org j hjl with q | ⟨i', a', h1, h2, h3, h4⟩
              · exact .inl q
              · have e' : (fs ++ [⟨a.2.1, (fs[i]!).s + wei false a, a.1, i⟩])[i']! = fs[i']! := get_app (by omega)
                exact .inr ⟨i', a', h1, by rw [e']; exact h2, by rw [e']; exact h3, by rw [e']; exact h4⟩
            · have ej : j = fs.length := by simp at hj; omega
              subst ej
              refine .inr ⟨i, a, hi, by rw [e, hN]; exact hst, by rw [e, hN]; exact hr a (by simp), ?_⟩
              rw [get_last, e]
              rfl
theorem Mv.newer {Wb W w w' : World} {us : List TypeId} {mp : Nat → Prop} {F : Nat → Prop} (h : Mv Wb us mp W w) (g : Go.Proofs.YtemkilffagjmcaaDoor.G Wb W) (c : Chg F w w') (hF : ∀ b, F b → W.heap.size ≤ b) : Mv Wb us mp W w' := by
  have e : ∀ b, b < W.heap.size → w'.heap[b]? = w.heap[b]? := fun b hb => c.block b (Nat.lt_of_lt_of_le hb h.size) (fun q => by have := hF b q; omega)
  exact ⟨c.os.trans h.os, c.tape.trans h.tape, c.output.trans h.output, Nat.le_trans h.size c.size, fun b hb => (e b (Nat.lt_of_lt_of_le hb g.size)).trans (h.old b hb), fun b t xs hb ht => (e b hb.lt).trans (h.blk b t xs hb ht), fun b es c' hb hm => (e b (Array.getElem?_eq_some_iff.1 hb).1).trans (h.map b es c' hb hm)⟩
/-- What Least tells. -/
def LeastP (Wb W : World) (sh : Nat) (rv : Value) (rs : List Nr) (tail : Bool) (av : Value) (from_ to_ : Int) (bas : List Int) (R : Rs) (e : Ending) (W' : World) : Prop := ∃ av' gv' gl', Shn Wb W' sh rv rs tail av' gv' (bas ++ R.asked) gl' ∧ AskO W W' av av' ∧ (∃ mp, Mv Wb (sTs ++ shTs) mp W W') ∧
      ((R.hit = false ∧ e = .returned (.tuple #[.agg #[I 0, .slice none 0 0, .slice none 0 0], .bool false, I R.code])) ∨
       (R.hit = true ∧ R.code = 0 ∧ ∃ (fs : List Fd) (i : Nat) (x : Fd) (st : List Sn) (nv ev : Value), fs[i]? = some x ∧ x.n = to_ ∧ R.st = st ++ [(to_, x.s)] ∧ Org rs tail from_ fs st ∧ e = .returned (.tuple #[.agg #[I x.s, nv, ev], .bool true, I 0]) ∧
          Rw W.heap.size 2 1 W' nv ((wayL fs (i + 1) i).map (·.n)).reverse.length (((wayL fs (i + 1) i).map (·.n)).reverse.map I) ∧ Rw W.heap.size 2 1 W' ev ((wayL fs (i + 1) i).dropLast.map (·.e)).reverse.length (((wayL fs (i + 1) i).dropLast.map (·.e)).reverse.map I) ∧
          (∀ b, nv.ownBlock = some b → ev.ownBlock ≠ some b ∧ av'.ownBlock ≠ some b) ∧ (∀ b, ev.ownBlock = some b → av'.ownBlock ≠ some b) ∧ (wayL fs (i + 1) i).length ≤ i + 1 ∧ fs.length < 17179869184 ∧ (∃ bs, Fx rs tail from_ fs bs st) ∧ ∀ p ∈ st, p.1 ≠ to_))
end Go.Proofs.YtemkilffagjmcaaDoor
