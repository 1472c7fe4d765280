/- Paths: newPiece. -/
import Derived.Test.YtemkilffagjmcaaDoorPz2
import Derived.Test.YtemkilffagjmcaaDoorPz3
import Derived.Test.YtemkilffagjmcaaDoorPw3
import Derived.Test.YtemkilffagjmcaaDoorPy2
namespace Go.Proofs.YtemkilffagjmcaaDoor
open Go.RowKit

theorem wpList_put {α : Type} [DecidableEq α] {enc : α → Value} {k : TypeId} {b : Nat} {g : α → Option Value} (w : World) {ops : Array Oper} {rest : List Oper} {o : Oper} {a : Act} {Q : Exit → Act → World → Prop}
    (hg : o.guard = none) (m x v : Operand) (t : TypeId) (hop : o.op = Op.mapUpdate t m x v) (h : Mp enc k w b g) (hm : a.eval m = .map (some b)) (Y : Ky enc k) (L : List α) (hL : ∀ a, KyOk enc k a → g a ≠ none → a ∈ L) (hl : L.length < maxLen)
    {e : TypeId} (ht : Tryd.prog.underlying t = some (.map k e)) (key : α) (hx : a.eval x = enc key) (ha : KyOk enc k key) (val : Value) (hv : a.eval v = val)
    (hK : ∀ w', Mp enc k w' b (upd g key (some val)) → Chg (fun k => k = b) w w' → w'.heap.size = w.heap.size → wpList Tryd.prog ops Q rest (a.put o.dst undef) w') : wpList Tryd.prog ops Q (o :: rest) a w := by
  refine wpList_plain hg fun K' hK' => ?_
  obtain ⟨w', hrun, r1, r2, r3⟩ := h.put Y L hL hl ht ha val
  unfold Oper.wp
  simp [execOp, hop, hm, hx, hv, hrun, Result.andThen]
  exact hK' _ _ (hK w' r1 r2 r3)
theorem info_L : ∃ i, Tryd.prog.info? 62 = some i ∧ i.zero = some (.slice none 0 0) ∧ i.size = 1 ∧ i.bytes = 24 := info_parts (by kernel_rfl)
theorem app_L (w : World) (lo : Nat) (v : Value) (n : Nat) (xs : List Value) (h : Rw lo 62 1 w v n xs) (a : Addr) (m c : Nat) (news : List Value) (hl : news.length = m * 1) (hn : ∀ (j : Nat) (u : Value), news[j]? = some u → w.cell? (a.add j) = some u) (h1 : ∀ u ∈ news, u.oneCell' = true) (hb : n + m ≤ 17179869184) (hz : lo ≤ w.heap.size) :
    ∃ v' w', (Builtin.append_ #[59, 59] 59 #[v, .slice (some a) m c]).run Tryd.prog w = .ok v' w' ∧ Rw lo 62 1 w' v' (n + m) (xs ++ news) ∧ Chg (fun k => v.ownBlock = some k) w w' ∧ (v'.ownBlock = v.ownBlock ∨ v'.ownBlock = some w.heap.size) := by
  obtain ⟨i0, hi0, hz0, hz1, hz2⟩ := info_L
  have hmx : (17179869184 : Nat) ≤ maxLen := of_decide_eq_true (by kernel_rfl)
  obtain ⟨v', w', hr, q2, q3, _, q5⟩ := run_append_own_at (P := Tryd.prog) w lo 59 59 62 i0 _ 1 24 Tryd.underlying59 hi0 hz0 hz1 hz2 rfl (by decide) v n xs h a m c news hl hn h1 (by omega) (by omega) hz
  exact ⟨v', w', hr, q2, ⟨q3.os, q3.tape, q3.output, q3.size, fun k hk hn => q3.block k hk (fun e => hn e.symm)⟩, q5⟩
/-- The places of the ids. -/
def atI (ids : List Int) (n : Int) : Option Nat := ids.idxOf? n
/-- What stands in the map while the places are being laid: of the first i. -/
def atB (ids : List Int) (i : Nat) (n : Int) : Option Value := (atI ids n).map fun (j : Nat) => I (if j < i then (j : Int) else 0)
theorem atI_some {ids : List Int} {n : Int} {j : Nat} (h : atI ids n = some j) : ids[j]? = some n := by
  unfold atI at h
  rw [List.idxOf?_eq_some_iff] at h
  obtain ⟨h1, h2, -⟩ := h
  rw [List.getElem?_eq_getElem h1]
  simpa using h2
theorem atI_none {ids : List Int} {n : Int} : atI ids n = none ↔ n ∉ ids := by
  unfold atI
  exact List.idxOf?_eq_none_iff
theorem atI_get {ids : List Int} (hp : ids.Pairwise (· < ·)) {j : Nat} {n : Int} (h : ids[j]? = some n) : atI ids n = some j := by
  cases hk : atI ids n with
  | none => exact absurd (List.mem_of_getElem? h) (atI_none.1 hk)
  | some k =>
    have h2 := atI_some hk
    have hnd : ids.Nodup := hp.imp (fun h => Int.ne_of_lt h)
    have hkl := (List.getElem?_eq_some_iff.1 h2).1
    rw [(List.getElem?_inj hkl hnd).1 (h2.trans h.symm)]
theorem atB_step {ids : List Int} (hp : ids.Pairwise (· < ·)) {i : Nat} {n : Int} (h : ids[i]? = some n) : ∀ a, upd (atB ids i) n (some (I (i : Int))) a = atB ids (i + 1) a := fun a => by
  by_cases e : a = n
  · subst e
    rw [upd_same]
    unfold atB
    rw [atI_get hp h]
    simp
  · rw [upd_other e]
    unfold atB
    cases hk : atI ids a with
    | none => rfl
    | some j =>
      have hj : j ≠ i := fun e2 => by
        have := atI_some hk
        rw [e2, h] at this
        exact e (Option.some.inj this).symm
      simp only [Option.map_some]
      by_cases hlt : j < i
      · rw [if_pos hlt, if_pos (by omega)]
      · rw [if_neg hlt, if_neg (by omega)]
theorem atB_end (ids : List Int) (a : Int) : atB ids ids.length a = (atI ids a).map fun (j : Nat) => I (j : Int) := by
  unfold atB
  cases hk : atI ids a with
  | none => rfl
  | some j =>
    have := (List.getElem?_eq_some_iff.1 (atI_some hk)).1
    simp [this]
/-- What stands in the map while it is filled. -/
def gF (l : List Int) (a : Int) : Option Value := if a ∈ l then some (I 0) else none
theorem gF_step {l : List Int} {i : Nat} {n : Int} (h : l[i]? = some n) : ∀ a, upd (gF (l.take i)) n (some (I 0)) a = gF (l.take (i + 1)) a := fun a => by
  have e : l.take (i + 1) = l.take i ++ [n] := by rw [List.take_add_one, h]; rfl
  unfold gF
  rw [e]
  by_cases ha : a = n
  · subst ha
    rw [upd_same, if_pos (by simp)]
  · rw [upd_other ha]
    simp [ha]
/-- A piece in memory. -/
structure Pc (lo : Nat) (w : World) (pb mb : Nat) (iv ov : Value) (ids : List Int) (g : Int → Option Value) (L : List (List Nat)) : Prop where
  blk : Blk w pb 61 [iv, .map (some mb), ov]
  ids : Rw lo 2 1 w iv ids.length (ids.map I)
  map : Mp (fun n : Int => I n) 2 w mb g
  arc : ∃ vs : List Value, Rw lo 62 1 w ov L.length vs ∧ ∀ (j : Nat) v l, vs[j]? = some v → L[j]? = some l → Rw lo 3 1 w v l.length (l.map fun (i : Nat) => I (i : Int))
  lo : lo ≤ pb ∧ lo ≤ mb
theorem Pc.G {lo : Nat} {w w' : World} {pb mb : Nat} {iv ov : Value} {ids : List Int} {g : Int → Option Value} {L : List (List Nat)} (h : Pc lo w pb mb iv ov ids g L) (k : Go.Proofs.YtemkilffagjmcaaDoor.G w w') : Pc lo w' pb mb iv ov ids g L := by
  obtain ⟨vs, h1, h2⟩ := h.arc
  exact ⟨h.blk.G k, Rw.G h.ids k, h.map.G k, ⟨vs, Rw.G h1 k, fun j v l a b => Rw.G (h2 j v l a b) k⟩, h.lo⟩
theorem Pc.map_ {lo : Nat} {w w' : World} {pb mb : Nat} {iv ov : Value} {ids : List Int} {g g' : Int → Option Value} {L : List (List Nat)} (h : Pc lo w pb mb iv ov ids g L) (c : Chg (fun b => b = mb) w w') (hm : Mp (fun n : Int => I n) 2 w' mb g') : Pc lo w' pb mb iv ov ids g' L := by
  obtain ⟨vs, h1, h2⟩ := h.arc
  obtain ⟨es, cl, hmap⟩ := h.map.isMap
  have hrow : ∀ lo' e v n xs, Rw lo' e 1 w v n xs → Rw lo' e 1 w' v n xs := fun lo' e v n xs hr => hr.chg c (fun b hb e2 => by
    obtain ⟨_, _, ys, hy⟩ := Rw.own hr hb
    rw [e2] at hy
    exact hy.nomap hmap)
  exact ⟨h.blk.chg c (fun e => by have := h.blk; rw [e] at this; exact this.nomap hmap), hrow _ _ _ _ _ h.ids, hm, ⟨vs, hrow _ _ _ _ _ h1, fun j v l a b => hrow _ _ _ _ _ (h2 j v l a b)⟩, h.lo⟩
theorem len_of {w : World} {mb : Nat} {g : Int → Option Value} (h : Mp (fun n : Int => I n) 2 w mb g) : ∃ s : Nat, (∀ ty, (Builtin.len_ #[58] ty #[.map (some mb)]).run Tryd.prog w = .ok (I s) w) ∧ (∀ ids : List Int, ids.Nodup → (∀ a, R64 a → g a ≠ none → a ∈ ids) → s ≤ ids.length) ∧ (∀ ids : List Int, ids.Nodup → (∀ a ∈ ids, R64 a ∧ g a ≠ none) → ids.length ≤ s) := by
  obtain ⟨n, D, h1, h2, h3, h4⟩ := h.keysI
  refine ⟨Go.Maps.size D, fun ty => h1.len Tryd.underlying58 ty, fun ids hn hs => ?_, fun ids hn hs => ?_⟩
  · rw [h4]
    exact h2.length_le_of_subset (fun a ha => by obtain ⟨q1, q2⟩ := (h3 a).1 ha; exact hs a q1 q2)
  · rw [h4]
    exact hn.length_le_of_subset (fun a ha => (h3 a).2 (hs a ha))
end Go.Proofs.YtemkilffagjmcaaDoor
