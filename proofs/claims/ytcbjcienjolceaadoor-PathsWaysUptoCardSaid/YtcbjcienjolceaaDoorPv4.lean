/- Paths: one way alone. -/
import Derived.Test.YtcbjcienjolceaaDoorPv3
namespace Go.Proofs.YtcbjcienjolceaaDoor
open Go.RowKit

theorem Stp.uniq {rs : List Nr} {tail : Bool} {st : List Sn} {k q q' : Nat} {n s : Int} {a a' : Ar} (h : Stp rs tail st k q n s a) (h' : Stp rs tail st k q' n s a') : q = q' ∧ a = a' := by
  obtain ⟨-, r, p, hp, har, hn, hs, hl⟩ := h
  obtain ⟨-, r', p', hp', har', hn', hs', hl'⟩ := h'
  rcases Nat.lt_trichotomy q q' with h | h | h
  · have := hl'.1 q p h hp a (List.mem_of_getElem? har) hn
    omega
  · subst h
    rw [hp] at hp'
    cases hp'
    rcases Nat.lt_trichotomy r r' with h | h | h
    · have := hl'.2 p hp r a h har hn
      omega
    · subst h
      rw [har] at har'
      exact ⟨rfl, Option.some.inj har'⟩
    · have := hl.2 p hp r' a' h har' hn'
      omega
  · have := hl.1 q' p' h hp' a' (List.mem_of_getElem? har') hn'
    omega
/-- The same settled nodes, the same way: whatever the finds were. -/
theorem way_uniq {rs : List Nr} {tail : Bool} {from_ t S : Int} {fs fs' : List Fd} {bs bs' : Int → Option Nat} {st : List Sn} (k : Fx rs tail from_ fs bs st) (k' : Fx rs tail from_ fs' bs' st) (hno : ∀ p ∈ st, p.1 ≠ t) : ∀ (kk f f' j j' : Nat), j < fs.length → j' < fs'.length → j ≤ f → j' ≤ f' → (st ++ [(t, S)])[kk]? = some ((fs[j]!).n, (fs[j]!).s) → (st ++ [(t, S)])[kk]? = some ((fs'[j']!).n, (fs'[j']!).s) → (wayL fs (f + 1) j).map (fun y => (y.n, y.e)) = (wayL fs' (f' + 1) j').map (fun y => (y.n, y.e)) := by
  intro kk
  induction kk using Nat.strongRecOn with
  | _ kk ih =>
    intro f f' j j' hj hj' hf hf' hk hk'
    have e := Option.some.inj (hk.symm.trans hk')
    simp only [Prod.mk.injEq] at e
    rcases k.back hno j kk hj hk with ⟨h0, e1⟩ | ⟨h0, q, i, a, hi, hq, hb, he, hs⟩
    · rcases k'.back hno j' kk hj' hk' with ⟨-, e2⟩ | ⟨h0', -⟩
      · rw [wayL, wayL, e1, e2]
        simp
      · omega
    · rcases k'.back hno j' kk hj' hk' with ⟨h0', -⟩ | ⟨-, q', i', a', hi', hq', hb', he', hs'⟩
      · omega
      · rw [← e.1, ← e.2] at hs'
        obtain ⟨rfl, rfl⟩ := hs.uniq hs'
        obtain ⟨g, rfl⟩ : ∃ g, f = g + 1 := ⟨f - 1, by omega⟩
        obtain ⟨g', rfl⟩ : ∃ g', f' = g' + 1 := ⟨f' - 1, by omega⟩
        have b2 : ¬ ((fs[j]!).b < 0) := by rw [hb]; omega
        have b3 : (fs[j]!).b.toNat = i := by rw [hb]; simp
        have b2' : ¬ ((fs'[j']!).b < 0) := by rw [hb']; omega
        have b3' : (fs'[j']!).b.toNat = i' := by rw [hb']; simp
        have w1 : wayL fs (g + 1 + 1) j = fs[j]! :: wayL fs (g + 1) i := by rw [wayL, if_neg b2, b3]
        have w2 : wayL fs' (g' + 1 + 1) j' = fs'[j']! :: wayL fs' (g' + 1) i' := by rw [wayL, if_neg b2', b3']
        rw [w1, w2, List.map_cons, List.map_cons, ih q hs.lt g g' i i' (by omega) (by omega) (by omega) (by omega) hq hq', e.1, he, he']
/-- What Least tells. -/
def WayO (rs : List Nr) (tail : Bool) (from_ to_ : Int) (s : Int) (ns es : List Int) (ok : Bool) : Prop :=
  ((srch false rs tail (some to_) (-1) 4097 [] [(from_, 0)] []).hit = false ∧ s = 0 ∧ ns = [] ∧ es = [] ∧ ok = false) ∨
  ((srch false rs tail (some to_) (-1) 4097 [] [(from_, 0)] []).hit = true ∧ (srch false rs tail (some to_) (-1) 4097 [] [(from_, 0)] []).code = 0 ∧ ok = true ∧ ∃ (fs : List Fd) (bs : Int → Option Nat) (i : Nat) (x : Fd) (st : List Sn), fs[i]? = some x ∧ x.n = to_ ∧ (srch false rs tail (some to_) (-1) 4097 [] [(from_, 0)] []).st = st ++ [(to_, x.s)] ∧ Fx rs tail from_ fs bs st ∧ (∀ p ∈ st, p.1 ≠ to_) ∧ fs.length < 17179869184 ∧ s = x.s ∧ ns = ((wayL fs (i + 1) i).map (·.n)).reverse ∧ es = ((wayL fs (i + 1) i).dropLast.map (·.e)).reverse)
theorem WayO.uniq {rs : List Nr} {tail : Bool} {from_ to_ s s' : Int} {ns ns' es es' : List Int} {ok ok' : Bool} (h : WayO rs tail from_ to_ s ns es ok) (h' : WayO rs tail from_ to_ s' ns' es' ok') : s = s' ∧ ns = ns' ∧ es = es' ∧ ok = ok' := by
  rcases h with ⟨h0, rfl, rfl, rfl, rfl⟩ | ⟨h0, -, rfl, fs, bs, i, x, st, hx, hxn, hst, kf, hnt, -, rfl, rfl, rfl⟩
  · rcases h' with ⟨-, rfl, rfl, rfl, rfl⟩ | ⟨h1, -⟩
    · exact ⟨rfl, rfl, rfl, rfl⟩
    · rw [h0] at h1; cases h1
  · rcases h' with ⟨h1, -⟩ | ⟨-, -, rfl, fs', bs', i', x', st', hx', hxn', hst', kf', hnt', -, rfl, rfl, rfl⟩
    · rw [h0] at h1; cases h1
    · obtain ⟨e1, e2⟩ := List.append_inj' (hst.symm.trans hst') rfl
      simp only [List.cons.injEq, Prod.mk.injEq, true_and, and_true] at e2
      subst e1
      have ex : fs[i]! = x := by simp [hx]
      have ex' : fs'[i']! = x' := by simp [hx']
      have hil := (List.getElem?_eq_some_iff.1 hx).1
      have hil' := (List.getElem?_eq_some_iff.1 hx').1
      have hm := way_uniq (S := x.s) kf kf' hnt st.length i i' i i' hil hil' (Nat.le_refl _) (Nat.le_refl _) (by rw [ex, hxn]; simp) (by rw [ex', hxn', ← e2]; simp)
      have m1 : ∀ l : List Fd, l.map (·.n) = (l.map (fun y => (y.n, y.e))).map (·.1) := fun l => by simp
      have m2 : ∀ l : List Fd, l.dropLast.map (·.e) = ((l.map (fun y => (y.n, y.e))).dropLast).map (·.2) := fun l => by rw [← List.map_dropLast, List.map_map]; rfl
      refine ⟨e2, ?_, ?_, rfl⟩
      · rw [m1, hm, ← m1]
      · rw [m2, hm, ← m2]
theorem WayO.len {rs : List Nr} {tail : Bool} {from_ to_ s : Int} {ns es : List Int} {ok : Bool} (h : WayO rs tail from_ to_ s ns es ok) : ns.length ≤ 4098 ∧ es.length ≤ 4098 := by
  rcases h with ⟨-, -, rfl, rfl, -⟩ | ⟨-, -, -, fs, bs, i, x, st, hx, hxn, hst, kf, hnt, -, -, rfl, rfl⟩
  · simp
  · have hs4 := srch_stlen false rs tail (some to_) (-1) 4097 [] [(from_, 0)] []
    rw [hst] at hs4
    simp at hs4
    have ex : fs[i]! = x := by simp [hx]
    have hl := way_len (S := x.s) kf hnt (i + 1) i st.length (List.getElem?_eq_some_iff.1 hx).1 (by rw [ex, hxn]; simp)
    simp
    omega
theorem least_all (Wb W : World) (sh : Nat) (rv : Value) (rs : List Nr) (tail : Bool) (av gv : Value) (from_ to_ : Int) (bas : List Int) (gl : List Value) (hbas : bas.length ≤ 4294967296) (sn : Shn Wb W sh rv rs tail av gv bas gl) (hf : R64 from_) (hrl : rs.length ≤ 1048576) (hal : ∀ id, (netOf rs tail id).1.length ≤ 1048576) (code : Int) (asked : List Int) (hc : code = (srch false rs tail (some to_) (-1) 4097 [] [(from_, 0)] []).code) (ha : asked = (srch false rs tail (some to_) (-1) 4097 [] [(from_, 0)] []).asked) :
    Calls Tryd.prog 14 #[.func (.func 12) #[ptr sh] #[], I from_, I to_] W fun e W' => ∃ (av' gv' : Value) (gl' : List Value) (s : Int) (ns es : List Int) (ok : Bool) (nv ev : Value), WayO rs tail from_ to_ s ns es ok ∧ e = .returned (.tuple #[.agg #[I s, nv, ev], .bool ok, I code]) ∧ Rw W.heap.size 2 1 W' nv ns.length (ns.map I) ∧ Rw W.heap.size 2 1 W' ev es.length (es.map I) ∧ (∀ b, nv.ownBlock = some b → ev.ownBlock ≠ some b ∧ av'.ownBlock ≠ some b) ∧ (∀ b, ev.ownBlock = some b → av'.ownBlock ≠ some b) ∧ Shn Wb W' sh rv rs tail av' gv' (bas ++ asked) gl' ∧ AskO W W' av av' ∧ (∃ mp, Mv Wb (sTs ++ shTs) mp W W') := by
  refine (least_any Wb W sh rv rs tail av gv from_ to_ bas gl hbas sn hf hrl hal _ rfl).mono ?_
  rintro e W' ⟨av', gv', gl', hsn, hao, hmv, hres⟩
  rw [← ha] at hsn
  rcases hres with ⟨hh, rfl⟩ | ⟨hh, hc0, fs, i, x, st, nv, ev, hx, hxn, hst, -, rfl, hrn, hre, hd1, hd2, -, hbig, ⟨bs, hfx⟩, hnt⟩
  · exact ⟨av', gv', gl', 0, [], [], false, _, _, .inl ⟨hh, rfl, rfl, rfl, rfl⟩, by rw [hc], Rw.nil _ _ _ _, Rw.nil _ _ _ _, fun b hb => by simp [Value.ownBlock] at hb, fun b hb => by simp [Value.ownBlock] at hb, hsn, hao, hmv⟩
  · exact ⟨av', gv', gl', x.s, _, _, true, nv, ev, .inr ⟨hh, hc0, rfl, fs, bs, i, x, st, hx, hxn, hst, hfx, hnt, hbig, rfl, rfl, rfl⟩, by rw [hc, hc0], hrn, hre, hd1, hd2, hsn, hao, hmv⟩
theorem rleast_all (W : World) (rv : Value) (rs : List Nr) (tail : Bool) (from_ to_ : Int) (hN : Nrs W rv rs) (hrl : rs.length ≤ 1048576) (hal : ∀ id, (netOf rs tail id).1.length ≤ 1048576) (hf : R64 from_) (code : Int) (asked : List Int) (hc : code = (srch false rs tail (some to_) (-1) 4097 [] [(from_, 0)] []).code) (ha : asked = (srch false rs tail (some to_) (-1) 4097 [] [(from_, 0)] []).asked) (s : Int) (ns es : List Int) (ok : Bool) (h : WayO rs tail from_ to_ s ns es ok) :
    Calls Tryd.prog 22 #[.agg #[rv, .bool tail], I from_, I to_] W fun e W' => ∃ nv ev av, e = .returned (.tuple #[.agg #[I s, nv, ev], .bool ok, I code, av]) ∧ Rw W.heap.size 2 1 W' nv ns.length (ns.map I) ∧ Rw W.heap.size 2 1 W' ev es.length (es.map I) ∧ Rw W.heap.size 2 1 W' av asked.length (asked.map I) ∧ G W W' := by
  rw [hc, ha]
  rcases h with ⟨h0, rfl, rfl, rfl, rfl⟩ | ⟨h0, h1, rfl, fs, bs, i, x, st, hx, hxn, hst, kf, hnt, hbig, rfl, rfl, rfl⟩
  · refine (rleast_no W rv rs tail from_ to_ hN hrl hal hf _ rfl h0).mono ?_
    rintro e W' ⟨av, rfl, hr, hg⟩
    exact ⟨_, _, av, rfl, Rw.nil _ _ _ _, Rw.nil _ _ _ _, hr, hg⟩
  · refine (rleast_yes W rv rs tail from_ to_ hN hrl hal hf _ rfl h0 h1 fs bs i x st hx hxn hst kf hnt hbig).mono ?_
    rintro e W' ⟨nv, ev, av, rfl, h2, h3, h4, hg⟩
    exact ⟨nv, ev, av, by rw [h1], h2, h3, h4, hg⟩
end Go.Proofs.YtcbjcienjolceaaDoor
