/- PathsHeap: a heap and the list of what is in it; two of them. -/
import Derived.Test.YtbhbmcgjfcgdgaaPa12
namespace Go.Proofs.Ytbhbmcgjfcgdgaa
open Go.RowKit

theorem info_e : ∃ i, Try.prog.info? 26 = some i ∧ i.zero = some (.agg #[I 0, I 0]) ∧ i.size = 2 ∧ i.bytes = 16 := info_parts (by kernel_rfl)
theorem flE_app (a b : List (Int × Int)) : flE (a ++ b) = flE a ++ flE b := by simp [flE]
theorem flE_of : ∀ (es : List (Int × Int)) (j : Nat) (u : Value), (flE es)[j]? = some u → ∃ i x, es[i]? = some x ∧ ((j = i * 2 ∧ u = I x.1) ∨ (j = i * 2 + 1 ∧ u = I x.2))
  | [], j, u, h => by simp [flE] at h
  | a :: es, 0, u, h => ⟨0, a, rfl, .inl ⟨rfl, by simp [flE] at h; exact h.symm⟩⟩
  | a :: es, 1, u, h => ⟨0, a, rfl, .inr ⟨rfl, by simp [flE] at h; exact h.symm⟩⟩
  | a :: es, j + 2, u, h => by
    have e : flE (a :: es) = I a.1 :: I a.2 :: flE es := by simp [flE]
    rw [e] at h
    obtain ⟨i, x, hi, hx⟩ := flE_of es j u (by simpa using h)
    exact ⟨i + 1, x, by simpa using hi, by
      rcases hx with ⟨rfl, rfl⟩ | ⟨rfl, rfl⟩
      · exact .inl ⟨by omega, rfl⟩
      · exact .inr ⟨by omega, rfl⟩⟩
/-- An append of some to a row of entries. -/
theorem app_ents (w : World) (z : Nat) (v : Value) (es : List (Int × Int)) (h : ERow w z v es) (g o m c : Nat) (ns : List (Int × Int)) (hl : ns.length = m) (hn : ∀ (j : Nat) (x : Int × Int), ns[j]? = some x → w.cell? ⟨g, o + j * 2, none⟩ = some (I x.1) ∧ w.cell? ⟨g, o + j * 2 + 1, none⟩ = some (I x.2)) (hb : es.length + m ≤ 1073741824) (hz : z ≤ w.heap.size) :
    ∃ v' w', (Builtin.append_ #[39, 39] 39 #[v, .slice (some ⟨g, o, none⟩) m c]).run Try.prog w = .ok v' w' ∧ ERow w' z v' (es ++ ns) ∧ Chg (fun k => v.ownBlock = some k) w w' ∧ (v'.ownBlock = v.ownBlock ∨ v'.ownBlock = some w.heap.size) := by
  obtain ⟨i0, hi0, hz0, hz1, hz2⟩ := info_e
  have hmx : (1073741824 : Nat) ≤ maxLen := of_decide_eq_true (by kernel_rfl)
  obtain ⟨v', w', hr, q2, q3, _, q5⟩ := run_append_own_at (P := Try.prog) w z 39 39 26 i0 _ 2 16 Try.underlying39 hi0 hz0 hz1 hz2 rfl (by decide) v es.length _ h ⟨g, o, none⟩ m c (flE ns) (by rw [flE_len, hl]) (fun j u hj => by
    rw [Addr.add_mid]
    obtain ⟨i, x, hi, hx⟩ := flE_of ns j u hj
    have q := hn i x hi
    rcases hx with ⟨rfl, rfl⟩ | ⟨rfl, rfl⟩
    · exact q.1
    · rw [← Nat.add_assoc]; exact q.2) (fun u hu => by
    obtain ⟨j, hj⟩ := List.mem_iff_getElem?.1 hu
    obtain ⟨i, x, hi, hx⟩ := flE_of ns j u hj
    rcases hx with ⟨_, rfl⟩ | ⟨_, rfl⟩ <;> rfl) (by omega) (by omega) hz
  refine ⟨v', w', hr, ?_, ⟨q3.os, q3.tape, q3.output, q3.size, fun k hk hn => q3.block k hk (fun e => hn e.symm)⟩, q5⟩
  unfold ERow
  rw [List.length_append, flE_app, hl]
  exact q2
theorem ERow.G {w w' : World} {z : Nat} {v : Value} {es : List (Int × Int)} (h : ERow w z v es) (g : Go.Proofs.Ytbhbmcgjfcgdgaa.G w w') : ERow w' z v es := own_G h g
theorem ERow.chg {F : Nat → Prop} {w w' : World} {z : Nat} {v : Value} {es : List (Int × Int)} (h : ERow w z v es) (g : Chg F w w') (hF : ∀ b, v.ownBlock = some b → ¬ F b) : ERow w' z v es := own_chg h g hF
theorem ERow.nil (w : World) (z : Nat) : ERow w z (.slice none 0 0) [] := ⟨rfl, .inl ⟨rfl, rfl⟩⟩
theorem ERow.low {w : World} {z : Nat} {v : Value} {es : List (Int × Int)} (h : ERow w z v es) {b : Nat} (hb : v.ownBlock = some b) : z ≤ b := by
  rcases h.2 with ⟨rfl, _⟩ | ⟨g, cap, cur, rfl, hz, _⟩
  · simp [Value.ownBlock] at hb
  · have e : g = b := Option.some.inj hb
    omega
theorem ERow.slice {w : World} {z : Nat} {v : Value} {es : List (Int × Int)} (h : ERow w z v es) : ∃ a cap, v = .slice a es.length cap := by
  rcases h.2 with ⟨rfl, h0⟩ | ⟨g, cap, cur, rfl, _⟩
  · exact ⟨none, 0, by rw [h0]⟩
  · exact ⟨_, _, rfl⟩
theorem ERow.cap {w : World} {z g n cap : Nat} {es : List (Int × Int)} (h : ERow w z (.slice (some ⟨g, 0, none⟩) n cap) es) : es.length ≤ cap := by
  rcases h.2 with ⟨q, _⟩ | ⟨g', cap', cur, q, _, _, hc, _⟩
  · cases q
  · simp only [Value.slice.injEq] at q
    obtain ⟨_, _, rfl⟩ := q
    exact hc
theorem ERow.off {w : World} {z : Nat} {v : Value} {es : List (Int × Int)} (h : ERow w z v es) {g : Nat} {e : TypeId} {xs : List Value} (hb : Blk w g e xs) (he : 26 ≠ e) : v.ownBlock ≠ some g := own_ne h hb he
theorem ERow.hp {w : World} {z h : Nat} {v f hv : Value} {es : List (Int × Int)} {l : List It} {t : Int} (k : ERow w z v es) (o : HP w h f hv l t) {b : Nat} (hb : v.ownBlock = some b) : ¬ hpB h hv b := fun q => by
  rcases q with rfl | q
  · exact k.off o.blk (by decide) hb
  · rcases o.sl with ⟨rfl, _⟩ | ⟨g, cap, rest, rfl, hg, _⟩
    · simp [Value.ownBlock] at q
    · have e2 : g = b := Option.some.inj q
      subst e2
      exact k.off hg (by decide) hb
/-- A heap and the list of what is in it, as it came. -/
structure Sd (W wr : World) (h : Nat) (f v : Value) (lt : Int × Int → Int × Int → Bool) (l : List It) (t : Int) (u : Value) (its : List It) (i : Nat) : Prop where
  o : Own W wr h f v lt l t
  r : ERow wr W.heap.size u (its.map (·.1))
  pm : l.Perm its
  inc : its.Pairwise (fun a b => a.2 < b.2)
  tt : ∀ a ∈ its, a.2 < t
  t0 : 0 ≤ t
  t1 : t ≤ i
  ln : its.length ≤ i
theorem Sd.len {{W wr : World}} {{h : Nat}} {{f v : Value}} {{lt : Int × Int → Int × Int → Bool}} {{l : List It}} {{t : Int}} {{u : Value}} {{its : List It}} {{i : Nat}} (s : Sd W wr h f v lt l t u its i) : l.length = its.length := s.pm.length_eq
theorem Sd.G {{W wr : World}} {{h : Nat}} {{f v : Value}} {{lt : Int × Int → Int × Int → Bool}} {{l : List It}} {{t : Int}} {{u : Value}} {{its : List It}} {{i : Nat}} (s : Sd W wr h f v lt l t u its i) {w' : World} (g : Go.Proofs.Ytbhbmcgjfcgdgaa.G wr w') : Sd W w' h f v lt l t u its i := ⟨s.o.G g, s.r.G g, s.pm, s.inc, s.tt, s.t0, s.t1, s.ln⟩
theorem Sd.up {{W wr : World}} {{h : Nat}} {{f v : Value}} {{lt : Int × Int → Int × Int → Bool}} {{l : List It}} {{t : Int}} {{u : Value}} {{its : List It}} {{i : Nat}} (s : Sd W wr h f v lt l t u its i) : Sd W wr h f v lt l t u its (i + 1) := ⟨s.o, s.r, s.pm, s.inc, s.tt, s.t0, by have := s.t1; omega, by have := s.ln; omega⟩
theorem Sd.chg {{W wr : World}} {{h : Nat}} {{f v : Value}} {{lt : Int × Int → Int × Int → Bool}} {{l : List It}} {{t : Int}} {{u : Value}} {{its : List It}} {{i : Nat}} (s : Sd W wr h f v lt l t u its i) {w' : World} {F : Nat → Prop} (c : Chg F wr w') (hF : ∀ b, F b → W.heap.size ≤ b ∧ ¬ hpB h v b ∧ u.ownBlock ≠ some b) : Sd W w' h f v lt l t u its i :=
  ⟨s.o.chg c (fun b q => ⟨(hF b q).1, (hF b q).2.1⟩), s.r.chg c (fun b q q2 => (hF b q2).2.2 q), s.pm, s.inc, s.tt, s.t0, s.t1, s.ln⟩
/-- The one that comes out is the first of the list. -/
theorem Sd.pick {W wr : World} {h : Nat} {f v : Value} {lt : Int × Int → Int × Int → Bool} {x : It} {l : List It} {t : Int} {u : Value} {its : List It} {i : Nat} (s : Sd W wr h f v lt (x :: l) t u its i) (o : Hp.WO lt) {a : Nat} (hf : IsFirst lt (its.map (·.1)) its.length a) : its[a]? = some x ∧ l.Perm (its.take a ++ its.drop (a + 1)) := by
  obtain ⟨y1, hy1, han, h1, h2⟩ := hf
  rw [List.getElem?_map, Option.map_eq_some_iff] at hy1
  obtain ⟨y, hy, rfl⟩ := hy1
  have hx : x ∈ its := s.pm.subset List.mem_cons_self
  obtain ⟨n, hn⟩ := List.mem_iff_getElem?.1 hx
  have hym : y ∈ x :: l := s.pm.symm.subset (List.mem_of_getElem? hy)
  have hah := (s.o.hi o).first o.ah y hym
  simp only [List.getElem!_cons_zero] at hah
  have e : n = a := by
    have hnl : n < its.length := (List.getElem?_eq_some_iff.1 hn).1
    have hxy : lt x.1 y.1 = false := h1 n x.1 hnl (by rw [List.getElem?_map, hn]; rfl)
    rcases Nat.lt_trichotomy n a with q | q | q
    · have h3 := h2 n x.1 q (by rw [List.getElem?_map, hn]; rfl)
      unfold Hp.ah at hah
      split at hah
      · rw [hxy] at hah; cases hah
      · rw [h3] at hah; cases hah
    · exact q
    · have htt : y.2 < x.2 := by
        obtain ⟨hl1, he1⟩ := List.getElem?_eq_some_iff.1 hy
        obtain ⟨hl2, he2⟩ := List.getElem?_eq_some_iff.1 hn
        have := List.pairwise_iff_getElem.1 s.inc a n hl1 hl2 q
        rw [he1, he2] at this
        exact this
      unfold Hp.ah at hah
      rw [if_pos htt, hxy] at hah
      cases hah
  subst e
  refine ⟨hn, ?_⟩
  have hp2 : its.Perm (x :: (its.take n ++ its.drop (n + 1))) := by
    obtain ⟨hl, he⟩ := List.getElem?_eq_some_iff.1 hn
    have e2 : its = its.take n ++ x :: its.drop (n + 1) := by
      rw [← he, List.getElem_cons_drop, List.take_append_drop]
    conv => lhs; rw [e2]
    exact List.perm_middle
  exact List.Perm.cons_inv (s.pm.trans hp2)
theorem pw_cut {its : List It} {r : It → It → Prop} (h : its.Pairwise r) (n : Nat) : (its.take n ++ its.drop (n + 1)).Pairwise r := by
  refine List.Pairwise.sublist ?_ h
  rw [← List.eraseIdx_eq_take_drop_succ]
  exact List.eraseIdx_sublist _ _
theorem mem_cut {its : List It} {n : Nat} {a : It} (h : a ∈ its.take n ++ its.drop (n + 1)) : a ∈ its := by
  rcases List.mem_append.1 h with q | q
  · exact List.mem_of_mem_take q
  · exact List.mem_of_mem_drop q
theorem len_cut {its : List It} {n : Nat} (h : n < its.length) : (its.take n ++ its.drop (n + 1)).length = its.length - 1 := by
  simp [Nat.min_eq_left (Nat.le_of_lt h)]; omega
set_option maxRecDepth 100000 in
set_option maxHeartbeats 1000000 in
theorem len_eq (h : Nat) (f v : Value) (l : List It) (t : Int) (W : World) (k : HP W h f v l t) : Calls Try.prog 10 #[ptr h] W fun e W' => e = .returned (I l.length) ∧ W' = W := by
  have hc := k.blk.cell
  have hv : ∃ a c, v = .slice a l.length c := by
    rcases k.sl with ⟨rfl, rfl⟩ | ⟨g, cap, rest, rfl, _⟩ <;> exact ⟨_, _, rfl⟩
  obtain ⟨a, c, rfl⟩ := hv
  clear k
  go_enter Try.func10, Try.ntmps10
  go_wp2
  all_goals (go_ret; exact ⟨rfl, rfl⟩)
/-- Both heaps, and the array of their lists. -/
structure Two (W wr : World) (h0 h1 : Nat) (f0 f1 v0 v1 : Value) (l0 l1 : List It) (t0 t1 : Int) (u0 u1 : Value) (i0 i1 : List It) (ab i : Nat) : Prop where
  a : Sd W wr h0 f0 v0 upL l0 t0 u0 i0 i
  b : Sd W wr h1 f1 v1 downL l1 t1 u1 i1 i
  ar : Blk wr ab 40 [u0, u1]
  az : W.heap.size ≤ ab
  hh : h0 ≠ h1
  hv : ∀ b, v0.ownBlock = some b → v1.ownBlock ≠ some b
  hu : ∀ b, u0.ownBlock = some b → u1.ownBlock ≠ some b
/-- One list was grown or cut, and laid into the array. -/
theorem cut_row {W w6 w7 : World} {h h' : Nat} {f f' v v' : Value} {lt lt' : Int × Int → Int × Int → Bool} {l l' : List It} {t t' : Int} {u u' u7 : Value} {es es7 : List (Int × Int)} {its' : List It} {i ab : Nat} {xs : List Value} (o : Own W w6 h f v lt l t) (r : ERow w6 W.heap.size u es) (s : Sd W w6 h' f' v' lt' l' t' u' its' i) (hu : ∀ b, u.ownBlock = some b → u'.ownBlock ≠ some b) (ar : Blk w6 ab 40 xs) (az : W.heap.size ≤ ab)
    (hr7 : ERow w7 W.heap.size u7 es7) (hch : Chg (fun k => u.ownBlock = some k) w6 w7) (hob : u7.ownBlock = u.ownBlock ∨ u7.ownBlock = some w6.heap.size) (k : Nat) :
    Own W (w7.setCell ⟨ab, k, none⟩ u7) h f v lt l t ∧ ERow (w7.setCell ⟨ab, k, none⟩ u7) W.heap.size u7 es7 ∧ Sd W (w7.setCell ⟨ab, k, none⟩ u7) h' f' v' lt' l' t' u' its' i ∧ Blk (w7.setCell ⟨ab, k, none⟩ u7) ab 40 (xs.set k u7) ∧ ∀ b, u7.ownBlock = some b → u'.ownBlock ≠ some b := by
  have o7 := o.chg hch (fun b hb => ⟨r.low hb, r.hp o.hp hb⟩)
  have s7 := s.chg hch (fun b hb => ⟨r.low hb, r.hp s.o.hp hb, hu b hb⟩)
  have ar7 := ar.chg hch (fun e => r.off ar (by decide) e)
  have c8 : Chg (fun b => b = ab) w7 (w7.setCell ⟨ab, k, none⟩ u7) := chg_setCell w7 u7 (.inl rfl)
  refine ⟨o7.chg c8 (fun b e => ?_), hr7.chg c8 (fun b q e => ?_), s7.chg c8 (fun b e => ?_), ar7.set k u7, fun b q q' => ?_⟩
  · subst e; exact ⟨az, o7.off ar7 (by decide) (by decide)⟩
  · subst e; exact hr7.off ar7 (by decide) q
  · subst e; exact ⟨az, s7.o.off ar7 (by decide) (by decide), s7.r.off ar7 (by decide)⟩
  · rcases hob with e | e
    · rw [e] at q; exact hu b q q'
    · rw [e] at q
      have e2 : w6.heap.size = b := Option.some.inj q
      have := own_lt s.r q'
      omega
/-- A Push to one heap, ahead of the list's append. -/
theorem push_side {W w4 w5 : World} {h h' : Nat} {f f' v v' w : Value} {lt lt' : Int × Int → Int × Int → Bool} {l l' l2 : List It} {t t' t2 : Int} {u u' : Value} {its its' : List It} {i ab : Nat} {xs : List Value} (a : Sd W w4 h f v lt l t u its i) (s : Sd W w4 h' f' v' lt' l' t' u' its' i) (ar : Blk w4 ab 40 xs) (hv : ∀ b, v.ownBlock = some b → v'.ownBlock ≠ some b)
    (hp : HP w5 h f w l2 t2) (hi : Hp.WO lt → Hp.HI (Hp.ah lt) l2) (hch : Chg (hpB h v) w4 w5) (hown : w.ownBlock = v.ownBlock ∨ ∃ b, w.ownBlock = some b ∧ w4.heap.size ≤ b)
    (sep : ∀ b, hpB h v b → W.heap.size ≤ b ∧ ¬ hpB h' v' b ∧ u'.ownBlock ≠ some b) :
    Own W w5 h f w lt l2 t2 ∧ ERow w5 W.heap.size u (its.map (·.1)) ∧ Sd W w5 h' f' v' lt' l' t' u' its' i ∧ Blk w5 ab 40 xs ∧ ∀ b, w.ownBlock = some b → v'.ownBlock ≠ some b := by
  refine ⟨⟨hp, hi, g_of a.o.g a.o.h a.o.o hch, fun b e => ?_, a.o.h⟩, a.r.chg hch (fun b q q2 => a.r.hp a.o.hp q q2), s.chg hch sep, ar.chg hch (a.o.off ar (by decide) (by decide)), fun b q q' => ?_⟩
  · rcases hown with q | ⟨b', q, q2⟩
    · rw [q] at e; exact a.o.o b e
    · rw [q] at e
      have e2 : b' = b := Option.some.inj e
      have := a.o.g.size
      omega
  · rcases hown with e | ⟨b', e, q2⟩
    · rw [e] at q; exact hv b q q'
    · rw [e] at q
      have e2 : b' = b := Option.some.inj q
      have := s.o.hp.sl.lt q'
      omega
end Go.Proofs.Ytbhbmcgjfcgdgaa
