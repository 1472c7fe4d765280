/- addWrites: lists of writes join the book. -/
import Derived.Test.YtbjbphhcmmaaoaaOw9
namespace Go.Proofs.Ytbjbphhcmmaaoaa
open Go.RowKit

/-- An append of some elements to a row of one's own: in its block, or in a new one, and then the old one stays. -/
theorem app_stayN {P : Program} (w : World) (base : Nat) (t ty e : TypeId) (i : TypeInfo) (z : Value) (size bytes : Nat) (ht : P.underlying t = some (.slice e)) (hi : P.info? e = some i) (hz : i.zero = some z)
    (hsize : i.size = size) (hby : i.bytes = bytes) (hzs : z.cells.size = size) (hsz : 0 < size)
    (v : Value) (n : Nat) (xs : List Value) (hown : w.ownsRow base e size v n xs)
    (a : Addr) (kk c : Nat) (hkk : 0 < kk) (news : List Value) (hl : news.length = kk * size) (hnews : ∀ j u, news[j]? = some u → w.cell? (a.add j) = some u) (h1 : ∀ u ∈ news, u.oneCell' = true)
    (h63 : n + kk ≤ maxLen) (hbytes : (n + kk) * bytes ≤ 140737488355328) (hbase : base ≤ w.heap.size) :
    ∃ v' w', (Builtin.append_ #[t, t] ty #[v, .slice (some a) kk c]).run P w = .ok v' w' ∧ w'.ownsRow base e size v' (n + kk) (xs ++ news) ∧
      ((v'.ownBlock = v.ownBlock ∧ v'.ownBlock ≠ none ∧ Chg (fun k => v.ownBlock = some k) w w') ∨ (v'.ownBlock = some w.heap.size ∧ G w w')) := by
  obtain ⟨v', w', hr, q2, q3, _, q5⟩ := run_append_own_at (P := P) w base t ty e i z size bytes ht hi hz hsize hby hzs hsz v n xs hown a kk c news hl hnews h1 h63 hbytes hbase
  have hne : v'.ownBlock ≠ none := by
    obtain ⟨g, cap, rfl⟩ := own_block q2 (by omega)
    simp [Value.ownBlock]
  have hch : Chg (fun k => v.ownBlock = some k) w w' := ⟨q3.os, q3.tape, q3.output, q3.size, fun k hk hn => q3.block k hk (fun e => hn e.symm)⟩
  refine ⟨v', w', hr, q2, ?_⟩
  rcases q5 with q5 | q5
  · exact .inl ⟨q5, hne, hch⟩
  · rcases hown.2 with ⟨rfl, rfl⟩ | ⟨g, cap, cur, rfl, hbg, hg, hnc, hcm, hcs, htake⟩
    · exact .inr ⟨q5, hch.G (fun k hk => by simp [Value.ownBlock] at hk)⟩
    · by_cases hroom : n + kk ≤ cap
      · have hfit : n * i.size + news.length ≤ cur.size := by rw [hl, hcs, hsize, ← Nat.add_mul]; exact Nat.mul_le_mul_right _ hroom
        have hr2 := run_append_room (P := P) w t ty e i ht hi g n cap cur hg a kk c news (by rw [hsize]; exact hl) hnews h1 hroom hfit
        rw [hr] at hr2
        simp only [Result.ok.injEq] at hr2
        exact .inl ⟨by rw [hr2.1]; rfl, hne, hch⟩
      · have holds : ∀ j u, xs[j]? = some u → w.cell? ((⟨g, 0, none⟩ : Addr).add j) = some u := World.ownsRow.cells hown (g := g) rfl
        have hr2 := run_append_grow (P := P) w t ty e i z ht hi hz ⟨g, 0, none⟩ n cap xs (by rw [hsize]; exact hown.1) holds a kk c news (by rw [hsize]; exact hl) hnews (by omega) (by unfold maxLen at h63; omega) (growslice_fits (by omega) (by rw [hby]; exact hbytes))
        rw [hr] at hr2
        simp only [Result.ok.injEq] at hr2
        refine .inr ⟨q5, ?_⟩
        rw [hr2.2]
        exact ((G.refl w).drew).alloc _
/-- Every write of these cells is of the sector a. -/
def AtL (xs : List Value) (n : Nat) (a : Int) : Prop := ∀ j, j < n → xs[j * 2]? = some (I a)
/-- The blocks of a list of writes and of their bytes. -/
def wB (x : Value) (n : Nat) (d : Nat → Nat) (j : Nat) : Prop := x.ownBlock = some j ∨ ∃ i, i < n ∧ d i = j
theorem own_preW {W : World} {n a : Nat} {s : Int} {x v : Value} {xs : List Value} (h : W.ownsRow 0 96 2 x n xs) (hx : AtL xs n s) (ha : a ≤ n) (hv : ∃ cap p, v = .slice p a cap ∧ (a = 0 ∨ ∃ g, p = some ⟨g, 0, none⟩ ∧ x.ownBlock = some g)) : Sws W v a s := by
  obtain ⟨cap, p, rfl, hp⟩ := hv
  refine ⟨p, cap, rfl, ?_⟩
  by_cases h0 : a = 0
  · exact .inl h0
  · obtain ⟨g, rfl, hg⟩ := hp.resolve_left h0
    refine .inr ⟨g, 0, rfl, fun j hj => ?_⟩
    obtain ⟨g', c', rfl⟩ := own_block h (by omega)
    simp [Value.ownBlock] at hg
    subst hg
    have := World.ownsRow.cells h (g := g') rfl (j * 2) (I s) (hx j (by omega))
    rw [Addr.add_mid] at this
    exact this
/-- Lists of writes under way: i of them are marked. -/
structure B1 (W0 W : World) (R : Nat → Prop) (bb N m k i : Nat) (lv mv uv vv : Value) (X Y U V Q : Nat → Value) (ln : Nat → Nat) : Prop where
  b : BH W R 0 bb N N (m + k) m lv mv uv vv X Y U V
  o : ∀ t, t < k → ∃ xs, W.ownsRow 0 96 2 (Q t) (ln t) xs ∧ (t < i → AtL xs (ln t) (-1 - ((m : Int) + (t : Int))))
  c : Chg (fun j => ∃ t, t < k ∧ (Q t).ownBlock = some j) W0 W
/-- Under way, with i of them grown and in MoreWrite. -/
structure B2 (w W : World) (R : Nat → Prop) (bb N m k i : Nat) (lv mv uv vv : Value) (X Y U V Q : Nat → Value) (ln : Nat → Nat) : Prop where
  b : BH W (fun j => R j ∨ w.heap.size ≤ j) 0 bb N N (m + k) (m + i) lv mv uv vv X Y U V
  o : ∀ t, i ≤ t → t < k → ∃ xs, W.ownsRow 0 96 2 (Q t) (ln t) xs ∧ AtL xs (ln t) (-1 - ((m : Int) + (t : Int)))
  e : ∀ t, t < i → t < k → Sws W (Q t) (ln t) (-1 - ((m : Int) + (t : Int))) ∧ Sws W (V (m + t)) (ln t + 64) (-1 - ((m : Int) + (t : Int))) ∧ ∀ j, Value.blk (Q t) j ∨ Value.blk (V (m + t)) j → ((Q t).ownBlock = some j ∨ w.heap.size ≤ j) ∧ TyB W j 96
  c : Chg (fun j => R j ∨ ∃ t, t < k ∧ (Q t).ownBlock = some j) w W
/-- A list of writes while it grows: c have come; the list itself stays. -/
structure A4 (W0 W : World) (c : Nat) (x zi : Value) (ln : Nat) (a : Int) : Prop where
  o : ∃ xs, W.ownsRow 0 96 2 x (ln + c) xs ∧ AtL xs (ln + c) a
  y : Sws W zi ln a
  t : ∀ j, Value.blk zi j → TyB W j 96
  q : x.ownBlock = zi.ownBlock ∨ ∃ g, x.ownBlock = some g ∧ W0.heap.size ≤ g
  c : Chg (fun b => zi.ownBlock = some b) W0 W
theorem AtL.snoc {xs : List Value} {n : Nat} {a : Int} {y : Value} (h : AtL xs n a) (hl : xs.length = n * 2) : AtL (xs ++ [I a, y]) (n + 1) a := fun j hj => by
  by_cases hjn : j < n
  · rw [List.getElem?_append_left (by omega)]
    exact h j hjn
  · obtain rfl : j = n := by omega
    rw [List.getElem?_append_right (by omega), hl, Nat.sub_self]
    rfl
theorem A4.step {W0 W W1 W2 : World} {c ln : Nat} {a : Int} {x x' zi : Value} {xs : List Value} (h : A4 W0 W c x zi ln a) (g : G W W1) (hx : AtL xs (ln + c) a) (hxl : xs.length = (ln + c) * 2) (hl : W2.ownsRow 0 96 2 x' (ln + c + 1) (xs ++ [I a, .slice none 0 0]))
    (ha : (x'.ownBlock = x.ownBlock ∧ x'.ownBlock ≠ none ∧ Chg (fun k => x.ownBlock = some k) W1 W2) ∨ (x'.ownBlock = some W1.heap.size ∧ G W1 W2)) (hzlt : ∀ j, zi.ownBlock = some j → j < W0.heap.size) (hzi : ∃ cap p, zi = .slice p ln cap ∧ (ln = 0 ∨ ∃ g, p = some ⟨g, 0, none⟩)) : A4 W0 W2 (c + 1) x' zi ln a := by
  have s1 := h.c.size
  have s2 := g.size
  have hat : AtL (xs ++ [I a, .slice none 0 0]) (ln + c + 1) a := hx.snoc hxl
  rcases ha with ⟨a1, a2, a3⟩ | ⟨a1, a2⟩
  · rcases h.q with q | ⟨g0, q, hg0⟩
    · have hsame : x'.ownBlock = zi.ownBlock := a1.trans q
      obtain ⟨cap, p, rfl, hp⟩ := hzi
      refine ⟨⟨_, hl, hat⟩, own_preW hl hat (by omega) ⟨cap, p, rfl, hp.imp id (fun ⟨g1, e⟩ => ⟨g1, e, by rw [hsame, e]; rfl⟩)⟩, fun j hj => own_ty hl (hsame.trans (blk_own hj)), .inl hsame, ?_⟩
      exact (h.c.trans g.chg).trans (a3.mono (fun k hk => by rw [← q]; exact hk))
    · have hn : ∀ j, Value.blk zi j → ¬ x.ownBlock = some j := fun j hj e => by
        have h7 := hzlt j (blk_own hj)
        rw [q] at e
        cases e
        omega
      refine ⟨⟨_, hl, hat⟩, (h.y.chg g.chg (F := fun _ => False) (fun _ _ e => e)).chg a3 hn, fun j hj => ((h.t j hj).chg g.chg (F := fun _ => False) (fun e => e)).chg a3 (hn j hj), .inr ⟨g0, a1.trans q, hg0⟩, ?_⟩
      exact (h.c.trans g.chg).more a3 (fun j hj e => by rw [q] at e; cases e; omega)
  · exact ⟨⟨_, hl, hat⟩, (h.y.chg g.chg (F := fun _ => False) (fun _ _ e => e)).chg a2.chg (F := fun _ => False) (fun _ _ e => e), fun j hj => ((h.t j hj).chg g.chg (F := fun _ => False) (fun e => e)).chg a2.chg (F := fun _ => False) (fun e => e), .inr ⟨_, a1, by omega⟩, (h.c.trans g.chg).trans a2.chg⟩
theorem info_sws : ∃ i, Try.prog.info? 88 = some i ∧ i.zero = some (.slice none 0 0) ∧ i.size = 1 ∧ i.bytes = 24 := info_parts (by kernel_rfl)
theorem wl_slice {b n : Nat} {W : World} {x : Value} {d : Nat → Nat} (h : WL b W x n d) : ∃ a c, x = .slice a n c := by
  obtain ⟨xs, ho, _⟩ := h.o
  rcases ho.2 with ⟨rfl, rfl⟩ | ⟨g, c, _, rfl, _⟩
  · exact ⟨none, 0, rfl⟩
  · exact ⟨_, _, rfl⟩
theorem WL.cell {b n i : Nat} {W : World} {x : Value} {d : Nat → Nat} (h : WL b W x n d) (hi : i < n) : ∃ g c, x = .slice (some ⟨g, 0, none⟩) n c ∧ W.cell? ⟨g, i * 2 + 1, none⟩ = some (dsl (d i)) := by
  obtain ⟨xs, ho, hx⟩ := h.o
  obtain ⟨g, c, rfl⟩ := own_block ho (by omega)
  have := World.ownsRow.cells ho (g := g) rfl (i * 2 + 1) _ (hx i hi)
  rw [Addr.add_mid, Nat.zero_add] at this
  exact ⟨g, c, rfl, this⟩
/-- The bytes of both lists. -/
def zz (dp dq : Nat → Nat) (np i : Nat) : Value := dsl (if i < np then dp i else dq (i - np))
def q2 (p q : Value) (i : Nat) : Value := if i = 0 then p else q
def n2 (a b i : Nat) : Nat := if i = 0 then a else b
theorem zz_cases (dp dq : Nat → Nat) (np t : Nat) : (t < np ∧ zz dp dq np t = dsl (dp t)) ∨ (np ≤ t ∧ zz dp dq np t = dsl (dq (t - np))) := by
  by_cases h : t < np
  · exact .inl ⟨h, by unfold zz; rw [if_pos h]⟩
  · exact .inr ⟨by omega, by unfold zz; rw [if_neg h]⟩
theorem dsl_own {d g : Nat} (h : (dsl d).ownBlock = some g) : d = g := by simpa [dsl, Value.ownBlock] using h
theorem zz_nz {W : World} {K : Nat → Prop} {b1 b2 np nq : Nat} {p q : Value} {dp dq : Nat → Nat} (hp : WL b1 W p np dp) (hq : WL b2 W q nq dq) (kp : ∀ j, wB p np dp j → ¬ K j) (kq : ∀ j, wB q nq dq j → ¬ K j) (pq : ∀ j, wB p np dp j → ¬ wB q nq dq j) : NZ W K (np + nq) (zz dp dq np) (fun _ => 128) := by
  refine ⟨fun t ht => ?_, fun t ht g hg => ⟨?_, fun s hs hne e => ?_⟩, fun _ _ => by omega⟩
  · rcases zz_cases dp dq np t with ⟨h1, h2⟩ | ⟨h1, h2⟩
    · obtain ⟨ys, hy, hl⟩ := hp.k t h1
      rw [h2]
      exact ⟨_, blk_row hy (Nat.le_refl _) hl (by unfold maxLen; omega)⟩
    · obtain ⟨ys, hy, hl⟩ := hq.k (t - np) (by omega)
      rw [h2]
      exact ⟨_, blk_row hy (Nat.le_refl _) hl (by unfold maxLen; omega)⟩
  · rcases zz_cases dp dq np t with ⟨h1, h2⟩ | ⟨h1, h2⟩
    · rw [h2] at hg
      exact kp g (.inr ⟨t, h1, dsl_own hg⟩)
    · rw [h2] at hg
      exact kq g (.inr ⟨t - np, by omega, dsl_own hg⟩)
  · rcases zz_cases dp dq np t with ⟨h1, h2⟩ | ⟨h1, h2⟩ <;> rcases zz_cases dp dq np s with ⟨g1, g2⟩ | ⟨g1, g2⟩ <;> rw [h2] at hg <;> rw [g2] at e
    · exact hp.p s t g1 h1 hne ((dsl_own e).trans (dsl_own hg).symm)
    · exact pq g (.inr ⟨t, h1, dsl_own hg⟩) (.inr ⟨s - np, by omega, dsl_own e⟩)
    · exact pq g (.inr ⟨s, g1, dsl_own e⟩) (.inr ⟨t - np, by omega, dsl_own hg⟩)
    · exact hq.p (s - np) (t - np) (by omega) (by omega) (by omega) ((dsl_own e).trans (dsl_own hg).symm)
theorem zz_blk {np nq : Nat} {dp dq : Nat → Nat} {j : Nat} (h : zB (np + nq) (zz dp dq np) j) : (∃ i, i < np ∧ dp i = j) ∨ ∃ i, i < nq ∧ dq i = j := by
  obtain ⟨t, ht, hg⟩ := h
  rcases zz_cases dp dq np t with ⟨h1, h2⟩ | ⟨h1, h2⟩
  · rw [h2] at hg
    exact .inl ⟨t, h1, dsl_own hg⟩
  · rw [h2] at hg
    exact .inr ⟨t - np, by omega, dsl_own hg⟩
theorem zz_ty {W : World} {b1 b2 np nq : Nat} {p q : Value} {dp dq : Nat → Nat} (hp : WL b1 W p np dp) (hq : WL b2 W q nq dq) {j : Nat} (h : zB (np + nq) (zz dp dq np) j) : ∃ ys, Blk W j 5 ys := by
  rcases zz_blk h with ⟨i, hi, rfl⟩ | ⟨i, hi, rfl⟩
  · exact (hp.k i hi).elim fun ys hy => ⟨ys, hy.1⟩
  · exact (hq.k i hi).elim fun ys hy => ⟨ys, hy.1⟩
theorem size_sw : (Try.prog.info? 96).map (·.size) = some 2 := by kernel_rfl
theorem all_sw (a : Int) : (#[I a, Value.slice none 0 0] : Array Value).all (·.oneCell') = true := all_oneCell_toArray (cs := [I a, .slice none 0 0]) (fun v hv => by simp at hv; rcases hv with rfl | rfl <;> rfl)
theorem two_c {t : Nat} (h : t < 2) : t = 0 ∨ t = 1 := by omega
theorem own_there {W : World} {z e n g cap j : Nat} {xs : List Value} (h : W.ownsRow z e 2 (.slice (some ⟨g, 0, none⟩) n cap) n xs) (hj : j < n) : W.there g (j * 2) 2 := by
  rcases h.2 with ⟨h0, _⟩ | ⟨g', cap', cur, hv, hb, hg, hc, hm, hs, ht⟩
  · cases h0
  · cases hv
    have hB : Blk W g e cur.toList := ⟨by simpa using hg⟩
    exact hB.there (j * 2) 2 (by simp; omega)
theorem own_sets {W : World} {z e n g cap j : Nat} {xs : List Value} {a : Int} {y : Value} (h : W.ownsRow z e 2 (.slice (some ⟨g, 0, none⟩) n cap) n xs) (hj : j < n) (hx : AtL xs j a) : ∃ xs', (W.setCells g (j * 2) [I a, y]).ownsRow z e 2 (.slice (some ⟨g, 0, none⟩) n cap) n xs' ∧ AtL xs' (j + 1) a := by
  rcases h.2 with ⟨h0, _⟩ | ⟨g', cap', cur, hv, hb, hg, hc, hm, hs, ht⟩
  · cases h0
  · cases hv
    have hB : Blk W g e cur.toList := ⟨by simpa using hg⟩
    have hl : cur.toList.length = cap * 2 := by simpa using hs
    have hB2 := hB.sets [I a, y] (j * 2) (by simp only [List.length_cons, List.length_nil]; omega)
    refine ⟨(cur.toList.take (j * 2) ++ [I a, y] ++ cur.toList.drop (j * 2 + 2)).take (n * 2), ⟨?_, .inr ⟨g, cap, _, rfl, hb, hB2.h, hc, hm, ?_, ?_⟩⟩, fun t ht' => ?_⟩
    · simp only [List.length_take, List.length_append, List.length_drop, List.length_cons, List.length_nil]
      omega
    · simp only [List.size_toArray, List.length_take, List.length_append, List.length_drop, List.length_cons, List.length_nil]
      omega
    · rfl
    · rw [List.getElem?_take_of_lt (by omega), List.append_assoc]
      by_cases htj : t < j
      · rw [List.getElem?_append_left (by rw [List.length_take]; omega), List.getElem?_take_of_lt (by omega)]
        have := hx t htj
        rw [← ht, List.getElem?_take_of_lt (by omega)] at this
        exact this
      · obtain rfl : t = j := by omega
        rw [List.getElem?_append_right (by rw [List.length_take]; omega), List.length_take, Nat.min_eq_left (by omega), Nat.sub_self]
        rfl
theorem row_two {W : World} {z m : Nat} {e : TypeId} {v p q : Value} {U : Nat → Value} (h : W.ownsRow z e 1 v (m + 2) ((List.range m).map U ++ [p, q])) : RowN W z e v (m + 2) (jn U (q2 p q) m) := by
  have he : (List.range (m + 2)).map (jn U (q2 p q) m) = (List.range m).map U ++ [p, q] := by
    rw [List.range_succ, List.range_succ, List.map_append, List.map_append, List.append_assoc]
    congr 1
    · refine List.map_congr_left fun i hi => ?_
      unfold jn
      rw [if_pos (List.mem_range.1 hi)]
    · simp [jn, q2]
      intro h
      omega
  unfold RowN
  rw [he]
  exact h
/-- The book behind addWrites. -/
theorem addW_end {w wg w2 w6 w8 W : World} {K R : Nat → Prop} {bb n m np nq : Nat} {p q lv mv uv vv v7 vv2 : Value} {dp dq : Nat → Nat} {X1 Y1 U V V2 : Nat → Value} (hG : G w wg) (hc2 : Chg (fun j => R j ∨ zB (np + nq) (zz dp dq np) j) wg w2)
    (hb2 : BK w2 (fun j => K j ∨ zB (np + nq) (zz dp dq np) j ∨ wg.heap.size ≤ j) (fun j => R j ∨ wg.heap.size ≤ j) 0 bb (n + (np + nq)) (n + (np + nq)) m m X1 Y1 U V)
    (hbh : BH w2 (fun j => R j ∨ w.heap.size ≤ j) 0 bb (n + (np + nq)) (n + (np + nq)) m m lv mv uv vv X1 Y1 U V) (hg6 : G w2 w6) (hc68 : Chg (fun j => rB bb lv mv uv vv j) w6 w8)
    (hb8 : BH w8 (fun j => R j ∨ w.heap.size ≤ j) 0 bb (n + (np + nq)) (n + (np + nq)) (m + 2) m lv mv v7 vv X1 Y1 (jn U (q2 p q) m) V) (hap : ∀ g, v7.ownBlock = some g → uv.ownBlock = some g ∨ w2.heap.size ≤ g)
    (hqd : ∀ t, t < 2 → ∀ g, (q2 p q t).ownBlock = some g → (wB p np dp g ∨ wB q nq dq g) ∧ g < w.heap.size ∧ ∀ s, s < 2 → s ≠ t → (q2 p q s).ownBlock ≠ some g) (hqt : ∀ t, t < 2 → ∀ g, (q2 p q t).ownBlock = some g → TyB w2 g 96 ∧ ¬ zB (np + nq) (zz dp dq np) g)
    (h : B2 w8 W (rB bb lv mv v7 vv) bb (n + (np + nq)) m 2 2 lv mv v7 vv2 X1 Y1 (jn U (q2 p q) m) V2 (q2 p q) (n2 np nq)) (hV : ∀ s, s < m → V2 s = V s) (hn : n + (np + nq) ≤ 1152921504606846976) (hm : m + 2 ≤ 1152921504606846976) (hpk : ∀ j, wB p np dp j → ¬ K j) (hqk : ∀ j, wB q nq dq j → ¬ K j) (hql : ∀ t, n2 np nq t ≤ 549755813888) :
    BK W (fun j => K j ∨ wB p np dp j ∨ wB q nq dq j ∨ w.heap.size ≤ j) (fun j => R j ∨ w.heap.size ≤ j) 0 bb (n + (np + nq)) (n + (np + nq)) (m + 2) (m + 2) X1 Y1 (jn U (q2 p q) m) V2 ∧ Chg (fun j => R j ∨ wB p np dp j ∨ wB q nq dq j) w W := by
  have s1 := hG.size
  have s2 := hc2.size
  have s6 := hg6.size
  have s8 := hc68.size
  have hr8 : ∀ j, rB bb lv mv v7 vv j → rB bb lv mv uv vv j ∨ w2.heap.size ≤ j := fun j hj => by
    rcases hj with e | e | e | e | e
    · exact .inl (.inl e)
    · exact .inl (.inr (.inl e))
    · exact .inl (.inr (.inr (.inl e)))
    · exact (hap j e).imp (fun x => .inr (.inr (.inr (.inl x)))) id
    · exact .inl (.inr (.inr (.inr (.inr e))))
  have c2W : Chg (fun j => rB bb lv mv uv vv j ∨ ∃ t, t < 2 ∧ (q2 p q t).ownBlock = some j) w2 W := by
    refine ((hg6.chg.trans (hc68.mono (fun j hj => .inl hj))).more h.c (fun j hj e => ?_))
    rcases e with e | e
    · rcases hr8 j e with e | e
      · exact .inl e
      · omega
    · exact .inr e
  have hK2 : ∀ j, (K j ∨ zB (np + nq) (zz dp dq np) j ∨ wg.heap.size ≤ j) → K j ∨ wB p np dp j ∨ wB q nq dq j ∨ w.heap.size ≤ j := fun j hj => by
    rcases hj with e | e | e
    · exact .inl e
    · rcases zz_blk e with e | e
      · exact .inr (.inl (.inr e))
      · exact .inr (.inr (.inl (.inr e)))
    · exact .inr (.inr (.inr (by omega)))
  have nu : ∀ j, TyB w2 j 5 → ¬ (rB bb lv mv uv vv j ∨ ∃ t, t < 2 ∧ (q2 p q t).ownBlock = some j) := fun j hj e => by
    rcases e with e | ⟨t, ht, hg⟩
    · exact hbh.ty hj (by decide) (by decide) (by decide) e
    · exact tyB_ne hj (hqt t ht j hg).1 (by decide) rfl
  have nw : ∀ j, (K j ∨ zB (np + nq) (zz dp dq np) j ∨ wg.heap.size ≤ j) → TyB w2 j 96 → ¬ (rB bb lv mv uv vv j ∨ ∃ t, t < 2 ∧ (q2 p q t).ownBlock = some j) := fun j hk hj e => by
    rcases e with e | ⟨t, ht, hg⟩
    · exact hbh.ty hj (by decide) (by decide) (by decide) e
    · obtain ⟨q1, q2', _⟩ := hqd t ht j hg
      rcases hk with e | e | e
      · exact q1.elim (fun x => hpk j x e) (fun x => hqk j x e)
      · exact (hqt t ht j hg).2 e
      · omega
  refine ⟨⟨⟨lv, mv, v7, vv2, h.b.blk, h.b.l, h.b.m, h.b.u, h.b.v, fun g hg => ?_, h.b.d1, h.b.d2⟩, fun i hi => ?_, fun i hi => ?_, hb8.b, Nat.le_refl _, Nat.le_refl _, hn, hm⟩, ?_⟩
  · rcases h.b.r g hg with e | e
    · exact hb8.R e
    · exact .inr (by omega)
  · obtain ⟨a, b, q1, q2', q3, q4, q5⟩ := hb2.e i hi
    exact ⟨a, b, q1, q2', q3.chg c2W (fun j hj => nu j (q5 j (.inl hj)).2), q4.chg c2W (fun j hj => nu j (q5 j (.inr hj)).2), fun j hj => ⟨hK2 j (q5 j hj).1, (q5 j hj).2.chg c2W (nu j (q5 j hj).2)⟩⟩
  · by_cases him : i < m
    · obtain ⟨a, b, q1, q2', q3, q4, q5⟩ := hb2.w i him
      have e1 : jn U (q2 p q) m i = U i := by unfold jn; rw [if_pos him]
      rw [e1, hV i him]
      have n5 : ∀ j, Value.blk (U i) j ∨ Value.blk (V i) j → ¬ (rB bb lv mv uv vv j ∨ ∃ t, t < 2 ∧ (q2 p q t).ownBlock = some j) := fun j hj => nw j (q5 j hj).1 (q5 j hj).2
      exact ⟨a, b, q1, q2', q3.chg c2W (fun j hj => n5 j (.inl hj)), q4.chg c2W (fun j hj => n5 j (.inr hj)), fun j hj => ⟨hK2 j (q5 j hj).1, (q5 j hj).2.chg c2W (n5 j hj)⟩⟩
    · obtain ⟨t, rfl⟩ : ∃ t, i = m + t := ⟨i - m, by omega⟩
      have e1 : jn U (q2 p q) m (m + t) = q2 p q t := by unfold jn; rw [if_neg (by omega), Nat.add_sub_cancel_left]
      have e2 : (-1 - ((m + t : Nat) : Int)) = -1 - ((m : Int) + (t : Int)) := by omega
      rw [e1, e2]
      obtain ⟨g1, g2, g3⟩ := h.e t (by omega) (by omega)
      have := hql t
      refine ⟨n2 np nq t, n2 np nq t + 64, by omega, by omega, g1, g2, fun j hj => ⟨?_, (g3 j hj).2⟩⟩
      rcases (g3 j hj).1 with e | e
      · rcases (hqd t (by omega) j e).1 with e | e
        · exact .inr (.inl e)
        · exact .inr (.inr (.inl e))
      · exact .inr (.inr (.inr (by omega)))
  · refine ((hG.chg.trans (hc2.mono (fun j hj => ?_))).more c2W (fun j hj e => ?_))
    · rcases hj with e | e
      · exact .inl e
      · rcases zz_blk e with e | e
        · exact .inr (.inl (.inr e))
        · exact .inr (.inr (.inr e))
    · rcases e with e | ⟨t, ht, hg⟩
      · rcases hbh.R e with e | e
        · exact .inl e
        · omega
      · exact .inr ((hqd t ht j hg).1)
set_option maxRecDepth 100000 in
set_option maxHeartbeats 8000000 in
theorem addW_any (K R : Nat → Prop) (bb n m np nq b1 b2 : Nat) (p q : Value) (dp dq : Nat → Nat) (X Y U V : Nat → Value) (hn2 : n + (np + nq) ≤ 5864062014805) (hm2 : m + 2 ≤ 5864062014805) (hnp : np ≤ 549755813888) (hnq : nq ≤ 549755813888) (w : World) (h : BK w K R 0 bb n n m m X Y U V) (hp : WL b1 w p np dp) (hq : WL b2 w q nq dq) (hKR : ∀ j, K j ∨ R j → j < w.heap.size) (hpk : ∀ j, wB p np dp j → ¬ K j ∧ ¬ R j) (hqk : ∀ j, wB q nq dq j → ¬ K j ∧ ¬ R j) (hpq : ∀ j, wB p np dp j → ¬ wB q nq dq j) :
    Calls Try.prog 39 #[.pointer (some ⟨bb, 0, none⟩), p, q] w fun e w' => e = .returned (.tuple #[]) ∧ ∃ X' Y' U' V', BK w' (fun j => K j ∨ wB p np dp j ∨ wB q nq dq j ∨ w.heap.size ≤ j) (fun j => R j ∨ w.heap.size ≤ j) 0 bb (n + (np + nq)) (n + (np + nq)) (m + 2) (m + 2) X' Y' U' V' ∧ Chg (fun j => R j ∨ wB p np dp j ∨ wB q nq dq j) w w' := by
  obtain ⟨pa, pc, ep⟩ := wl_slice hp
  obtain ⟨qa, qc, eq⟩ := wl_slice hq
  subst ep eq
  have HP := hide hp
  have HQ := hide hq
  have HBK := hide h
  have HKR := hide hKR
  have HPK := hide hpk
  have HQK := hide hqk
  have HPQ := hide hpq
  clear h hp hq hKR hpk hqk hpq
  go_enter Try.func39, Try.ntmps39
  go_wp2_with fail
  go_loopw [6, 7] (fun v c W => ∃ i : Nat, i ≤ np ∧ c = .int .i64 i ∧ G w W ∧ RowN W w.heap.size 28 v i (zz dp dq np)) (fun _ c _ => np - (RowKit.intOf c).toNat)
  case atStart => exact ⟨0, by omega, rfl, G.refl w, World.ownsRow_nil _ _ _ _⟩
  case round =>
    obtain ⟨i, hi, rfl, hg, hr⟩ := hrel
    have HG := hide hg
    have HR := hide hr
    clear hg hr
    obtain ⟨va, vc, ev⟩ := HR.out.slice
    subst ev
    by_cases hlt : i < np
    · have hiI : (i : Int) < (np : Int) := by omega
      obtain ⟨gp, cp, egp, hc⟩ := (HP.out.G HG.out).cell hlt
      cases egp
      have hzi : zz dp dq np i = dsl (dp i) := by unfold zz; rw [if_pos hlt]
      obtain ⟨i0, hi0, hz0, hz1, hz2⟩ := info_bs
      obtain ⟨v7, w7, hrun, hrow7, hap7⟩ := app_stay (P := Try.prog) (wr.alloc (.cells #[.slice (some ⟨dp i, 0, none⟩) 128 128] 28)) w.heap.size 27 27 28 i0 _ 1 24 Try.underlying27 hi0 hz0 hz1 hz2 rfl (by decide) (.slice va i vc) i ((List.range i).map (zz dp dq np)) (own_G HR.out ((G.refl _).alloc _)) ⟨wr.heap.size, 0, none⟩ 1 [.slice (some ⟨dp i, 0, none⟩) 128 128] rfl (cell_one_new wr _ 28) (fun u hu => by simp at hu; subst hu; rfl) (by unfold maxLen; omega) (by omega) (by have := HG.out.size; simp; omega)
      have HRUN := hide hrun
      have hup : upd (zz dp dq np) i (.slice (some ⟨dp i, 0, none⟩) 128 128) = zz dp dq np := by
        funext t
        unfold upd
        by_cases ht : t = i
        · rw [if_pos ht, ht, hzi]; rfl
        · rw [if_neg ht]
      have HR7 : Hid (RowN w7 w.heap.size 28 v7 (i + 1) (zz dp dq np)) := by
        have := RowN.push hrow7
        rw [hup] at this
        exact this
      have HG7 : Hid (G w w7) := by
        have g1 := HG.out.alloc (.cells #[.slice (some ⟨dp i, 0, none⟩) 128 128] 28)
        rcases hap7 with ⟨_, _, c7⟩ | ⟨_, g7⟩
        · exact ((g1.chg (F := fun j => w.heap.size ≤ j)).more c7 (fun j hj e => (World.ownsRow.lt HR.out j e).1)).G (fun j hj => hj)
        · exact g1.trans g7
      clear hrun hrow7 hap7 hi0 hz0 hz1 hz2 hup hzi
      unfold dsl at hc
      go_wp2_with (first | (at_builtin; refine wpList_append_run rfl _ _ 27 rfl (.slice va i vc) (.slice (some ⟨wr.heap.size, 0, none⟩) 1 1) rfl rfl HRUN.out ?_) | fail)
      clear HRUN hc
      go_wp2
      go_roundw
      case rel => exact ⟨i + 1, by omega, by go_num, HG7.out, HR7.out⟩
      case measure => simp [RowKit.intOf]; omega
    · obtain rfl : np = i := by omega
      go_wp2_with fail
      go_loopw [6, 8] (fun v c W => ∃ i : Nat, i ≤ nq ∧ c = .int .i64 i ∧ G w W ∧ RowN W w.heap.size 28 v (np + i) (zz dp dq np)) (fun _ c _ => nq - (RowKit.intOf c).toNat)
      case atStart => exact ⟨0, by omega, rfl, HG.out, HR.out⟩
      case round =>
        obtain ⟨i, hi, rfl, hg, hr⟩ := hrel
        have HG := hide hg
        have HR := hide hr
        clear hg hr
        obtain ⟨va, vc, ev⟩ := HR.out.slice
        subst ev
        by_cases hlt : i < nq
        · have hiI : (i : Int) < (nq : Int) := by omega
          obtain ⟨gp, cp, egp, hc⟩ := (HQ.out.G HG.out).cell hlt
          cases egp
          have hzi : zz dp dq np (np + i) = dsl (dq i) := by unfold zz; rw [if_neg (by omega), Nat.add_sub_cancel_left]
          obtain ⟨i0, hi0, hz0, hz1, hz2⟩ := info_bs
          obtain ⟨v7, w7, hrun, hrow7, hap7⟩ := app_stay (P := Try.prog) (wr.alloc (.cells #[.slice (some ⟨dq i, 0, none⟩) 128 128] 28)) w.heap.size 27 27 28 i0 _ 1 24 Try.underlying27 hi0 hz0 hz1 hz2 rfl (by decide) (.slice va (np + i) vc) (np + i) ((List.range (np + i)).map (zz dp dq np)) (own_G HR.out ((G.refl _).alloc _)) ⟨wr.heap.size, 0, none⟩ 1 [.slice (some ⟨dq i, 0, none⟩) 128 128] rfl (cell_one_new wr _ 28) (fun u hu => by simp at hu; subst hu; rfl) (by unfold maxLen; omega) (by omega) (by have := HG.out.size; simp; omega)
          have HRUN := hide hrun
          have hup : upd (zz dp dq np) (np + i) (.slice (some ⟨dq i, 0, none⟩) 128 128) = zz dp dq np := by
            funext t
            unfold upd
            by_cases ht : t = (np + i)
            · rw [if_pos ht, ht, hzi]; rfl
            · rw [if_neg ht]
          have HR7 : Hid (RowN w7 w.heap.size 28 v7 ((np + i) + 1) (zz dp dq np)) := by
            have := RowN.push hrow7
            rw [hup] at this
            exact this
          have HG7 : Hid (G w w7) := by
            have g1 := HG.out.alloc (.cells #[.slice (some ⟨dq i, 0, none⟩) 128 128] 28)
            rcases hap7 with ⟨_, _, c7⟩ | ⟨_, g7⟩
            · exact ((g1.chg (F := fun j => w.heap.size ≤ j)).more c7 (fun j hj e => (World.ownsRow.lt HR.out j e).1)).G (fun j hj => hj)
            · exact g1.trans g7
          clear hrun hrow7 hap7 hi0 hz0 hz1 hz2 hup hzi
          unfold dsl at hc
          go_wp2_with (first | (at_builtin; refine wpList_append_run rfl _ _ 27 rfl (.slice va (np + i) vc) (.slice (some ⟨wr.heap.size, 0, none⟩) 1 1) rfl rfl HRUN.out ?_) | fail)
          clear HRUN hc
          go_wp2
          go_roundw
          case rel => exact ⟨i + 1, by omega, by go_num, HG7.out, HR7.out⟩
          case measure => simp [RowKit.intOf]; omega
        · obtain rfl : nq = i := by omega
          go_wp2_with fail
          have hab : ∃ ab, 0 < np + nq → va = some ⟨ab, 0, none⟩ ∧ TyB wr ab 28 ∧ ¬ R ab ∧ ∀ t, t < np + nq → wr.cell? ⟨ab, 0 + t, none⟩ = some (zz dp dq np t) := by
            by_cases hk : 0 < np + nq
            · obtain ⟨g, cap, e, _⟩ := HR.out.cell hk
              cases e
              refine ⟨g, fun _ => ⟨rfl, own_ty HR.out rfl, fun e => ?_, fun t ht => ?_⟩⟩
              · have h1 := HKR.out g (.inr e)
                have h2 := (World.ownsRow.lt HR.out g rfl).1
                omega
              · obtain ⟨g', c', e', h'⟩ := HR.out.cell ht
                cases e'
                rw [Nat.zero_add]
                exact h'
            · exact ⟨0, fun h => absurd h hk⟩
          obtain ⟨ab, hab⟩ := hab
          have HNZ : Hid (NZ wr K (np + nq) (zz dp dq np) (fun _ => 128)) := zz_nz (HP.out.G HG.out) (HQ.out.G HG.out) (fun j hj => (HPK.out j hj).1) (fun j hj => (HQK.out j hj).1) HPQ.out
          refine (add_bk K R bb n m (np + nq) ab 0 vc va X Y U V (zz dp dq np) (fun _ => 128) hn2 wr (HBK.out.G HG.out) HNZ.out (fun t ht => (hab (by omega)).2.2.2 t ht) (fun hk => ⟨(hab hk).1, (hab hk).2.1, (hab hk).2.2.1⟩)).mono ?_
          rintro e w2 ⟨rfl, X1, Y1, hb2, hc2⟩
          have HRP : Hid (∃ xs, w2.ownsRow 0 96 2 (.slice pa np pc) np xs) := by
            obtain ⟨xs, ho, _⟩ := (HP.out.G HG.out).o
            refine ⟨xs, own_chg ho hc2 (fun g hg e => ?_)⟩
            rcases e with e | e
            · exact (HPK.out g (.inl hg)).2 e
            · obtain ⟨ys, hy⟩ := zz_ty (HP.out.G HG.out) (HQ.out.G HG.out) e
              exact own_ne ho hy (by decide) hg
          have HRQ : Hid (∃ xs, w2.ownsRow 0 96 2 (.slice qa nq qc) nq xs) := by
            obtain ⟨xs, ho, _⟩ := (HQ.out.G HG.out).o
            refine ⟨xs, own_chg ho hc2 (fun g hg e => ?_)⟩
            rcases e with e | e
            · exact (HQK.out g (.inl hg)).2 e
            · obtain ⟨ys, hy⟩ := zz_ty (HP.out.G HG.out) (HQ.out.G HG.out) e
              exact own_ne ho hy (by decide) hg
          have HC2 := hide hc2
          have HB2 := hide hb2
          obtain ⟨lv, mv, uv, vv, k1, k2, k3, k4, k5, k6, k7, k8⟩ := hb2.hd
          have hbh : BH w2 (fun j => R j ∨ w.heap.size ≤ j) 0 bb (n + (np + nq)) (n + (np + nq)) m m lv mv uv vv X1 Y1 U V := ⟨k1, k2, k3, k4, k5, fun g hg => (k6 g hg).imp id (fun h => Nat.le_trans HG.out.size h), k7, k8, .inl HBK.out.b⟩
          obtain ⟨la, lc, elv⟩ := k2.slice
          obtain ⟨ma, mc, emv⟩ := k3.slice
          obtain ⟨ua, uc, euv⟩ := k4.slice
          obtain ⟨va2, vc2, evv⟩ := k5.slice
          subst elv emv euv evv
          have HBH := hide hbh
          clear k1 k2 k3 k4 k5 k6 k7 k8 hbh hb2 hc2 hab HNZ
          have HG6 : Hid (G w2 (w2.alloc (.cells #[.slice pa np pc, .slice qa nq qc] 88))) := (G.refl w2).alloc _
          obtain ⟨i0, hi0, hz0, hz1, hz2⟩ := info_sws
          obtain ⟨v7, w7, hrun, hrow7, hap7⟩ := app_stayN (P := Try.prog) (w2.alloc (.cells #[.slice pa np pc, .slice qa nq qc] 88)) 0 59 59 88 i0 _ 1 24 Try.underlying59 hi0 hz0 hz1 hz2 rfl (by decide) (.slice ua m uc) m ((List.range m).map U) (HBH.out.G HG6.out).u ⟨w2.heap.size, 0, none⟩ 2 2 (by decide) [(.slice pa np pc), (.slice qa nq qc)] rfl (fun j u hj => by rw [Addr.add_mid, Nat.zero_add, (Blk.new w2 [(.slice pa np pc), (.slice qa nq qc)] 88).cell]; exact hj) (fun u hu => by simp at hu; rcases hu with rfl | rfl <;> rfl) (by unfold maxLen; omega) (by omega) (Nat.zero_le _)
          obtain ⟨g7, c7, rfl⟩ := own_block hrow7 (by omega)
          have HRUN := hide hrun
          have HAP : Hid (Ap (w2.alloc (.cells #[.slice pa np pc, .slice qa nq qc] 88)) w7 (.slice ua m uc) (.slice (some ⟨g7, 0, none⟩) (m + 2) c7)) := ⟨hap7⟩
          have HRW : Hid (RowN w7 0 88 (.slice (some ⟨g7, 0, none⟩) (m + 2) c7) (m + 2) (jn U (q2 (.slice pa np pc) (.slice qa nq qc)) m)) := row_two hrow7
          clear hap7 hrow7 hi0 hz0 hz1 hz2 hrun
          have HNB : Hid (¬ (((.slice ua m uc) : Value).ownBlock = some bb)) := row_bb (HBH.out.G HG6.out).u (HBH.out.G HG6.out).blk (by decide)
          have hcb := HBH.out.blk.cell
          have hc7 := ((HBH.out.blk.G HG6.out).chg HAP.out.chg HNB.out).cell
          have hz7 := ((HBH.out.blk.G HG6.out).chg HAP.out.chg HNB.out).frozen
          go_wp2_with (first | (at_builtin; refine wpList_append_run rfl _ _ 59 rfl (.slice ua m uc) (.slice (some ⟨w2.heap.size, 0, none⟩) 2 2) rfl rfl HRUN.out ?_) | fail)
          clear hcb
          have HS2 : Hid (w.heap.size ≤ wr.heap.size ∧ wr.heap.size ≤ w2.heap.size) := ⟨HG.out.size, HC2.out.size⟩
          have HPU := hide ((HBH.out.G HG6.out).growU HRW.out HAP.out (fun x hx => .inr (by have := HS2.out; have := HG6.out.size; omega)))
          have HQD : Hid (∀ t, t < 2 → ∀ g, ((q2 (.slice pa np pc) (.slice qa nq qc)) t).ownBlock = some g → (wB (.slice pa np pc) np dp g ∨ wB (.slice qa nq qc) nq dq g) ∧ g < w.heap.size ∧ ∀ s, s < 2 → s ≠ t → ((q2 (.slice pa np pc) (.slice qa nq qc)) s).ownBlock ≠ some g) := fun t ht g hg => by
            rcases two_c ht with rfl | rfl
            · refine ⟨.inl (.inl hg), HP.out.o.elim fun xs ho => own_lt ho.1 hg, fun s hs hne e => ?_⟩
              obtain rfl : s = 1 := by omega
              exact HPQ.out g (.inl hg) (.inl e)
            · refine ⟨.inr (.inl hg), HQ.out.o.elim fun xs ho => own_lt ho.1 hg, fun s hs hne e => ?_⟩
              obtain rfl : s = 0 := by omega
              exact HPQ.out g (.inl e) (.inl hg)
          have HQL : Hid (∀ t, (n2 np nq) t ≤ 549755813888) := fun t => by unfold n2; split <;> assumption
          have HB8 := hide HPU.out.1
          have HC68 := hide HPU.out.2
          have HCB8 := hide HPU.out.1.blk.cell
          have H1 : Hid (B1 (w7.setCell ⟨bb, 2, none⟩ (.slice (some ⟨g7, 0, none⟩) (m + 2) c7)) (w7.setCell ⟨bb, 2, none⟩ (.slice (some ⟨g7, 0, none⟩) (m + 2) c7)) (rB bb (.slice la (n + (np + nq)) lc) (.slice ma (n + (np + nq)) mc) (.slice (some ⟨g7, 0, none⟩) (m + 2) c7) (.slice va2 m vc2)) bb (n + (np + nq)) m 2 0 (.slice la (n + (np + nq)) lc) (.slice ma (n + (np + nq)) mc) (.slice (some ⟨g7, 0, none⟩) (m + 2) c7) (.slice va2 m vc2) X1 Y1 (jn U (q2 (.slice pa np pc) (.slice qa nq qc)) m) V (q2 (.slice pa np pc) (.slice qa nq qc)) (n2 np nq)) := by
            have hb := HPU.out.1
            have hr : ∀ {v : Value} {k : Nat}, (∃ xs, w2.ownsRow 0 96 2 v k xs) → ∃ xs, (w7.setCell ⟨bb, 2, none⟩ (.slice (some ⟨g7, 0, none⟩) (m + 2) c7)).ownsRow 0 96 2 v k xs := fun ⟨xs, ho⟩ => ⟨xs, own_chg (own_G ho HG6.out) HPU.out.2 (fun g hg e => (HBH.out.G HG6.out).ty (own_ty (own_G ho HG6.out) hg) (by decide) (by decide) (by decide) e)⟩
            refine ⟨⟨hb.blk, hb.l, hb.m, hb.u, hb.v, fun g hg => .inr hg, hb.d1, hb.d2, .inl rfl⟩, fun t ht => ?_, Chg.refl _ _⟩
            rcases two_c ht with rfl | rfl
            · exact (hr HRP.out).elim fun xs h => ⟨xs, h, fun h => absurd h (Nat.not_lt_zero _)⟩
            · exact (hr HRQ.out).elim fun xs h => ⟨xs, h, fun h => absurd h (Nat.not_lt_zero _)⟩
          have HW8 : Hid (w.heap.size ≤ (w7.setCell ⟨bb, 2, none⟩ (.slice (some ⟨g7, 0, none⟩) (m + 2) c7)).heap.size) := Nat.le_trans (Nat.le_trans HS2.out.1 HS2.out.2) (Nat.le_trans HG6.out.size HPU.out.2.size)
          have HAPO : Hid (∀ g, ((.slice (some ⟨g7, 0, none⟩) (m + 2) c7) : Value).ownBlock = some g → ((.slice ua m uc) : Value).ownBlock = some g ∨ w2.heap.size ≤ g) := fun g hg => (HAP.out.own hg).imp id (fun e => by have := HG6.out.size; omega)
          have HQT : Hid (∀ t, t < 2 → ∀ g, ((q2 (.slice pa np pc) (.slice qa nq qc)) t).ownBlock = some g → TyB w2 g 96 ∧ ¬ zB (np + nq) (zz dp dq np) g) := fun t ht g hg => by
            rcases two_c ht with rfl | rfl
            · refine ⟨HRP.out.elim fun xs ho => own_ty ho hg, fun e => ?_⟩
              obtain ⟨ys, hy⟩ := zz_ty (HP.out.G HG.out) (HQ.out.G HG.out) e
              obtain ⟨xs, ho, _⟩ := (HP.out.G HG.out).o
              exact own_ne ho hy (by decide) hg
            · refine ⟨HRQ.out.elim fun xs ho => own_ty ho hg, fun e => ?_⟩
              obtain ⟨ys, hy⟩ := zz_ty (HP.out.G HG.out) (HQ.out.G HG.out) e
              obtain ⟨xs, ho, _⟩ := (HQ.out.G HG.out).o
              exact own_ne ho hy (by decide) hg
          clear HPU HRP HRQ HRW HAP HNB hc7 hz7
          generalize w7.setCell ⟨bb, 2, none⟩ (.slice (some ⟨g7, 0, none⟩) (m + 2) c7) = w8 at H1 HB8 HC68 HCB8 HW8 ⊢
          generalize wr = wg at *
          go_loopw [9, 10] (fun c _ W => ∃ i : Nat, i ≤ 2 ∧ c = .int .i64 ((m : Int) + (i : Int)) ∧ B1 w8 W (rB bb (.slice la (n + (np + nq)) lc) (.slice ma (n + (np + nq)) mc) (.slice (some ⟨g7, 0, none⟩) (m + 2) c7) (.slice va2 m vc2)) bb (n + (np + nq)) m 2 i (.slice la (n + (np + nq)) lc) (.slice ma (n + (np + nq)) mc) (.slice (some ⟨g7, 0, none⟩) (m + 2) c7) (.slice va2 m vc2) X1 Y1 (jn U (q2 (.slice pa np pc) (.slice qa nq qc)) m) V (q2 (.slice pa np pc) (.slice qa nq qc)) (n2 np nq)) (fun c _ _ => m + 2 - (RowKit.intOf c).toNat)
          case atStart => exact ⟨0, by omega, by simp, H1.out⟩
          case round =>
            obtain ⟨i, hi, rfl, hb1⟩ := hrel
            have HB1 := hide hb1
            clear hb1 H1
            generalize wr = wr9 at *
            have hcb := HB1.out.b.blk.cell
            by_cases hil : i < 2
            · have hiI : (m : Int) + (i : Int) < (m : Int) + 2 := by omega
              obtain ⟨gu, cu, eu, hcu⟩ := HB1.out.b.u.cell (i := m + i) (by omega)
              cases eu
              have hzi : (jn U (q2 (.slice pa np pc) (.slice qa nq qc)) m) (m + i) = (q2 (.slice pa np pc) (.slice qa nq qc)) i := by unfold jn; rw [if_neg (by omega), Nat.add_sub_cancel_left]
              rw [hzi] at hcu
              obtain ⟨xs0, ho0, _⟩ := HB1.out.o i hil
              obtain ⟨za, zc, ez⟩ : ∃ a c, (q2 (.slice pa np pc) (.slice qa nq qc)) i = .slice a ((n2 np nq) i) c := by
                rcases ho0.2 with ⟨e1, e2⟩ | ⟨g, c, _, e1, _⟩
                · exact ⟨none, 0, by rw [e1, e2]⟩
                · exact ⟨_, _, e1⟩
              have HEZ := hide ez
              rw [ez] at hcu
              have HCU := hide hcu
              have HO0 := hide ho0
              have HUT : Hid (TyB wr9 g7 88) := own_ty HB1.out.b.u rfl
              have hwI : IntKind.i64.wrap (-1 - ((m : Int) + (i : Int))) = -1 - ((m : Int) + (i : Int)) := by rw [IntKind.wrap_i64]; omega
              have hlnI : ((n2 np nq) i : Int) ≤ 549755813888 := by have := HQL.out i; omega
              go_wp2_with fail
              clear hcb hcu
              go_loopw [10] (fun c W => ∃ j : Nat, j ≤ (n2 np nq) i ∧ c = .int .i64 j ∧ Chg (fun b => ((q2 (.slice pa np pc) (.slice qa nq qc)) i).ownBlock = some b) wr9 W ∧ ∃ xs, W.ownsRow 0 96 2 ((q2 (.slice pa np pc) (.slice qa nq qc)) i) ((n2 np nq) i) xs ∧ AtL xs j (-1 - ((m : Int) + (i : Int)))) (fun c _ => (n2 np nq) i - (RowKit.intOf c).toNat)
              case atStart => exact ⟨0, by omega, rfl, Chg.refl _ _, xs0, HO0.out, fun t ht => by omega⟩
              case round =>
                obtain ⟨j, hj, rfl, hch, xs, hox, hxs⟩ := hrel
                have HCH := hide hch
                have HOX := hide hox
                have HXS := hide hxs
                have hcu := cell_chg HCU.out hch (fun e => tyB_ne (own_ty HO0.out e) HUT.out (by decide) rfl)
                have hcb := (HB1.out.b.blk.chg hch (fun e => own_ne HO0.out HB1.out.b.blk (by decide) e)).cell
                clear hch hox hxs
                by_cases hjl : j < (n2 np nq) i
                · have hjI : (j : Int) < ((n2 np nq) i : Int) := by omega
                  have ho3 := HOX.out
                  rw [HEZ.out] at ho3
                  obtain ⟨g, cap, eg⟩ := own_block ho3 (by omega)
                  cases eg
                  have HTH := hide (own_there ho3 hjl)
                  have HOS := hide (own_sets (y := .slice none 0 0) ho3 hjl HXS.out)
                  clear ho3
                  go_wp2_with (first | refine wpList_store_mid rfl 96 _ _ rfl g (j * 2) #[I (-1 - ((m : Int) + (i : Int))), .slice none 0 0] rfl rfl HTH.out size_sw (all_sw _) ?_ | fail)
                  clear hcu hcb
                  go_wp2
                  go_roundw
                  case rel =>
                    refine ⟨j + 1, by omega, by go_num, HCH.out.trans (chg_setCells _ _ (.inl (by rw [HEZ.out]; rfl))), ?_⟩
                    rw [HEZ.out]
                    exact HOS.out
                  case measure => simp [RowKit.intOf]; omega
                · obtain rfl : j = (n2 np nq) i := by omega
                  have HN1 : Hid (B1 w8 wr (rB bb (.slice la (n + (np + nq)) lc) (.slice ma (n + (np + nq)) mc) (.slice (some ⟨g7, 0, none⟩) (m + 2) c7) (.slice va2 m vc2)) bb (n + (np + nq)) m 2 (i + 1) (.slice la (n + (np + nq)) lc) (.slice ma (n + (np + nq)) mc) (.slice (some ⟨g7, 0, none⟩) (m + 2) c7) (.slice va2 m vc2) X1 Y1 (jn U (q2 (.slice pa np pc) (.slice qa nq qc)) m) V (q2 (.slice pa np pc) (.slice qa nq qc)) (n2 np nq)) := by
                    refine ⟨HB1.out.b.chg HCH.out (fun x hx e => HB1.out.b.ty (own_ty HO0.out e) (by decide) (by decide) (by decide) hx), fun t ht => ?_, HB1.out.c.trans (HCH.out.mono (fun x hx => ⟨i, hil, hx⟩))⟩
                    by_cases hti : t = i
                    · subst hti
                      exact ⟨xs, HOX.out, fun _ => HXS.out⟩
                    · obtain ⟨ys, hy1, hy2⟩ := HB1.out.o t ht
                      exact ⟨ys, own_chg hy1 HCH.out (fun x hx e => (HQD.out t ht x hx).2.2 i hil (fun e2 => hti e2.symm) e), fun h9 => hy2 (by omega)⟩
                  go_wp2
                  go_roundw
                  case rel => exact ⟨i + 1, by omega, by go_num, HN1.out⟩
                  case measure => simp [RowKit.intOf]; omega
            · have hiN : ¬ ((m : Int) + (i : Int) < (m : Int) + 2) := by omega
              have H2 : Hid (B2 w8 wr9 (rB bb (.slice la (n + (np + nq)) lc) (.slice ma (n + (np + nq)) mc) (.slice (some ⟨g7, 0, none⟩) (m + 2) c7) (.slice va2 m vc2)) bb (n + (np + nq)) m 2 0 (.slice la (n + (np + nq)) lc) (.slice ma (n + (np + nq)) mc) (.slice (some ⟨g7, 0, none⟩) (m + 2) c7) (.slice va2 m vc2) X1 Y1 (jn U (q2 (.slice pa np pc) (.slice qa nq qc)) m) V (q2 (.slice pa np pc) (.slice qa nq qc)) (n2 np nq)) := ⟨HB1.out.b.mono (fun j hj => .inl hj), fun t _ ht => (HB1.out.o t ht).elim fun xs h => ⟨xs, h.1, h.2 (by omega)⟩, fun t ht => absurd ht (Nat.not_lt_zero _), HB1.out.c.mono (fun j hj => .inr hj)⟩
              go_wp2_with fail
              clear hcb HB1
              go_loopw [11, 12, 13] (fun c _ _ W => ∃ t : Nat, t ≤ 2 ∧ c = .int .i64 ((m : Int) + (t : Int)) ∧ ∃ vv2 V2, (∀ s, s < m → V2 s = V s) ∧ B2 w8 W (rB bb (.slice la (n + (np + nq)) lc) (.slice ma (n + (np + nq)) mc) (.slice (some ⟨g7, 0, none⟩) (m + 2) c7) (.slice va2 m vc2)) bb (n + (np + nq)) m 2 t (.slice la (n + (np + nq)) lc) (.slice ma (n + (np + nq)) mc) (.slice (some ⟨g7, 0, none⟩) (m + 2) c7) vv2 X1 Y1 (jn U (q2 (.slice pa np pc) (.slice qa nq qc)) m) V2 (q2 (.slice pa np pc) (.slice qa nq qc)) (n2 np nq)) (fun c _ _ _ => m + 2 - (RowKit.intOf c).toNat)
              case atStart => exact ⟨0, by omega, by simp, _, V, fun s _ => rfl, H2.out⟩
              case round =>
                obtain ⟨t, ht, rfl, vv2, V2, hV2, hbb⟩ := hrel
                obtain ⟨va3, vc3, ev3⟩ := hbb.b.v.slice
                subst ev3
                have HBB := hide hbb
                have HV2 := hide hV2
                clear hbb hV2 H2
                generalize wr = wo at *
                have hcb := HBB.out.b.blk.cell
                by_cases htl : t < 2
                · have htI : (m : Int) + (t : Int) < (m : Int) + 2 := by omega
                  obtain ⟨gu, cu, eu, hcu⟩ := HBB.out.b.u.cell (i := m + t) (by omega)
                  cases eu
                  have hzi : (jn U (q2 (.slice pa np pc) (.slice qa nq qc)) m) (m + t) = (q2 (.slice pa np pc) (.slice qa nq qc)) t := by unfold jn; rw [if_neg (by omega), Nat.add_sub_cancel_left]
                  rw [hzi] at hcu
                  obtain ⟨xs0, ho0, hat0⟩ := HBB.out.o t (Nat.le_refl _) htl
                  obtain ⟨za, zc, ez, hzg⟩ : ∃ a c, (q2 (.slice pa np pc) (.slice qa nq qc)) t = .slice a ((n2 np nq) t) c ∧ ((n2 np nq) t = 0 ∨ ∃ g, a = some ⟨g, 0, none⟩) := by
                    rcases ho0.2 with ⟨e1, e2⟩ | ⟨g, c, _, e1, _⟩
                    · exact ⟨none, 0, by rw [e1, e2], .inl e2⟩
                    · exact ⟨_, _, e1, .inr ⟨g, rfl⟩⟩
                  have HEZ := hide ez
                  have HO0 := hide ho0
                  rw [ez] at hcu
                  have hwI : IntKind.i64.wrap (-1 - ((m : Int) + (t : Int))) = -1 - ((m : Int) + (t : Int)) := by rw [IntKind.wrap_i64]; omega
                  have hlnI : ((n2 np nq) t : Int) ≤ 549755813888 := by have := HQL.out t; omega
                  have H3 : Hid (A4 wo wo 0 (.slice za ((n2 np nq) t) zc) ((q2 (.slice pa np pc) (.slice qa nq qc)) t) ((n2 np nq) t) (-1 - ((m : Int) + (t : Int)))) := ⟨⟨xs0, by rw [← ez]; exact ho0, hat0⟩, own_preW ho0 hat0 (Nat.le_refl _) ⟨zc, za, ez, hzg.imp id (fun ⟨g, h⟩ => ⟨g, h, by rw [ez, h]; rfl⟩)⟩, fun x hx => own_ty ho0 (blk_own hx), .inl (by rw [ez]), Chg.refl _ _⟩
                  go_wp2_with fail
                  clear hcb hcu ho0
                  go_loopw [12, 13] (fun x c W => ∃ j : Nat, j ≤ 64 ∧ c = .int .i64 j ∧ A4 wo W j x ((q2 (.slice pa np pc) (.slice qa nq qc)) t) ((n2 np nq) t) (-1 - ((m : Int) + (t : Int)))) (fun _ c _ => 64 - (RowKit.intOf c).toNat)
                  case atStart => exact ⟨0, by omega, rfl, H3.out⟩
                  case round =>
                    obtain ⟨j, hj, rfl, ha4⟩ := hrel
                    have HA4 := hide ha4
                    obtain ⟨xs, hxo, hxa⟩ := ha4.o
                    clear ha4 H3
                    by_cases hjl : j < 64
                    · have hjI : (j : Int) < 64 := by omega
                      obtain ⟨i0, hi0, hz0, hz1, hz2⟩ := info_sw
                      obtain ⟨v8, w9, hrun, hrow8, hap8⟩ := app_stay (P := Try.prog) (wr.alloc (.cells #[I (-1 - ((m : Int) + (t : Int))), .slice none 0 0] 96)) 0 88 88 96 i0 _ 2 32 Try.underlying88 hi0 hz0 hz1 hz2 rfl (by decide) u12 ((n2 np nq) t + j) xs (own_G hxo ((G.refl _).alloc _)) ⟨wr.heap.size, 0, none⟩ 1 [I (-1 - ((m : Int) + (t : Int))), .slice none 0 0] rfl (fun j u hj => by rw [Addr.add_mid, Nat.zero_add, (Blk.new wr [I (-1 - ((m : Int) + (t : Int))), .slice none 0 0] 96).cell]; exact hj) (fun u hu => by simp at hu; rcases hu with rfl | rfl <;> rfl) (by unfold maxLen; omega) (by omega) (Nat.zero_le _)
                      have HRUN := hide hrun
                      have HA5 : Hid (A4 wo w9 (j + 1) v8 ((q2 (.slice pa np pc) (.slice qa nq qc)) t) ((n2 np nq) t) (-1 - ((m : Int) + (t : Int)))) := HA4.out.step ((G.refl _).alloc _) hxa hxo.1 hrow8 hap8 (fun x hx => own_lt HO0.out hx) ⟨zc, za, HEZ.out, hzg⟩
                      clear hrun hrow8 hap8 hi0 hz0 hz1 hz2 hxo hxa
                      go_wp2_with (first | (at_builtin; refine wpList_append_run rfl _ _ 88 rfl u12 (.slice (some ⟨wr.heap.size, 0, none⟩) 1 1) rfl rfl HRUN.out ?_) | fail)
                      clear HRUN
                      go_wp2
                      go_roundw
                      case rel => exact ⟨j + 1, by omega, by go_num, HA5.out⟩
                      case measure => simp [RowKit.intOf]; omega
                    · obtain rfl : j = 64 := by omega
                      obtain ⟨xa, xc, ex⟩ : ∃ a c, u12 = .slice a ((n2 np nq) t + 64) c := by
                        obtain ⟨g, c, e⟩ := own_block hxo (by omega)
                        exact ⟨_, _, e⟩
                      subst ex
                      have HXO := hide hxo
                      have HXA := hide hxa
                      clear hxo hxa
                      have HTZ : Hid (∀ x, ((q2 (.slice pa np pc) (.slice qa nq qc)) t).ownBlock = some x → x < w8.heap.size ∧ TyB wo x 96) := fun x hx => ⟨Nat.lt_of_lt_of_le (HQD.out t htl x hx).2.1 HW8.out, own_ty HO0.out hx⟩
                      have HB4 := hide (HBB.out.b.chg HA4.out.c (fun x hx e => HBB.out.b.ty (HTZ.out x e).2 (by decide) (by decide) (by decide) hx))
                      have HS4 : Hid (w8.heap.size ≤ wr.heap.size) := Nat.le_trans HBB.out.c.size HA4.out.c.size
                      have hcb := HB4.out.blk.cell
                      generalize wr = w4 at *
                      obtain ⟨i0, hi0, hz0, hz1, hz2⟩ := info_sws
                      have HG9 : Hid (G w4 (w4.alloc (.cells #[.slice xa ((n2 np nq) t + 64) xc] 88))) := (G.refl w4).alloc _
                      obtain ⟨v7, w7, hrun, hrow7, hap7⟩ := app_stay (P := Try.prog) (w4.alloc (.cells #[.slice xa ((n2 np nq) t + 64) xc] 88)) 0 59 59 88 i0 _ 1 24 Try.underlying59 hi0 hz0 hz1 hz2 rfl (by decide) (.slice va3 (m + t) vc3) (m + t) ((List.range (m + t)).map V2) (HB4.out.G HG9.out).v ⟨w4.heap.size, 0, none⟩ 1 [(.slice xa ((n2 np nq) t + 64) xc)] rfl (cell_one_new w4 (.slice xa ((n2 np nq) t + 64) xc) 88) (fun u hu => by simp at hu; subst hu; rfl) (by unfold maxLen; omega) (by omega) (Nat.zero_le _)
                      obtain ⟨g9, c9, rfl⟩ := own_block hrow7 (by omega)
                      have HRUN := hide hrun
                      have HAP : Hid (Ap (w4.alloc (.cells #[.slice xa ((n2 np nq) t + 64) xc] 88)) w7 (.slice va3 (m + t) vc3) (.slice (some ⟨g9, 0, none⟩) (m + t + 1) c9)) := ⟨hap7⟩
                      have HRW := hide hrow7
                      clear hap7 hrow7 hi0 hz0 hz1 hz2 hrun
                      have HNB : Hid (¬ (((.slice va3 (m + t) vc3) : Value).ownBlock = some bb)) := row_bb (HB4.out.G HG9.out).v (HB4.out.G HG9.out).blk (by decide)
                      have hc7 := ((HB4.out.blk.G HG9.out).chg HAP.out.chg HNB.out).cell
                      have hz7 := ((HB4.out.blk.G HG9.out).chg HAP.out.chg HNB.out).frozen
                      go_wp2_with (first | (at_builtin; refine wpList_append_run rfl _ _ 59 rfl (.slice va3 (m + t) vc3) (.slice (some ⟨w4.heap.size, 0, none⟩) 1 1) rfl rfl HRUN.out ?_) | fail)
                      clear hcb
                      have HPU := hide ((HB4.out.G HG9.out).pushV HRW.out HAP.out (fun x hx => .inr (by have := HS4.out; have := HG9.out.size; omega)))
                      have HKP : Hid (∀ x, TyB w4 x 96 → ¬ rB bb (.slice la (n + (np + nq)) lc) (.slice ma (n + (np + nq)) mc) (.slice (some ⟨g7, 0, none⟩) (m + 2) c7) (.slice va3 (m + t) vc3) x) := fun x hx => HB4.out.ty hx (by decide) (by decide) (by decide)
                      have HNW : Hid (B2 w8 (w7.setCell ⟨bb, 3, none⟩ (.slice (some ⟨g9, 0, none⟩) (m + t + 1) c9)) (rB bb (.slice la (n + (np + nq)) lc) (.slice ma (n + (np + nq)) mc) (.slice (some ⟨g7, 0, none⟩) (m + 2) c7) (.slice va2 m vc2)) bb (n + (np + nq)) m 2 (t + 1) (.slice la (n + (np + nq)) lc) (.slice ma (n + (np + nq)) mc) (.slice (some ⟨g7, 0, none⟩) (m + 2) c7) (.slice (some ⟨g9, 0, none⟩) (m + t + 1) c9) X1 Y1 (jn U (q2 (.slice pa np pc) (.slice qa nq qc)) m) (upd V2 (m + t) (.slice xa ((n2 np nq) t + 64) xc)) (q2 (.slice pa np pc) (.slice qa nq qc)) (n2 np nq)) := by
                        have hD : Chg (fun x => rB bb (.slice la (n + (np + nq)) lc) (.slice ma (n + (np + nq)) mc) (.slice (some ⟨g7, 0, none⟩) (m + 2) c7) (.slice va2 m vc2) x ∨ ∃ s, s < 2 ∧ ((q2 (.slice pa np pc) (.slice qa nq qc)) s).ownBlock = some x) w8 w4 := HBB.out.c.trans (HA4.out.c.mono (fun x hx => .inr ⟨t, htl, hx⟩))
                        have s2 := HG9.out.size
                        have s3 := HS4.out
                        have ty8 : ∀ x, TyB w4 x 96 → TyB (w7.setCell ⟨bb, 3, none⟩ (.slice (some ⟨g9, 0, none⟩) (m + t + 1) c9)) x 96 := fun x hx => (hx.chg HG9.out.chg (F := fun _ => False) (fun e => e)).chg HPU.out.2 (HKP.out x hx)
                        have by8 : ∀ v k a, Sws w4 v k a → (∀ x, Value.blk v x → TyB w4 x 96) → Sws (w7.setCell ⟨bb, 3, none⟩ (.slice (some ⟨g9, 0, none⟩) (m + t + 1) c9)) v k a := fun v k a hv hx => (hv.chg HG9.out.chg (F := fun _ => False) (fun _ _ e => e)).chg HPU.out.2 (fun x hb => HKP.out x (hx x hb))
                        refine ⟨HPU.out.1, fun s hs1 hs2 => ?_, fun s hs1 hs2 => ?_, (hD.trans HG9.out.chg).more HPU.out.2 (fun x hx e => (HB4.out.R e).elim .inl (fun e2 => by omega))⟩
                        · obtain ⟨ys, hy, hya⟩ := HBB.out.o s (by omega) hs2
                          have h8 := own_chg hy HA4.out.c (fun x hx e => (HQD.out s hs2 x hx).2.2 t htl (by omega) e)
                          exact ⟨ys, own_chg (own_G h8 HG9.out) HPU.out.2 (fun x hx e => HKP.out x (own_ty h8 hx) e), hya⟩
                        · by_cases hst : s = t
                          · subst hst
                            have hup : ∀ v, upd V2 (m + s) v (m + s) = v := fun v => by unfold upd; rw [if_pos rfl]
                            rw [hup]
                            have hxb : Sws w4 (.slice xa ((n2 np nq) s + 64) xc) ((n2 np nq) s + 64) (-1 - ((m : Int) + (s : Int))) := own_preW HXO.out HXA.out (Nat.le_refl _) (by
                              obtain ⟨g, c, e⟩ := own_block HXO.out (by omega)
                              cases e
                              exact ⟨_, _, rfl, .inr ⟨g, rfl, rfl⟩⟩)
                            have htx : ∀ x, Value.blk (.slice xa ((n2 np nq) s + 64) xc) x → TyB w4 x 96 := fun x hx => own_ty HXO.out (blk_own hx)
                            refine ⟨by8 _ _ _ HA4.out.y HA4.out.t, by8 _ _ _ hxb htx, fun x hx => ?_⟩
                            rcases hx with hx | hx
                            · exact ⟨.inl (blk_own hx), ty8 x (HA4.out.t x hx)⟩
                            · refine ⟨?_, ty8 x (htx x hx)⟩
                              rcases HA4.out.q with q | ⟨g, q, hg⟩
                              · exact .inl (q.symm.trans (blk_own hx))
                              · right
                                have := blk_own hx
                                rw [q] at this
                                cases this
                                exact Nat.le_trans HBB.out.c.size hg
                          · have hup : upd V2 (m + t) (.slice xa ((n2 np nq) t + 64) xc) (m + s) = V2 (m + s) := by unfold upd; rw [if_neg (by omega)]
                            rw [hup]
                            obtain ⟨e1, e2, e3⟩ := HBB.out.e s (by omega) hs2
                            have hne : ∀ x, Value.blk ((q2 (.slice pa np pc) (.slice qa nq qc)) s) x ∨ Value.blk (V2 (m + s)) x → ¬ ((q2 (.slice pa np pc) (.slice qa nq qc)) t).ownBlock = some x := fun x hx e => by
                              rcases (e3 x hx).1 with h | h
                              · exact (HQD.out s hs2 x h).2.2 t htl (fun e9 => hst e9.symm) e
                              · have := (HTZ.out x e).1
                                omega
                            have e4 : ∀ x, Value.blk ((q2 (.slice pa np pc) (.slice qa nq qc)) s) x ∨ Value.blk (V2 (m + s)) x → TyB w4 x 96 := fun x hx => (e3 x hx).2.chg HA4.out.c (hne x hx)
                            exact ⟨by8 _ _ _ (e1.chg HA4.out.c (fun x hx => hne x (.inl hx))) (fun x hx => e4 x (.inl hx)), by8 _ _ _ (e2.chg HA4.out.c (fun x hx => hne x (.inr hx))) (fun x hx => e4 x (.inr hx)), fun x hx => ⟨(e3 x hx).1, ty8 x (e4 x hx)⟩⟩
                      have HVN : Hid (∀ s, s < m → upd V2 (m + t) (.slice xa ((n2 np nq) t + 64) xc) s = V s) := fun s hs => by
                        unfold upd
                        rw [if_neg (by omega)]
                        exact HV2.out s hs
                      generalize w7.setCell ⟨bb, 3, none⟩ (.slice (some ⟨g9, 0, none⟩) (m + t + 1) c9) = w9 at HNW ⊢
                      go_wp2
                      go_roundw
                      case rel => exact ⟨t + 1, by omega, by go_num, _, _, HVN.out, HNW.out⟩
                      case measure => simp [RowKit.intOf]; omega
                · obtain rfl : t = 2 := by omega
                  go_wp2_with fail
                  go_end0
                  exact ⟨rfl, X1, Y1, (jn U (q2 (.slice pa np pc) (.slice qa nq qc)) m), V2, addW_end HG.out HC2.out HB2.out HBH.out HG6.out HC68.out HB8.out HAPO.out HQD.out HQT.out HBB.out HV2.out (by omega) (by omega) (fun j hj => (HPK.out j hj).1) (fun j hj => (HQK.out j hj).1) HQL.out⟩
end Go.Proofs.Ytbjbphhcmmaaoaa
