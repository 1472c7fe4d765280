/- Rows of one's own: a store into one, an append to one (the old block stays). -/
import Derived.Test.YtbjbphhcmmaaoaaOw1
namespace Go.Proofs.Ytbjbphhcmmaaoaa
open Go.RowKit

theorem own_block {W : World} {z e s n : Nat} {v : Value} {xs : List Value} (h : W.ownsRow z e s v n xs) (hn : 0 < n) : ∃ g cap, v = .slice (some ⟨g, 0, none⟩) n cap := by
  rcases h.2 with ⟨_, h0⟩ | ⟨g, cap, cur, rfl, _⟩
  · omega
  · exact ⟨g, cap, rfl⟩
/-- A store into a row of one's own. -/
theorem own_set {W : World} {z e n g cap j : Nat} {xs : List Value} {x : Value} (h : W.ownsRow z e 1 (.slice (some ⟨g, 0, none⟩) n cap) n xs) : (W.setCell ⟨g, j, none⟩ x).ownsRow z e 1 (.slice (some ⟨g, 0, none⟩) n cap) n (xs.set j x) := by
  obtain ⟨hl, h2⟩ := h
  refine ⟨by rw [List.length_set]; exact hl, ?_⟩
  rcases h2 with ⟨h0, _⟩ | ⟨g', cap', cur, hv, hb, hg, hc, hm, hs, ht⟩
  · cases h0
  · cases hv
    refine .inr ⟨g, cap, cur.setIfInBounds j x, rfl, hb, ?_, hc, hm, by simpa using hs, ?_⟩
    · simp [World.setCell, Array.getElem?_modify, hg]
    · rw [Array.toList_setIfInBounds, List.take_set, ht]
theorem own_cellAt {W : World} {z e n g cap j : Nat} {xs : List Value} (h : W.ownsRow z e 1 (.slice (some ⟨g, 0, none⟩) n cap) n xs) (hj : j < n) : ∃ y, W.cell? ⟨g, j, none⟩ = some y ∧ W.frozen? ⟨g, j, none⟩ = false := by
  have hl : xs.length = n := by have := h.1; omega
  have he : xs[j]? = some xs[j] := List.getElem?_eq_getElem (by omega)
  have hc := World.ownsRow.cells h (g := g) rfl j xs[j] he
  rw [Addr.add_mid, Nat.zero_add] at hc
  refine ⟨_, hc, ?_⟩
  rcases h.2 with ⟨h0, _⟩ | ⟨g', cap', cur, hv, hb, hg, _⟩
  · cases h0
  · cases hv
    simp [World.frozen?, hg]
/-- Two rows of one's own that lie in one block are of one kind of element. -/
theorem own_kind {W : World} {z1 z2 e1 e2 s1 s2 n1 n2 g : Nat} {v1 v2 : Value} {xs1 xs2 : List Value} (h1 : W.ownsRow z1 e1 s1 v1 n1 xs1) (h2 : W.ownsRow z2 e2 s2 v2 n2 xs2) (q1 : v1.ownBlock = some g) (q2 : v2.ownBlock = some g) : e1 = e2 := by
  rcases h1.2 with ⟨rfl, _⟩ | ⟨g1, c1, u1, rfl, _, hg1, _⟩
  · cases q1
  · rcases h2.2 with ⟨rfl, _⟩ | ⟨g2, c2, u2, rfl, _, hg2, _⟩
    · cases q2
    · simp [Value.ownBlock] at q1 q2
      subst q1
      subst q2
      rw [hg1] at hg2
      simp at hg2
      exact hg2.2
/-- An append of one element to a row of one's own: in its block, or in a new one, and then the old one stays. -/
theorem app_stay {P : Program} (w : World) (base : Nat) (t ty e : TypeId) (i : TypeInfo) (z : Value) (size bytes : Nat) (ht : P.underlying t = some (.slice e)) (hi : P.info? e = some i) (hz : i.zero = some z)
    (hsize : i.size = size) (hby : i.bytes = bytes) (hzs : z.cells.size = size) (hsz : 0 < size)
    (v : Value) (n : Nat) (xs : List Value) (hown : w.ownsRow base e size v n xs)
    (a : Addr) (c : Nat) (news : List Value) (hl : news.length = 1 * size) (hnews : ∀ j u, news[j]? = some u → w.cell? (a.add j) = some u) (h1 : ∀ u ∈ news, u.oneCell' = true)
    (h63 : n + 1 ≤ maxLen) (hbytes : (n + 1) * bytes ≤ 140737488355328) (hbase : base ≤ w.heap.size) :
    ∃ v' w', (Builtin.append_ #[t, t] ty #[v, .slice (some a) 1 c]).run P w = .ok v' w' ∧ w'.ownsRow base e size v' (n + 1) (xs ++ news) ∧
      ((v'.ownBlock = v.ownBlock ∧ v'.ownBlock ≠ none ∧ Chg (fun k => v.ownBlock = some k) w w') ∨ (v'.ownBlock = some w.heap.size ∧ G w w')) := by
  obtain ⟨v', w', hr, q2, q3, _, q5⟩ := run_append_own_at (P := P) w base t ty e i z size bytes ht hi hz hsize hby hzs hsz v n xs hown a 1 c news hl hnews h1 h63 hbytes hbase
  have hne : v'.ownBlock ≠ none := by
    obtain ⟨g, cap, rfl⟩ := own_block q2 (by omega)
    simp [Value.ownBlock]
  have hch : Chg (fun k => v.ownBlock = some k) w w' := ⟨q3.os, q3.tape, q3.output, q3.size, fun k hk hn => q3.block k hk (fun e => hn e.symm)⟩
  refine ⟨v', w', hr, q2, ?_⟩
  rcases q5 with q5 | q5
  · exact .inl ⟨q5, hne, hch⟩
  · rcases hown.2 with ⟨rfl, rfl⟩ | ⟨g, cap, cur, rfl, hbg, hg, hnc, hcm, hcs, htake⟩
    · exact .inr ⟨q5, hch.G (fun k hk => by simp [Value.ownBlock] at hk)⟩
    · by_cases hroom : n + 1 ≤ cap
      · have hfit : n * i.size + news.length ≤ cur.size := by rw [hl, hcs, hsize, ← Nat.add_mul]; exact Nat.mul_le_mul_right _ hroom
        have hr2 := run_append_room (P := P) w t ty e i ht hi g n cap cur hg a 1 c news (by rw [hsize]; exact hl) hnews h1 hroom hfit
        rw [hr] at hr2
        simp only [Result.ok.injEq] at hr2
        exact .inl ⟨by rw [hr2.1]; rfl, hne, hch⟩
      · have holds : ∀ j u, xs[j]? = some u → w.cell? ((⟨g, 0, none⟩ : Addr).add j) = some u := World.ownsRow.cells hown (g := g) rfl
        have hr2 := run_append_grow (P := P) w t ty e i z ht hi hz ⟨g, 0, none⟩ n cap xs (by rw [hsize]; exact hown.1) holds a 1 c news (by rw [hsize]; exact hl) hnews (by omega) (by unfold maxLen at h63; omega) (growslice_fits (by omega) (by rw [hby]; exact hbytes))
        rw [hr] at hr2
        simp only [Result.ok.injEq] at hr2
        refine .inr ⟨q5, ?_⟩
        rw [hr2.2]
        exact ((G.refl w).drew).alloc _
end Go.Proofs.Ytbjbphhcmmaaoaa
