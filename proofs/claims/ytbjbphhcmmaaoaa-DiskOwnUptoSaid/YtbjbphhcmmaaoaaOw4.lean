/- add: lists join the book. -/
import Derived.Test.YtbjbphhcmmaaoaaOw3
namespace Go.Proofs.Ytbjbphhcmmaaoaa
open Go.RowKit

/-- Lists that are to join: each a row of its own, apart from the book and from each other. -/
structure NL (W : World) (K R : Nat → Prop) (z ab k : Nat) (Z : Nat → Value) (ln : Nat → Nat) : Prop where
  o : ∀ t, t < k → ∃ xs, W.ownsRow z 5 1 (Z t) (ln t) xs
  a : ∀ t, t < k → ∀ g, (Z t).ownBlock = some g → ¬ K g ∧ ¬ R g ∧ g ≠ ab ∧ g < W.heap.size ∧ ∀ s, s < k → s ≠ t → (Z s).ownBlock ≠ some g
  l : ∀ t, t < k → ln t ≤ 1073741824
/-- Under way, with i of them marked and in Lists. -/
structure A1 (w W : World) (R : Nat → Prop) (z bb n m k i : Nat) (lv mv uv vv : Value) (X Y U V Z : Nat → Value) (ln : Nat → Nat) : Prop where
  b : BH W (fun j => R j ∨ w.heap.size ≤ j) z bb (n + i) n m m lv mv uv vv X Y U V
  o : ∀ t, t < k → ∃ xs, W.ownsRow z 5 1 (Z t) (ln t) xs ∧ (t < i → xs = List.replicate (ln t) (bv (mkN (n + t))))
  c : Chg (fun j => R j ∨ ∃ t, t < k ∧ (Z t).ownBlock = some j) w W
/-- Under way, with i of them grown and in More. -/
structure A2 (w W : World) (R : Nat → Prop) (z bb n m k i : Nat) (lv mv uv vv : Value) (X Y U V Z : Nat → Value) (ln : Nat → Nat) : Prop where
  b : BH W (fun j => R j ∨ w.heap.size ≤ j) z bb (n + k) (n + i) m m lv mv uv vv X Y U V
  o : ∀ t, i ≤ t → t < k → W.ownsRow z 5 1 (Z t) (ln t) (List.replicate (ln t) (bv (mkN (n + t))))
  e : ∀ t, t < i → t < k → Bytes W (Z t) (List.replicate (ln t) (mkN (n + t))) ∧ Bytes W (Y (n + t)) (List.replicate (ln t + 64) (mkN (n + t))) ∧ ∀ j, Value.blk (Z t) j ∨ Value.blk (Y (n + t)) j → ((Z t).ownBlock = some j ∨ w.heap.size ≤ j) ∧ TyB W j 5
  c : Chg (fun j => R j ∨ ∃ t, t < k ∧ (Z t).ownBlock = some j) w W
/-- A list while it grows: c have come; the list itself stays. -/
structure A3 (w W0 W : World) (z n i c : Nat) (x zi : Value) (ln m : Nat) : Prop where
  o : W.ownsRow z 5 1 x (ln + c) (List.replicate (ln + c) (bv m))
  y : Bytes W zi (List.replicate ln m)
  t : ∀ j, Value.blk zi j → TyB W j 5
  q : x.ownBlock = zi.ownBlock ∨ ∃ g, x.ownBlock = some g ∧ W0.heap.size ≤ g
  c : Chg (fun b => zi.ownBlock = some b) W0 W
theorem own_ty {W : World} {z e s n g : Nat} {v : Value} {xs : List Value} (h : W.ownsRow z e s v n xs) (hg : v.ownBlock = some g) : TyB W g e := by
  rcases h.2 with ⟨rfl, _⟩ | ⟨g', c, u, rfl, _, hh, _⟩
  · cases hg
  · simp [Value.ownBlock] at hg
    subst hg
    exact ⟨u, _, hh⟩
theorem blk_own {v : Value} {j : Nat} (h : Value.blk v j) : v.ownBlock = some j := by
  obtain ⟨a, n, c, rfl, _, rfl⟩ := h
  rfl
/-- The first cells of a row of one's own, as bytes. -/
theorem own_pre {W : World} {z n a m : Nat} {x v : Value} (h : W.ownsRow z 5 1 x n (List.replicate n (bv m))) (ha : a ≤ n) (hv : ∃ cap p, v = .slice p a cap ∧ a ≤ cap ∧ (a = 0 ∨ ∃ g, p = some ⟨g, 0, none⟩ ∧ x.ownBlock = some g)) : Bytes W v (List.replicate a m) := by
  obtain ⟨cap, p, rfl, hc, hp⟩ := hv
  refine ⟨p, cap, by rw [List.length_replicate], by rw [List.length_replicate]; exact hc, ?_⟩
  by_cases h0 : a = 0
  · left; rw [h0]; rfl
  · obtain ⟨g, rfl, hg⟩ := hp.resolve_left h0
    refine .inr ⟨g, 0, rfl, fun j y hy => ?_⟩
    have hj : j < a := by have := (List.getElem?_eq_some_iff.1 hy).1; simpa using this
    rw [List.getElem?_replicate, if_pos hj] at hy
    cases hy
    obtain ⟨g', c', rfl⟩ := own_block h (by omega)
    simp [Value.ownBlock] at hg
    subst hg
    exact World.ownsRow.cells h (g := g') rfl j (bv m) (by rw [List.getElem?_replicate, if_pos (by omega)])
theorem A3.step {w W0 W W1 W2 : World} {z n i c ln m : Nat} {x x' zi : Value} (h : A3 w W0 W z n i c x zi ln m) (g : G W W1) (hl : W2.ownsRow z 5 1 x' (ln + c + 1) (List.replicate (ln + c) (bv m) ++ [bv m]))
    (ha : (x'.ownBlock = x.ownBlock ∧ x'.ownBlock ≠ none ∧ Chg (fun k => x.ownBlock = some k) W1 W2) ∨ (x'.ownBlock = some W1.heap.size ∧ G W1 W2)) (hzlt : ∀ j, zi.ownBlock = some j → j < W0.heap.size) (hzi : ∃ cap p, zi = .slice p ln cap ∧ ln ≤ cap ∧ (ln = 0 ∨ ∃ g, p = some ⟨g, 0, none⟩)) : A3 w W0 W2 z n i (c + 1) x' zi ln m := by
  have s1 := h.c.size
  have s2 := g.size
  have hrow : W2.ownsRow z 5 1 x' (ln + c + 1) (List.replicate (ln + c + 1) (bv m)) := by rw [List.replicate_succ']; exact hl
  rcases ha with ⟨a1, a2, a3⟩ | ⟨a1, a2⟩
  · rcases h.q with q | ⟨g0, q, hg0⟩
    · have hsame : x'.ownBlock = zi.ownBlock := a1.trans q
      obtain ⟨cap, p, rfl, hc, hp⟩ := hzi
      refine ⟨hrow, own_pre hrow (by omega) ⟨cap, p, rfl, hc, hp.imp id (fun ⟨g1, e⟩ => ⟨g1, e, by rw [hsame, e]; rfl⟩)⟩, fun j hj => own_ty hrow (hsame.trans (blk_own hj)), .inl hsame, ?_⟩
      exact (h.c.trans g.chg).trans (a3.mono (fun k hk => by rw [← q]; exact hk))
    · have hn : ∀ j, Value.blk zi j → ¬ x.ownBlock = some j := fun j hj e => by
        have h7 := hzlt j (blk_own hj)
        rw [q] at e
        cases e
        omega
      refine ⟨hrow, (h.y.G g).chg a3 hn, fun j hj => ((h.t j hj).chg g.chg (F := fun _ => False) (fun e => e)).chg a3 (hn j hj), .inr ⟨g0, a1.trans q, hg0⟩, ?_⟩
      exact (h.c.trans g.chg).more a3 (fun j hj e => by rw [q] at e; cases e; omega)
  · exact ⟨hrow, (h.y.G g).G a2, fun j hj => ((h.t j hj).chg g.chg (F := fun _ => False) (fun e => e)).chg a2.chg (F := fun _ => False) (fun e => e), .inr ⟨_, a1, by omega⟩, (h.c.trans g.chg).trans a2.chg⟩
/-- The book's lists with the new ones behind them. -/
def jn (X Z : Nat → Value) (n t : Nat) : Value := if t < n then X t else Z (t - n)
theorem jn_upd (X Z : Nat → Value) (n i : Nat) : upd (jn X Z n) (n + i) (Z i) = jn X Z n := by
  funext t
  unfold upd jn
  by_cases h : t = n + i
  · rw [if_pos h, h, if_neg (by omega), Nat.add_sub_cancel_left]
  · rw [if_neg h]
theorem bv_rep {xs : List Value} {n m : Nat} (hl : xs.length = n) (h : ∀ t, t < n → xs[t]? = some (bv m)) : xs = List.replicate n (bv m) := by
  refine List.ext_getElem? fun t => ?_
  rw [List.getElem?_replicate]
  by_cases ht : t < n
  · rw [if_pos ht, h t ht]
  · rw [if_neg ht, List.getElem?_eq_none (by omega)]
set_option maxRecDepth 100000 in
set_option maxHeartbeats 8000000 in
theorem add_any (K R : Nat → Prop) (z bb n m k ab ao ac : Nat) (aa : Option Addr) (lv0 mv uv vv : Value) (X Y U V Z : Nat → Value) (ln : Nat → Nat) (hn : n + k ≤ 1152921504606846976) (hn2 : n + k ≤ 5864062014805) (w : World) (hb : BH w R z bb n n m m lv0 mv uv vv X Y U V) (hZ : NL w K R z ab k Z ln) (hA : ∀ t, t < k → w.cell? ⟨ab, ao + t, none⟩ = some (Z t)) (haa : 0 < k → aa = some ⟨ab, ao, none⟩ ∧ ¬ R ab ∧ ab < w.heap.size) (hzs : z ≤ w.heap.size) (hbb : ∀ j, R j → j < w.heap.size) : Calls Try.prog 36 #[.pointer (some ⟨bb, 0, none⟩), .slice aa k ac] w fun e w' => e = .returned (.tuple #[]) ∧ ∃ lv mv2 Y2, (∀ s, s < n → Y2 s = Y s) ∧ A2 w w' R z bb n m k k lv mv2 uv vv (jn X Z n) Y2 U V Z ln := by
  have HB0 : Hid (A1 w w R z bb n m k 0 lv0 mv uv vv (jn X Z n) Y U V Z ln) := by
    have hl : RowN w z 28 lv0 n (jn X Z n) := by
      have e : (List.range n).map (jn X Z n) = (List.range n).map X := List.map_congr_left fun i hi => by
        unfold jn
        rw [if_pos (List.mem_range.1 hi)]
      unfold RowN
      rw [e]
      exact hb.l
    exact ⟨BH.mono ⟨hb.blk, hl, hb.m, hb.u, hb.v, hb.r, hb.d1, hb.d2, hb.b⟩ (fun j hj => .inl hj), fun t ht => (hZ.o t ht).elim fun xs h => ⟨xs, h, fun h0 => absurd h0 (Nat.not_lt_zero _)⟩, Chg.refl _ _⟩
  have HZ := hide hZ
  have HA := hide hA
  have HBB := hide hbb
  have HZS := hide hzs
  have HAA := hide haa
  clear haa
  obtain ⟨ma, mc, emv⟩ := hb.m.slice
  obtain ⟨ua, uc, euv⟩ := hb.u.slice
  obtain ⟨va, vc, evv⟩ := hb.v.slice
  subst emv euv evv
  clear hb hZ hA hbb
  go_enter Try.func36, Try.ntmps36
  go_wp2_with fail
  go_loopw [4, 5, 6] (fun c _ _ W => ∃ i : Nat, i ≤ k ∧ c = .int .i64 i ∧ ∃ lv, A1 w W R z bb n m k i lv (.slice ma n mc) (.slice ua m uc) (.slice va m vc) (jn X Z n) Y U V Z ln) (fun c _ _ _ => k - (RowKit.intOf c).toNat)
  case atStart => exact ⟨0, by omega, rfl, lv0, HB0.out⟩
  case round =>
    obtain ⟨i, hi, rfl, lv, ha1⟩ := hrel
    obtain ⟨la, lc, elv⟩ := ha1.b.l.slice
    subst elv
    have H1 := hide ha1
    clear ha1 HB0
    by_cases hlt : i < k
    · have hiI : (i : Int) < (k : Int) := by omega
      obtain ⟨eaa, hab, habl⟩ := HAA.out (by omega)
      subst eaa
      have HABL := hide habl
      clear habl HAA
      have hcb := H1.out.b.blk.cell
      have hca : wr.cell? ⟨ab, ao + i, none⟩ = some (Z i) := cell_chg (HA.out i hlt) H1.out.c (fun e => e.elim hab (fun ⟨t, ht, hg⟩ => (HZ.out.a t ht ab hg).2.2.1 rfl))
      obtain ⟨xs0, ho0, _⟩ := H1.out.o i hlt
      obtain ⟨za, zc, ez⟩ : ∃ a c, Z i = .slice a (ln i) c := by
        rcases ho0.2 with ⟨e1, e2⟩ | ⟨g, c, _, e1, _⟩
        · exact ⟨none, 0, by rw [e1, e2]⟩
        · exact ⟨_, _, e1⟩
      have HEZ := hide ez
      rw [ez] at hca
      have HCA := hide hca
      have hlnI : (ln i : Int) ≤ 1073741824 := by have := HZ.out.l i hlt; omega
      go_wp2_with fail
      refine (mark_any (n + i) (by omega) _).mono ?_
      rintro e' w2 ⟨rfl, rfl⟩
      clear hcb
      go_wp2_with fail
      go_loopw [6] (fun c W => ∃ j : Nat, j ≤ ln i ∧ c = .int .i64 j ∧ Chg (fun b => (Z i).ownBlock = some b) w2 W ∧ ∃ xs, W.ownsRow z 5 1 (Z i) (ln i) xs ∧ ∀ t, t < j → xs[t]? = some (bv (mkN (n + i)))) (fun c _ => ln i - (RowKit.intOf c).toNat)
      case atStart => exact ⟨0, by omega, rfl, Chg.refl _ _, xs0, ho0, fun t ht => by omega⟩
      case round =>
        obtain ⟨j, hj, rfl, hch, xs, hox, hxs⟩ := hrel
        have HCH := hide hch
        have HOX := hide hox
        have HXS := hide hxs
        have hca2 := cell_chg HCA.out hch (fun e => (HZ.out.a i hlt ab e).2.2.1 rfl)
        clear hch hox hxs hca ho0
        by_cases hjl : j < ln i
        · have hjI : (j : Int) < (ln i : Int) := by omega
          have ho3 := HOX.out
          rw [HEZ.out] at ho3
          obtain ⟨g, cap, eg⟩ := own_block ho3 (by omega)
          cases eg
          obtain ⟨y, hy1, hy2⟩ := own_cellAt ho3 hjl
          have HOS := hide (own_set (x := bv (mkN (n + i))) (j := j) ho3)
          clear ho3
          go_wp2
          go_roundw
          case rel =>
            refine ⟨j + 1, by omega, by go_num, HCH.out.trans (chg_setCell _ _ (.inl (by rw [HEZ.out]; rfl))), xs.set j (bv (mkN (n + i))), by rw [HEZ.out]; exact HOS.out, fun t ht => ?_⟩
            have hxl : xs.length = ln i := by have := HOX.out.1; omega
            by_cases htj : t = j
            · subst htj
              rw [List.getElem?_set_self (by omega)]
            · rw [List.getElem?_set_ne (fun e => htj e.symm)]
              exact HXS.out t (by omega)
          case measure => simp [RowKit.intOf]; omega
        · obtain rfl : j = ln i := by omega
          have HXE : Hid (xs = List.replicate (ln i) (bv (mkN (n + i)))) := bv_rep (by have := HOX.out.1; omega) HXS.out
          have HB4 := hide (H1.out.b.chg HCH.out (fun x hx e => by
            have h9 := HZ.out.a i hlt x e
            rcases H1.out.b.R hx with hx | hx
            · exact h9.2.1 hx
            · omega))
          have HA4 := hide hca2
          have hcb := HB4.out.blk.cell
          generalize wr = w4 at *
          go_wp2_with fail
          clear hcb hca2
          refine wp_region_noPanic ?_
          refine wp_region_L (S := (fun W => (∀ j, W.cell? ⟨bb, j, none⟩ = ([.slice la (n + i) lc, .slice ma n mc, .slice ua m uc, .slice va m vc] : List Value)[j]?) ∧ W.cell? ⟨ab, ao + i, none⟩ = some (.slice za (ln i) zc))) 13 (by kernel_rfl) (⟨(HB4.out.blk.G (G.drew (G.refl _))).cell, HA4.out⟩) (fun hHeld => ?_)
          refine wpAnyL_take (i := 0) (v := ?_) rfl (by kernel_rfl) (by kernel_rfl) (by kernel_rfl) (by kernel_rfl) (fun _ _ _ h => h) (Or.inl ⟨by rfl, ?_⟩) hHeld ?_
          rotate_left 1
          · (intro w hSw; (try dsimp only at hSw); go_simp; try with_reducible rfl)
          try simp only [Act.put, List.getElem_toArray, List.getElem_cons_zero, List.setIfInBounds_toArray, List.set_cons_zero, List.set_cons_succ]
          refine wpAnyL_take (i := 1) (v := ?_) rfl (by kernel_rfl) (by kernel_rfl) (by kernel_rfl) (by kernel_rfl) (fun _ _ _ h => h) (Or.inl ⟨by rfl, ?_⟩) hHeld ?_
          rotate_left 1
          · (intro w hSw; (try dsimp only at hSw); go_simp; try with_reducible rfl)
          try simp only [Act.put, List.getElem_toArray, List.getElem_cons_zero, List.getElem_cons_succ, List.setIfInBounds_toArray, List.set_cons_zero, List.set_cons_succ]
          refine wpAnyL_take (i := 2) (v := ?_) rfl (by kernel_rfl) (by kernel_rfl) (by kernel_rfl) (by kernel_rfl) (fun _ _ _ h => h) (Or.inl ⟨by rfl, ?_⟩) hHeld ?_
          rotate_left 1
          · (intro w hSw; (try dsimp only at hSw); go_simp; try with_reducible rfl)
          try simp only [Act.put, List.getElem_toArray, List.getElem_cons_zero, List.getElem_cons_succ, List.setIfInBounds_toArray, List.set_cons_zero, List.set_cons_succ]
          refine wpAnyL_take (i := 3) (v := ?_) rfl (by kernel_rfl) (by kernel_rfl) (by kernel_rfl) (by kernel_rfl) (fun _ _ _ h => h) (Or.inl ⟨by rfl, ?_⟩) hHeld ?_
          rotate_left 1
          · (intro w hSw; (try dsimp only at hSw); go_simp; try with_reducible rfl)
          try simp only [Act.put, List.getElem_toArray, List.getElem_cons_zero, List.getElem_cons_succ, List.setIfInBounds_toArray, List.set_cons_zero, List.set_cons_succ]
          refine wpAnyL_take (i := 4) (v := ?_) rfl (by kernel_rfl) (by kernel_rfl) (by kernel_rfl) (by kernel_rfl) (fun _ _ _ h => h) (Or.inl ⟨by rfl, ?_⟩) hHeld ?_
          rotate_left 1
          · (intro w hSw; obtain ⟨q1, q2⟩ := hSw; go_simp; try with_reducible rfl)
          try simp only [Act.put, List.getElem_toArray, List.getElem_cons_zero, List.getElem_cons_succ, List.setIfInBounds_toArray, List.set_cons_zero, List.set_cons_succ]
          refine wpAnyL_take (i := 5) (v := ?_) rfl (by kernel_rfl) (by kernel_rfl) (by kernel_rfl) (by kernel_rfl) (fun _ _ _ h => h) (Or.inl ⟨by rfl, ?_⟩) hHeld ?_
          rotate_left 1
          · (intro w hSw; (try dsimp only at hSw); go_simp; try with_reducible rfl)
          try simp only [Act.put, List.getElem_toArray, List.getElem_cons_zero, List.getElem_cons_succ, List.setIfInBounds_toArray, List.set_cons_zero, List.set_cons_succ]
          refine wpAnyL_take (i := 6) (v := ?_) rfl (by kernel_rfl) (by kernel_rfl) (by kernel_rfl) (by kernel_rfl) (fun _ _ _ h => h) (Or.inl ⟨by rfl, ?_⟩) hHeld ?_
          rotate_left 1
          · (intro w hSw; (try dsimp only at hSw); go_simp; try with_reducible rfl)
          try simp only [Act.put, List.getElem_toArray, List.getElem_cons_zero, List.getElem_cons_succ, List.setIfInBounds_toArray, List.set_cons_zero, List.set_cons_succ]
          refine wpAnyL_take (i := 7) (v := ?_) rfl (by kernel_rfl) (by kernel_rfl) (by kernel_rfl) (by kernel_rfl) (fun _ _ _ h => h) (Or.inl ⟨by rfl, ?_⟩) hHeld ?_
          rotate_left 1
          · (intro w hSw; (try dsimp only at hSw); go_simp; try with_reducible rfl)
          try simp only [Act.put, List.getElem_toArray, List.getElem_cons_zero, List.getElem_cons_succ, List.setIfInBounds_toArray, List.set_cons_zero, List.set_cons_succ]
          refine wpAnyL_take (i := 8) (v := ?_) rfl (by kernel_rfl) (by kernel_rfl) (by kernel_rfl) (by kernel_rfl) (fun _ _ _ h => h) (Or.inl ⟨by rfl, ?_⟩) hHeld ?_
          rotate_left 1
          · (intro w hSw; obtain ⟨q1, q2⟩ := hSw; go_simp; try with_reducible rfl)
          try simp only [Act.put, List.getElem_toArray, List.getElem_cons_zero, List.getElem_cons_succ, List.setIfInBounds_toArray, List.set_cons_zero, List.set_cons_succ]
          refine wpAnyL_one (i := 9) (by kernel_rfl) rfl (by kernel_rfl) (fun K hK => ?_)
          clear hHeld
          go_simp
          have HG6 : Hid (G w4 (w4.alloc (.cells #[.slice za (ln i) zc] 28)).drew) := ((G.refl w4).alloc _).drew
          have HC6 : Hid (∀ j u, [.slice za (ln i) zc][j]? = some u → (w4.alloc (.cells #[.slice za (ln i) zc] 28)).drew.cell? ((⟨w4.heap.size, 0, none⟩ : Addr).add j) = some u) := cell_one_new w4 (.slice za (ln i) zc) 28
          generalize (w4.alloc (.cells #[.slice za (ln i) zc] 28)).drew = w6 at HG6 HC6 ⊢
          refine hK.out _ _ (⟨(HB4.out.blk.G HG6.out).cell, cell_chg HA4.out HG6.out.chg (F := fun _ => False) (fun h => h)⟩) (fun hHeld => ?_)
          clear hK K
          try simp only [Act.put, List.getElem_toArray, List.getElem_cons_zero, List.getElem_cons_succ, List.setIfInBounds_toArray, List.set_cons_zero, List.set_cons_succ]
          refine wpAnyL_one (i := 10) (by kernel_rfl) rfl (by kernel_rfl) (fun K hK => ?_)
          clear hHeld
          obtain ⟨i0, hi0, hz0, hz1, hz2⟩ := info_bs
          obtain ⟨v7, w7, hrun, hrow7, hap7⟩ := app_stay (P := Try.prog) w6 z 27 27 28 i0 _ 1 24 Try.underlying27 hi0 hz0 hz1 hz2 rfl (by decide) (.slice la (n + i) lc) (n + i) ((List.range (n + i)).map (jn X Z n)) (HB4.out.G HG6.out).l ⟨w4.heap.size, 0, none⟩ 1 [.slice za (ln i) zc] rfl HC6.out (fun u hu => by simp at hu; subst hu; rfl) (by unfold maxLen; omega) (by omega) (by have := HZS.out; have := H1.out.c.size; have := HCH.out.size; have := HG6.out.size; omega)
          obtain ⟨g7, c7, rfl⟩ := own_block hrow7 (by omega)
          have HAP : Hid (Ap w6 w7 (.slice la (n + i) lc) (.slice (some ⟨g7, 0, none⟩) (n + i + 1) c7)) := ⟨hap7⟩
          have HRW := hide hrow7
          clear hap7 hrow7 hi0 hz0 hz1 hz2
          refine (if_pos rfl).mpr ?_
          refine wp_of_exec (exec_append _ _ 27 rfl (.slice la (n + i) lc) (.slice (some ⟨w4.heap.size, 0, none⟩) 1 1) rfl rfl 27 rfl hrun) ?_
          clear hrun
          have HNB : Hid (¬ (((.slice la (n + i) lc) : Value).ownBlock = some bb)) := row_bb (HB4.out.G HG6.out).l (HB4.out.G HG6.out).blk (by decide)
          have HNA : Hid (¬ (((.slice la (n + i) lc) : Value).ownBlock = some ab)) := fun e => by
            rcases HB4.out.r ab (.inl e) with h | h
            · exact hab h
            · have := HABL.out; omega
          refine hK.out _ _ (⟨((HB4.out.blk.G HG6.out).chg HAP.out.chg HNB.out).cell, cell_chg (cell_chg HA4.out HG6.out.chg (F := fun _ => False) (fun h => h)) HAP.out.chg HNA.out⟩) (fun hHeld => ?_)
          clear hK K
          try simp only [Act.put, List.getElem_toArray, List.getElem_cons_zero, List.getElem_cons_succ, List.setIfInBounds_toArray, List.set_cons_zero, List.set_cons_succ]
          refine wpAnyL_take2 12 (i := 11) (v := ?_) rfl (by kernel_rfl) (by kernel_rfl) (by kernel_rfl) (by kernel_rfl) (fun _ _ _ h => h) (Or.inl ⟨by rfl, ?_⟩) hHeld ?_
          rotate_left 1
          · (intro w hSw; (try dsimp only at hSw); go_simp; try with_reducible rfl)
          try simp only [Act.put, List.getElem_toArray, List.getElem_cons_zero, List.getElem_cons_succ, List.setIfInBounds_toArray, List.set_cons_zero, List.set_cons_succ]
          refine wpAnyL_take (i := 12) (v := ?_) rfl (by kernel_rfl) (by kernel_rfl) (by kernel_rfl) (by kernel_rfl) (fun _ _ _ h => h) (Or.inl ⟨by rfl, ?_⟩) hHeld ?_
          rotate_left 1
          · (intro w hSw; (try dsimp only at hSw); go_simp; try with_reducible rfl)
          try simp only [Act.put, List.getElem_toArray, List.getElem_cons_zero, List.getElem_cons_succ, List.setIfInBounds_toArray, List.set_cons_zero, List.set_cons_succ]
          refine wpAnyL_last (by kernel_rfl) rfl (by kernel_rfl) (fun K hK => ?_)
          clear hHeld
          have hc7 := ((HB4.out.blk.G HG6.out).chg HAP.out.chg HNB.out).cell
          have hz7 := ((HB4.out.blk.G HG6.out).chg HAP.out.chg HNB.out).frozen
          go_simp
          refine hK.out _ _ ?_
          clear hK K
          refine NoPanic.normal ?_
          have HPU := hide ((HB4.out.G HG6.out).pushL HRW.out HAP.out (fun x hx => .inr (by have := H1.out.c.size; have := HCH.out.size; have := HG6.out.size; omega)))
          rw [← HEZ.out, jn_upd] at HPU
          have HA2 : Hid (A1 w (w7.setCell ⟨bb, 0, none⟩ (.slice (some ⟨g7, 0, none⟩) (n + i + 1) c7)) R z bb n m k (i + 1) (.slice (some ⟨g7, 0, none⟩) (n + i + 1) c7) (.slice ma n mc) (.slice ua m uc) (.slice va m vc) (jn X Z n) Y U V Z ln) := by
            have hD : Chg (fun x => R x ∨ ∃ t, t < k ∧ (Z t).ownBlock = some x) w w4 := H1.out.c.trans (HCH.out.mono (fun x hx => .inr ⟨i, hlt, hx⟩))
            have s1 := hD.size
            have s2 := HG6.out.size
            refine ⟨HPU.out.1, fun t ht => ?_, (hD.trans HG6.out.chg).more HPU.out.2 (fun x hx e => (HB4.out.R e).elim .inl (fun e2 => by omega))⟩
            by_cases hti : t = i
            · subst hti
              refine ⟨xs, ?_, fun _ => HXE.out⟩
              exact own_chg (own_G HOX.out HG6.out) HPU.out.2 (fun x hx e => by
                have h9 := HZ.out.a t ht x hx
                rcases HB4.out.R e with e | e
                · exact h9.2.1 e
                · omega)
            · obtain ⟨ys, hy1, hy2⟩ := H1.out.o t ht
              refine ⟨ys, ?_, fun h9 => hy2 (by omega)⟩
              have h8 := own_chg hy1 HCH.out (fun x hx e => (HZ.out.a t ht x hx).2.2.2.2 i hlt (fun e2 => hti e2.symm) e)
              exact own_chg (own_G h8 HG6.out) HPU.out.2 (fun x hx e => by
                have h9 := HZ.out.a t ht x hx
                rcases HB4.out.R e with e | e
                · exact h9.2.1 e
                · omega)
          generalize w7.setCell ⟨bb, 0, none⟩ (.slice (some ⟨g7, 0, none⟩) (n + i + 1) c7) = w8 at HA2 ⊢
          go_wp2
          go_roundw
          case rel => exact ⟨i + 1, by omega, by go_num, _, HA2.out⟩
          case measure => simp [RowKit.intOf]; omega
    · obtain rfl : i = k := by omega
      have hcb := H1.out.b.blk.cell
      have H2 : Hid (A2 w wr R z bb n m i 0 (.slice la (n + i) lc) (.slice ma n mc) (.slice ua m uc) (.slice va m vc) (jn X Z n) Y U V Z ln) := by
        refine ⟨H1.out.b, fun t _ ht => ?_, fun t ht => by omega, H1.out.c⟩
        obtain ⟨xs, h1, h2⟩ := H1.out.o t ht
        rw [h2 ht] at h1
        exact h1
      go_wp2_with fail
      clear hcb
      clear H1
      go_loopw [7, 8, 9] (fun c _ _ W => ∃ t : Nat, t ≤ i ∧ c = .int .i64 ((n : Int) + (t : Int)) ∧ ∃ mv2 Y2, (∀ s, s < n → Y2 s = Y s) ∧ A2 w W R z bb n m i t (.slice la (n + i) lc) mv2 (.slice ua m uc) (.slice va m vc) (jn X Z n) Y2 U V Z ln) (fun c _ _ _ => n + i - (RowKit.intOf c).toNat)
      case atStart => exact ⟨0, by omega, by simp, _, Y, fun s _ => rfl, H2.out⟩
      case round =>
        obtain ⟨t, ht, rfl, mv2, Y2, hY2, ha2⟩ := hrel
        obtain ⟨ma2, mc2, emv2⟩ := ha2.b.m.slice
        subst emv2
        have HA2 := hide ha2
        have HY2 := hide hY2
        have hcb := ha2.b.blk.cell
        clear ha2 hY2 H2
        by_cases htl : t < i
        · have htI : (n : Int) + (t : Int) < (n : Int) + (i : Int) := by omega
          obtain ⟨gl, cl, el, hcl⟩ := HA2.out.b.l.cell (i := n + t) (by omega)
          have hzi : jn X Z n (n + t) = Z t := by unfold jn; rw [if_neg (by omega), Nat.add_sub_cancel_left]
          rw [hzi] at hcl
          cases el
          have ho0 := HA2.out.o t (Nat.le_refl _) htl
          obtain ⟨za, zc, ez, hzc, hzg⟩ : ∃ a c, Z t = .slice a (ln t) c ∧ ln t ≤ c ∧ (ln t = 0 ∨ ∃ g, a = some ⟨g, 0, none⟩) := by
            rcases ho0.2 with ⟨e1, e2⟩ | ⟨g, c, _, e1, _, _, hc, _⟩
            · exact ⟨none, 0, by rw [e1, e2], by omega, .inl e2⟩
            · exact ⟨_, _, e1, hc, .inr ⟨g, rfl⟩⟩
          have HEZ := hide ez
          have HO0 := hide ho0
          rw [ez] at hcl
          have hlnI : (ln t : Int) ≤ 1073741824 := by have := HZ.out.l t htl; omega
          have H3 : Hid (A3 w wr wr z n t 0 (.slice za (ln t) zc) (Z t) (ln t) (mkN (n + t))) := by
            refine ⟨by rw [← ez]; exact ho0, own_pre ho0 (Nat.le_refl _) ⟨zc, za, ez, hzc, hzg.imp id (fun ⟨g, h⟩ => ⟨g, h, by rw [ez, h]; rfl⟩)⟩, fun x hx => own_ty ho0 (blk_own hx), .inl (by rw [ez]), Chg.refl _ _⟩
          go_wp2_with fail
          clear hcb hcl ho0
          generalize wr = wo at *
          go_loopw [8, 9] (fun x c W => ∃ j : Nat, j ≤ 64 ∧ c = .int .i64 j ∧ A3 w wo W z n t j x (Z t) (ln t) (mkN (n + t))) (fun _ c _ => 64 - (RowKit.intOf c).toNat)
          case atStart => exact ⟨0, by omega, rfl, H3.out⟩
          case round =>
            obtain ⟨j, hj, rfl, ha3⟩ := hrel
            have HA3 := hide ha3
            clear ha3 H3
            by_cases hjl : j < 64
            · have hjI : (j : Int) < 64 := by omega
              obtain ⟨i0, hi0, hz0, hz1, hz2⟩ := info_u8
              obtain ⟨v7, w7, hrun, hrow7, hap7⟩ := app_stay (P := Try.prog) (wr.alloc (.cells #[bv (mkN (n + t))] 5)) z 28 28 5 i0 _ 1 1 Try.underlying28 hi0 hz0 hz1 hz2 rfl (by decide) u8 (ln t + j) (List.replicate (ln t + j) (bv (mkN (n + t)))) (own_G HA3.out.o ((G.refl _).alloc _)) ⟨wr.heap.size, 0, none⟩ 1 [bv (mkN (n + t))] rfl (cell_one_new wr _ 5) (fun u hu => by simp at hu; subst hu; rfl) (by unfold maxLen; omega) (by omega) (by have := HZS.out; have := HA2.out.c.size; have := HA3.out.c.size; simp; omega)
              have HRUN := hide hrun
              have HA4 : Hid (A3 w wo w7 z n t (j + 1) v7 (Z t) (ln t) (mkN (n + t))) := HA3.out.step ((G.refl _).alloc _) hrow7 hap7 (fun x hx => Nat.lt_of_lt_of_le (HZ.out.a t htl x hx).2.2.2.1 HA2.out.c.size) ⟨zc, za, HEZ.out, hzc, hzg⟩
              clear hrun hrow7 hap7 hi0 hz0 hz1 hz2
              go_wp2_with fail
              refine (mark_any (n + t) (by omega) _).mono ?_
              rintro e' w5 ⟨rfl, rfl⟩
              go_wp2_with (first | (at_builtin; refine wpList_append_run rfl _ _ 28 rfl u8 (.slice (some ⟨w5.heap.size, 0, none⟩) 1 1) rfl rfl HRUN.out ?_) | fail)
              clear HRUN
              go_wp2
              go_roundw
              case rel => exact ⟨j + 1, by omega, by go_num, HA4.out⟩
              case measure => simp [RowKit.intOf]; omega
            · obtain rfl : j = 64 := by omega
              obtain ⟨xa, xc, ex⟩ : ∃ a c, u8 = .slice a (ln t + 64) c := by
                obtain ⟨g, c, e⟩ := own_block HA3.out.o (by omega)
                exact ⟨_, _, e⟩
              subst ex
              have HTZ : Hid (∀ x, (Z t).ownBlock = some x → x < w.heap.size ∧ TyB wo x 5) := fun x hx => ⟨(HZ.out.a t htl x hx).2.2.2.1, own_ty HO0.out hx⟩
              have HB4 := hide (HA2.out.b.chg HA3.out.c (fun x hx e => HA2.out.b.ty (HTZ.out x e).2 (by decide) (by decide) (by decide) hx))
              have HS4 : Hid (w.heap.size ≤ wr.heap.size) := Nat.le_trans HA2.out.c.size HA3.out.c.size
              have hcb := HB4.out.blk.cell
              generalize wr = w4 at *
              obtain ⟨i0, hi0, hz0, hz1, hz2⟩ := info_bs
              have HG6 : Hid (G w4 (w4.alloc (.cells #[.slice xa (ln t + 64) xc] 28))) := (G.refl w4).alloc _
              obtain ⟨v7, w7, hrun, hrow7, hap7⟩ := app_stay (P := Try.prog) (w4.alloc (.cells #[.slice xa (ln t + 64) xc] 28)) z 27 27 28 i0 _ 1 24 Try.underlying27 hi0 hz0 hz1 hz2 rfl (by decide) (.slice ma2 (n + t) mc2) (n + t) ((List.range (n + t)).map Y2) (HB4.out.G HG6.out).m ⟨w4.heap.size, 0, none⟩ 1 [.slice xa (ln t + 64) xc] rfl (cell_one_new w4 (.slice xa (ln t + 64) xc) 28) (fun u hu => by simp at hu; subst hu; rfl) (by unfold maxLen; omega) (by omega) (by have := HZS.out; have := HS4.out; have := HG6.out.size; omega)
              obtain ⟨g7, c7, rfl⟩ := own_block hrow7 (by omega)
              have HRUN := hide hrun
              have HAP : Hid (Ap (w4.alloc (.cells #[.slice xa (ln t + 64) xc] 28)) w7 (.slice ma2 (n + t) mc2) (.slice (some ⟨g7, 0, none⟩) (n + t + 1) c7)) := ⟨hap7⟩
              have HRW := hide hrow7
              clear hap7 hrow7 hi0 hz0 hz1 hz2 hrun
              have HNB : Hid (¬ (((.slice ma2 (n + t) mc2) : Value).ownBlock = some bb)) := row_bb (HB4.out.G HG6.out).m (HB4.out.G HG6.out).blk (by decide)
              have hc7 := ((HB4.out.blk.G HG6.out).chg HAP.out.chg HNB.out).cell
              have hz7 := ((HB4.out.blk.G HG6.out).chg HAP.out.chg HNB.out).frozen
              go_wp2_with (first | (at_builtin; refine wpList_append_run rfl _ _ 27 rfl (.slice ma2 (n + t) mc2) (.slice (some ⟨w4.heap.size, 0, none⟩) 1 1) rfl rfl HRUN.out ?_) | fail)
              clear hcb
              have HPU := hide ((HB4.out.G HG6.out).pushM HRW.out HAP.out (fun x hx => .inr (by have := HS4.out; have := HG6.out.size; omega)))
              have HKP : Hid (∀ x, TyB w4 x 5 → ¬ rB bb (.slice (some ⟨gl, 0, none⟩) (n + i) lc) (.slice ma2 (n + t) mc2) (.slice ua m uc) (.slice va m vc) x) := fun x hx => HB4.out.ty hx (by decide) (by decide) (by decide)
              have HNW : Hid (A2 w (w7.setCell ⟨bb, 1, none⟩ (.slice (some ⟨g7, 0, none⟩) (n + t + 1) c7)) R z bb n m i (t + 1) (.slice (some ⟨gl, 0, none⟩) (n + i) lc) (.slice (some ⟨g7, 0, none⟩) (n + t + 1) c7) (.slice ua m uc) (.slice va m vc) (jn X Z n) (upd Y2 (n + t) (.slice xa (ln t + 64) xc)) U V Z ln) := by
                have hD : Chg (fun x => R x ∨ ∃ s, s < i ∧ (Z s).ownBlock = some x) w w4 := HA2.out.c.trans (HA3.out.c.mono (fun x hx => .inr ⟨t, htl, hx⟩))
                have s2 := HG6.out.size
                have s3 := HS4.out
                have ty8 : ∀ x, TyB w4 x 5 → TyB (w7.setCell ⟨bb, 1, none⟩ (.slice (some ⟨g7, 0, none⟩) (n + t + 1) c7)) x 5 := fun x hx => (hx.chg HG6.out.chg (F := fun _ => False) (fun e => e)).chg HPU.out.2 (HKP.out x hx)
                have by8 : ∀ v xs, Bytes w4 v xs → (∀ x, Value.blk v x → TyB w4 x 5) → Bytes (w7.setCell ⟨bb, 1, none⟩ (.slice (some ⟨g7, 0, none⟩) (n + t + 1) c7)) v xs := fun v xs hv hx => (hv.G HG6.out).chg HPU.out.2 (fun x hb => HKP.out x (hx x hb))
                refine ⟨HPU.out.1, fun s hs1 hs2 => ?_, fun s hs1 hs2 => ?_, (hD.trans HG6.out.chg).more HPU.out.2 (fun x hx e => (HB4.out.R e).elim .inl (fun e2 => by omega))⟩
                · have h8 := own_chg (HA2.out.o s (by omega) hs2) HA3.out.c (fun x hx e => (HZ.out.a s hs2 x hx).2.2.2.2 t htl (by omega) e)
                  exact own_chg (own_G h8 HG6.out) HPU.out.2 (fun x hx e => HKP.out x (own_ty h8 hx) e)
                · by_cases hst : s = t
                  · subst hst
                    have hup : ∀ v, upd Y2 (n + s) v (n + s) = v := fun v => by unfold upd; rw [if_pos rfl]
                    rw [hup]
                    have hxb : Bytes w4 (.slice xa (ln s + 64) xc) (List.replicate (ln s + 64) (mkN (n + s))) := own_pre HA3.out.o (Nat.le_refl _) (by
                      obtain ⟨g, c, e⟩ := own_block HA3.out.o (by omega)
                      cases e
                      have hc : ln s + 64 ≤ xc := by
                        rcases HA3.out.o.2 with ⟨h0, _⟩ | ⟨_, _, _, h0, _, _, hc, _⟩
                        · cases h0
                        · cases h0; exact hc
                      exact ⟨xc, _, rfl, hc, .inr ⟨g, rfl, rfl⟩⟩)
                    have htx : ∀ x, Value.blk (.slice xa (ln s + 64) xc) x → TyB w4 x 5 := fun x hx => own_ty HA3.out.o (blk_own hx)
                    refine ⟨by8 _ _ HA3.out.y HA3.out.t, by8 _ _ hxb htx, fun x hx => ?_⟩
                    rcases hx with hx | hx
                    · exact ⟨.inl (blk_own hx), ty8 x (HA3.out.t x hx)⟩
                    · refine ⟨?_, ty8 x (htx x hx)⟩
                      rcases HA3.out.q with q | ⟨g, q, hg⟩
                      · exact .inl (q.symm.trans (blk_own hx))
                      · right
                        have := blk_own hx
                        rw [q] at this
                        cases this
                        exact Nat.le_trans HA2.out.c.size hg
                  · have hup : upd Y2 (n + t) (.slice xa (ln t + 64) xc) (n + s) = Y2 (n + s) := by unfold upd; rw [if_neg (by omega)]
                    rw [hup]
                    obtain ⟨e1, e2, e3⟩ := HA2.out.e s (by omega) hs2
                    have hne : ∀ x, Value.blk (Z s) x ∨ Value.blk (Y2 (n + s)) x → ¬ (Z t).ownBlock = some x := fun x hx e => by
                      rcases (e3 x hx).1 with h | h
                      · exact (HZ.out.a s hs2 x h).2.2.2.2 t htl (fun e9 => hst e9.symm) e
                      · have := (HTZ.out x e).1
                        omega
                    have e4 : ∀ x, Value.blk (Z s) x ∨ Value.blk (Y2 (n + s)) x → TyB w4 x 5 := fun x hx => (e3 x hx).2.chg HA3.out.c (hne x hx)
                    exact ⟨by8 _ _ (e1.chg HA3.out.c (fun x hx => hne x (.inl hx))) (fun x hx => e4 x (.inl hx)), by8 _ _ (e2.chg HA3.out.c (fun x hx => hne x (.inr hx))) (fun x hx => e4 x (.inr hx)), fun x hx => ⟨(e3 x hx).1, ty8 x (e4 x hx)⟩⟩
              have HYN : Hid (∀ s, s < n → upd Y2 (n + t) (.slice xa (ln t + 64) xc) s = Y s) := fun s hs => by
                unfold upd
                rw [if_neg (by omega)]
                exact HY2.out s hs
              generalize w7.setCell ⟨bb, 1, none⟩ (.slice (some ⟨g7, 0, none⟩) (n + t + 1) c7) = w8 at HNW ⊢
              go_wp2
              go_roundw
              case rel => exact ⟨t + 1, by omega, by go_num, _, _, HYN.out, HNW.out⟩
              case measure => simp [RowKit.intOf]; omega
        · obtain rfl : t = i := by omega
          go_wp2_with fail
          go_end0
          exact ⟨rfl, _, _, Y2, HY2.out, HA2.out⟩
end Go.Proofs.Ytbjbphhcmmaaoaa
