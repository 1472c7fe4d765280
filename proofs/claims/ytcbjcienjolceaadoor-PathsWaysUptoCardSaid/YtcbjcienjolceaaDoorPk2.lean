/- Paths: the document's sight. -/
import Derived.Test.YtcbjcienjolceaaDoorPk1
namespace Go.Proofs.YtcbjcienjolceaaDoor
open Go.RowKit

theorem sight_none {id s : Int} : ∀ {l : List Sn}, (∀ x ∈ l, x.1 ≠ id) → sightL l id s = l ++ [(id, s)]
  | [], _ => rfl
  | x :: r, h => by
    unfold sightL
    rw [if_neg (h x (by simp)), sight_none (fun y hy => h y (by simp [hy]))]
    rfl
theorem sight_at {id s : Int} : ∀ {l : List Sn} {i : Nat} {x : Sn}, l[i]? = some x → x.1 = id → (∀ j y, j < i → l[j]? = some y → y.1 ≠ id) → sightL l id s = if s < x.2 then l.set i (x.1, s) else l
  | [], _, _, h, _, _ => by simp at h
  | a :: l, 0, x, h, e, _ => by
    simp at h
    subst h
    unfold sightL
    rw [if_pos e]
    rfl
  | a :: l, i + 1, x, h, e, hn => by
    have h0 := hn 0 a (by omega) rfl
    unfold sightL
    rw [if_neg h0, sight_at (i := i) (by simpa using h) e (fun j y hj hy => hn (j + 1) y (by omega) (by simpa using hy))]
    split <;> rfl
/-- A cell of a row is stored. -/
theorem Rw.set {lo : Nat} {e : TypeId} {nc : Nat} {w : World} {g n cap : Nat} {xs : List Value} (h : Rw lo e nc w (.slice (some ⟨g, 0, none⟩) n cap) n xs) (o : Nat) (_ho : o < n * nc) (u : Value) : Rw lo e nc (w.setCell ⟨g, o, none⟩ u) (.slice (some ⟨g, 0, none⟩) n cap) n (xs.set o u) := by
  refine ⟨by rw [List.length_set]; exact h.1, ?_⟩
  rcases h.2 with ⟨q, _⟩ | ⟨g', cap', cur, q, hlo, hg, hc, hm, hs, ht⟩
  · cases q
  · simp only [Value.slice.injEq, Option.some.injEq, Addr.mk.injEq] at q
    obtain ⟨⟨rfl, -, -⟩, -, rfl⟩ := q
    have hb : Blk w g e cur.toList := ⟨hg⟩
    have hb2 := hb.set o u
    refine .inr ⟨g, cap, (cur.toList.set o u).toArray, rfl, hlo, hb2.h, hc, hm, by simpa using hs, ?_⟩
    rw [← ht]
    simp only
    rw [List.take_set]
set_option maxRecDepth 100000 in
set_option maxHeartbeats 2000000 in
theorem sight_any (lo : Nat) (W : World) (v : Value) (l : List Sn) (id s : Int) (h : Sr lo W v l) (hb : l.length ≤ 8589934592) (hlo : lo ≤ W.heap.size) : Calls Tryd.prog 46 #[v, I id, I s] W fun e W' => ∃ v', e = .returned v' ∧ Sr lo W' v' (sightL l id s) ∧ Chg (fun k => v.ownBlock = some k) W W' ∧ (v'.ownBlock = v.ownBlock ∨ ∃ b, v'.ownBlock = some b ∧ W.heap.size ≤ b) := by
  obtain ⟨va, vc, rfl⟩ := Rw.form h
  have H := hide h
  obtain ⟨R, hR⟩ : ∃ R, R = sightL l id s := ⟨_, rfl⟩
  rw [← hR]
  have HR := hide hR
  clear h hR
  go_enter Tryd.func46, Tryd.ntmps46
  go_wp2_with fail
  go_loopw [7] (fun iv wr => ∃ k : Nat, iv = I k ∧ k ≤ l.length ∧ (∀ j x, j < k → l[j]? = some x → x.1 ≠ id) ∧ wr = W) (fun iv _ => l.length - (RowKit.intOf iv).toNat)
  case atStart => exact ⟨0, rfl, Nat.zero_le _, fun j x hj => by omega, rfl⟩
  case round =>
    obtain ⟨k, rfl, hk, hno, rfl⟩ := hrel
    by_cases hkl : k < l.length
    · have hkI : (k : Int) < l.length := by omega
      obtain ⟨x, hx⟩ : ∃ x, l[k]? = some x := ⟨_, List.getElem?_eq_getElem hkl⟩
      obtain ⟨g, cap, he, hg, c1, c2⟩ := sr_at H.out hx
      obtain ⟨rfl, rfl⟩ : va = some ⟨g, 0, none⟩ ∧ vc = cap := by simp at he; exact he
      have HX := hide hx
      have HNO := hide hno
      have HKL := hide hkl
      clear he hx hno hkl
      by_cases e1 : x.1 = id
      · have e1b : (x.1 == id) = true := by simpa using e1
        have hs := sight_at (s := s) HX.out e1 HNO.out
        by_cases e2 : s < x.2
        · rw [if_pos e2] at hs
          obtain ⟨gg, cc, rest, heq, hlg, hblk, hlen⟩ := H.out.blk (by omega)
          obtain ⟨rfl, rfl⟩ : g = gg ∧ vc = cc := by simp at heq; exact heq
          have hz := hblk.frozen
          have hset := Rw.set H.out (k * 2 + 1) (by have := HKL.out; omega) (I s)
          have HE : Hid (Sr lo (wr.setCell ⟨g, k * 2 + 1, none⟩ (I s)) (.slice (some ⟨g, 0, none⟩) l.length vc) R) := by
            show Rw _ _ _ _ _ _ _
            rw [HR.out, hs, flS_set l k x s HX.out]
            simpa using hset
          clear e1 hs heq hblk hlen hset
          go_wp2_with fail
          go_ret
          exact ⟨_, rfl, HE.out, chg_setCell _ _ (.inl rfl), .inl rfl⟩
        · rw [if_neg e2] at hs
          have HE : Hid (R = l) := by rw [HR.out]; exact hs
          clear e1 hs
          go_wp2_with fail
          go_ret
          rw [HE.out]
          exact ⟨_, rfl, H.out, Chg.refl _ _, .inl rfl⟩
      · have e1b : (x.1 == id) = false := beq_eq_false_iff_ne.2 e1
        have hw : wrap64 ((k : Int) + 1) = (k : Int) + 1 := by unfold wrap64; omega
        have HE := hide e1
        clear e1
        go_wp2_with fail
        go_roundw
        case rel =>
          refine ⟨k + 1, by simp, HKL.out, fun j y hj hy => ?_, trivial⟩
          by_cases hjk : j = k
          · subst hjk
            rw [HX.out] at hy
            cases hy
            exact HE.out
          · exact HNO.out j y (by omega) hy
        case measure => simp only [RowKit.intOf]; have := HKL.out; omega
    · have hkI : ¬ ((k : Int) < l.length) := by omega
      have hs : R = l ++ [(id, s)] := by
        rw [HR.out]
        refine sight_none (fun x hx => ?_)
        obtain ⟨j, hj, rfl⟩ := List.getElem_of_mem hx
        exact hno j _ (by omega) (List.getElem?_eq_getElem hj)
      have hg1 : G wr (wr.alloc (.cells #[I id, I s] 91)) := (G.refl wr).alloc _
      obtain ⟨v', w', q1, q2, q3, q4⟩ := app_Sn (wr.alloc (.cells #[I id, I s] 91)) lo (.slice va l.length vc) l.length (flS l) (H.out.G hg1) ⟨wr.heap.size, 0, none⟩ 1 1 [I id, I s] rfl (fun j u hj => by rw [Addr.add_mid, Nat.zero_add, (Blk.new wr [I id, I s] 91).cell]; exact hj) (fun u hu => by simp at hu; rcases hu with rfl | rfl <;> rfl) (by omega) (Nat.le_trans hlo hg1.size)
      have HRUN := hide q1
      have HE : Hid (Sr lo w' v' R) := by
        show Rw _ _ _ _ _ _ _
        rw [hs, flS_app, List.length_append]
        exact q2
      have HC : Hid (Chg (fun k => (Value.slice va l.length vc).ownBlock = some k) wr w') := (hg1.chg).trans q3
      have HO : Hid (v'.ownBlock = (Value.slice va l.length vc).ownBlock ∨ ∃ b, v'.ownBlock = some b ∧ wr.heap.size ≤ b) := q4.elim .inl (fun e => .inr ⟨_, e, by rw [World.size_alloc]; omega⟩)
      obtain ⟨a2, c2, rfl⟩ := Rw.form q2
      clear hno hkl hs q1 q2 q3 q4 hg1
      go_wp2_with (first | (at_builtin; refine wpList_append_run rfl _ _ 84 rfl (.slice va l.length vc) (.slice (some ⟨wr.heap.size, 0, none⟩) 1 1) rfl rfl HRUN.out ?_) | fail)
      go_ret
      exact ⟨_, rfl, HE.out, HC.out, HO.out⟩
end Go.Proofs.YtcbjcienjolceaaDoor
