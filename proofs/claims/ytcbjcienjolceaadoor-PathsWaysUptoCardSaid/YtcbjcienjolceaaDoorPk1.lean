/- Paths: the document's lists: settled, next, sight, weigh. -/
import Derived.Test.YtcbjcienjolceaaDoorPj8
namespace Go.Proofs.YtcbjcienjolceaaDoor
open Go.RowKit

def flS (l : List Sn) : List Value := l.flatMap fun x => [I x.1, I x.2]
theorem flS_len (l : List Sn) : (flS l).length = l.length * 2 := by
  induction l with
  | nil => rfl
  | cons a l ih => simp [flS] at ih ⊢; omega
theorem flS_app (l m : List Sn) : flS (l ++ m) = flS l ++ flS m := by simp [flS]
theorem flS_get : ∀ (l : List Sn) (i : Nat) (x : Sn), l[i]? = some x → (flS l)[i * 2]? = some (I x.1) ∧ (flS l)[i * 2 + 1]? = some (I x.2)
  | [], i, x, h => by simp at h
  | a :: l, 0, x, h => by simp at h; subst h; simp [flS]
  | a :: l, i + 1, x, h => by
    have := flS_get l i x (by simpa using h)
    have e : flS (a :: l) = I a.1 :: I a.2 :: flS l := by simp [flS]
    rw [e, show (i + 1) * 2 = i * 2 + 1 + 1 by omega]
    simpa using this
theorem flS_set : ∀ (l : List Sn) (i : Nat) (x : Sn) (s : Int), l[i]? = some x → flS (l.set i (x.1, s)) = (flS l).set (i * 2 + 1) (I s)
  | [], i, x, s, h => by simp at h
  | a :: l, 0, x, s, h => by simp at h; subst h; simp [flS]
  | a :: l, i + 1, x, s, h => by
    have := flS_set l i x s (by simpa using h)
    have e : flS (a :: l) = I a.1 :: I a.2 :: flS l := by simp [flS]
    have e2 : flS ((a :: l).set (i + 1) (x.1, s)) = I a.1 :: I a.2 :: flS (l.set i (x.1, s)) := by simp [flS]
    rw [e2, e, this, show (i + 1) * 2 + 1 = i * 2 + 1 + 1 + 1 by omega]
    simp
abbrev Sr (lo : Nat) (w : World) (v : Value) (l : List Sn) : Prop := Rw lo 91 2 w v l.length (flS l)
theorem sr_at {lo : Nat} {w : World} {v : Value} {l : List Sn} (h : Sr lo w v l) {i : Nat} {x : Sn} (hi : l[i]? = some x) : ∃ g cap, v = .slice (some ⟨g, 0, none⟩) l.length cap ∧ g < w.heap.size ∧ w.cell? ⟨g, i * 2, none⟩ = some (I x.1) ∧ w.cell? ⟨g, i * 2 + 1, none⟩ = some (I x.2) := by
  have hl := (List.getElem?_eq_some_iff.1 hi).1
  obtain ⟨g, cap, e, _, hc, hg⟩ := h.cell (by omega)
  obtain ⟨h1, h2⟩ := flS_get l i x hi
  exact ⟨g, cap, e, hg, by rw [hc _ (by omega)]; exact h1, by rw [hc _ (by omega)]; exact h2⟩
theorem info_Sn : ∃ i, Tryd.prog.info? 91 = some i ∧ i.zero = some (.agg #[I 0, I 0]) ∧ i.size = 2 ∧ i.bytes = 16 := info_parts (by kernel_rfl)
theorem app_Sn (w : World) (lo : Nat) (v : Value) (n : Nat) (xs : List Value) (h : Rw lo 91 2 w v n xs) (a : Addr) (m c : Nat) (news : List Value) (hl : news.length = m * 2) (hn : ∀ (j : Nat) (u : Value), news[j]? = some u → w.cell? (a.add j) = some u) (h1 : ∀ u ∈ news, u.oneCell' = true) (hb : n + m ≤ 17179869184) (hz : lo ≤ w.heap.size) :
    ∃ v' w', (Builtin.append_ #[84, 84] 84 #[v, .slice (some a) m c]).run Tryd.prog w = .ok v' w' ∧ Rw lo 91 2 w' v' (n + m) (xs ++ news) ∧ Chg (fun k => v.ownBlock = some k) w w' ∧ (v'.ownBlock = v.ownBlock ∨ v'.ownBlock = some w.heap.size) := by
  obtain ⟨i0, hi0, hz0, hz1, hz2⟩ := info_Sn
  have hmx : (17179869184 : Nat) ≤ maxLen := of_decide_eq_true (by kernel_rfl)
  obtain ⟨v', w', hr, q2, q3, _, q5⟩ := run_append_own_at (P := Tryd.prog) w lo 84 84 91 i0 _ 2 16 Tryd.underlying84 hi0 hz0 hz1 hz2 rfl (by decide) v n xs h a m c news hl hn h1 (by omega) (by omega) hz
  exact ⟨v', w', hr, q2, ⟨q3.os, q3.tape, q3.output, q3.size, fun k hk hn => q3.block k hk (fun e => hn e.symm)⟩, q5⟩
set_option maxRecDepth 100000 in
set_option maxHeartbeats 2000000 in
theorem settled_any (lo : Nat) (W : World) (v : Value) (l : List Sn) (id : Int) (h : Sr lo W v l) (hb : l.length ≤ 1048576) : Calls Tryd.prog 45 #[v, I id] W fun e W' => e = .returned (.bool (l.any fun p => p.1 == id)) ∧ W' = W := by
  obtain ⟨va, vc, rfl⟩ := Rw.form h
  have H := hide h
  clear h
  go_enter Tryd.func45, Tryd.ntmps45
  go_wp2_with fail
  go_loopw [5] (fun iv wr => ∃ k : Nat, iv = I k ∧ k ≤ l.length ∧ (∀ j x, j < k → l[j]? = some x → x.1 ≠ id) ∧ wr = W) (fun iv _ => l.length - (RowKit.intOf iv).toNat)
  case atStart => exact ⟨0, rfl, Nat.zero_le _, fun j x hj => by omega, rfl⟩
  case round =>
    obtain ⟨k, rfl, hk, hno, rfl⟩ := hrel
    by_cases hkl : k < l.length
    · have hkI : (k : Int) < l.length := by omega
      obtain ⟨x, hx⟩ : ∃ x, l[k]? = some x := ⟨_, List.getElem?_eq_getElem hkl⟩
      obtain ⟨g, cap, he, hg, c1, c2⟩ := sr_at H.out hx
      obtain ⟨rfl, rfl⟩ : va = some ⟨g, 0, none⟩ ∧ vc = cap := by simp at he; exact he
      have HX := hide hx
      have HNO := hide hno
      have HKL := hide hkl
      clear he hx hno hkl
      by_cases e1 : x.1 = id
      · have e1b : (x.1 == id) = true := by simpa using e1
        have HE : Hid (l.any (fun p => p.1 == id) = true) := List.any_eq_true.2 ⟨x, List.mem_of_getElem? HX.out, e1b⟩
        clear e1
        go_wp2_with fail
        go_ret
        exact ⟨by rw [HE.out]; rfl, rfl⟩
      · have e1b : (x.1 == id) = false := beq_eq_false_iff_ne.2 e1
        have hw : wrap64 ((k : Int) + 1) = (k : Int) + 1 := by unfold wrap64; omega
        have HE := hide e1
        clear e1
        go_wp2_with fail
        go_roundw
        case rel =>
          refine ⟨k + 1, by simp, HKL.out, fun j y hj hy => ?_, trivial⟩
          by_cases hjk : j = k
          · subst hjk
            rw [HX.out] at hy
            cases hy
            exact HE.out
          · exact HNO.out j y (by omega) hy
        case measure => simp only [RowKit.intOf]; have := HKL.out; omega
    · have hkI : ¬ ((k : Int) < l.length) := by omega
      have HF : Hid (l.any (fun p => p.1 == id) = false) := by
        show _ = _
        rw [List.any_eq_false]
        intro p hp
        obtain ⟨j, hj, rfl⟩ := List.getElem_of_mem hp
        simpa using hno j _ (by omega) (List.getElem?_eq_getElem hj)
      clear hno hkl
      go_wp2_with fail
      go_ret
      exact ⟨by rw [HF.out]; rfl, rfl⟩
set_option maxRecDepth 100000 in
set_option maxHeartbeats 2000000 in
theorem next_any (lo : Nat) (W : World) (v : Value) (l : List Sn) (h : Sr lo W v l) (hb : l.length ≤ 68719476736) (hne : l ≠ []) : Calls Tryd.prog 47 #[v] W fun e W' => e = .returned (I (nextI l)) ∧ G W W' := by
  obtain ⟨va, vc, rfl⟩ := Rw.form h
  have H := hide h
  have h0 : 0 < l.length := List.length_pos_iff.2 hne
  obtain ⟨R, hR⟩ : ∃ R, R = nextI l := ⟨_, rfl⟩
  rw [← hR]
  have HR := hide hR
  clear h hR
  go_enter Tryd.func47, Tryd.ntmps47
  go_wp2_with fail
  go_loopw [3, 4] (fun kv iv wr => ∃ (k i : Nat), kv = I k ∧ iv = I i ∧ 0 < i ∧ i ≤ l.length ∧ k < l.length ∧ nextFrom l (l.drop i) i k = R ∧ G W wr ∧ Sr lo wr (.slice va l.length vc) l) (fun _ iv _ => l.length - (RowKit.intOf iv).toNat)
  case atStart => exact ⟨0, 1, rfl, rfl, by omega, h0, h0, HR.out.symm, G.refl _, H.out⟩
  case round =>
    obtain ⟨k, i, rfl, rfl, hi0, hi, hk, hn, hg, hsr⟩ := hrel
    by_cases hil : i < l.length
    · have hiI : (i : Int) < l.length := by omega
      have hkI : (k : Int) < l.length := by omega
      obtain ⟨x, hx⟩ : ∃ x, l[i]? = some x := ⟨_, List.getElem?_eq_getElem hil⟩
      obtain ⟨y, hy⟩ : ∃ y, l[k]? = some y := ⟨_, List.getElem?_eq_getElem hk⟩
      obtain ⟨g, cap, he, hgl, c1, c2⟩ := sr_at hsr hx
      obtain ⟨rfl, rfl⟩ : va = some ⟨g, 0, none⟩ ∧ vc = cap := by simp at he; exact he
      obtain ⟨g', cap', he', _, d1, d2⟩ := sr_at hsr hy
      obtain ⟨rfl, rfl⟩ : g = g' ∧ vc = cap' := by simp at he'; exact he'
      have hdrop : l.drop i = x :: l.drop (i + 1) := by
        rw [List.drop_eq_getElem_cons hil]
        congr 1
        have := List.getElem?_eq_getElem hil
        rw [hx] at this
        exact (Option.some.inj this).symm
      have ey : l[k]! = y := by simp [hy]
      rw [hdrop] at hn
      unfold nextFrom at hn
      rw [ey] at hn
      have hw : wrap64 ((i : Int) + 1) = (i : Int) + 1 := by unfold wrap64; omega
      have HN := hide hn
      have HG := hide hg
      have HS := hide hsr
      have HB := hide (And.intro hi0 (And.intro hil hk))
      clear hn hg hsr he he' hdrop ey hx hy hi hi0 hil hk
      by_cases b1 : x.2 < y.2
      · have hb : before x y = true := by rw [before_iff]; exact .inl b1
        go_wp2_with fail
        go_quiet (fail)
        go_wp2_with fail
        go_roundw
        case rel => exact ⟨i, i + 1, by simp, by simp, by omega, HB.out.2.1, HB.out.2.1, by have := HN.out; rw [if_pos hb] at this; exact this, HG.out.trans (g_drewN _ _), HS.out.G (g_drewN _ _)⟩
        case measure => simp only [RowKit.intOf]; have := HB.out; omega
      · have b1d : decide (x.2 < y.2) = false := decide_eq_false b1
        by_cases b2 : x.2 = y.2
        · have b2b : (x.2 == y.2) = true := by simpa using b2
          by_cases b3 : x.1 < y.1
          · have hb : before x y = true := by rw [before_iff]; exact .inr ⟨b2, b3⟩
            have b3d : decide (x.1 < y.1) = true := decide_eq_true b3
            clear b2
            go_wp2_with fail
            go_quiet (fail)
            go_wp2_with fail
            go_roundw
            case rel => exact ⟨i, i + 1, by simp, by simp, by omega, HB.out.2.1, HB.out.2.1, by have := HN.out; rw [if_pos hb] at this; exact this, HG.out.trans (g_drewN _ _), HS.out.G (g_drewN _ _)⟩
            case measure => simp only [RowKit.intOf]; have := HB.out; omega
          · have hb : ¬ (before x y = true) := by rw [before_iff]; omega
            have b3d : decide (x.1 < y.1) = false := decide_eq_false b3
            clear b2
            go_wp2_with fail
            go_quiet (fail)
            go_wp2_with fail
            go_roundw
            case rel => exact ⟨k, i + 1, by simp, by simp, by omega, HB.out.2.1, HB.out.2.2, by have := HN.out; rw [if_neg hb] at this; exact this, HG.out.trans (g_drewN _ _), HS.out.G (g_drewN _ _)⟩
            case measure => simp only [RowKit.intOf]; have := HB.out; omega
        · have b2b : (x.2 == y.2) = false := beq_eq_false_iff_ne.2 b2
          have hb : ¬ (before x y = true) := by rw [before_iff]; omega
          go_wp2_with fail
          go_quiet (fail)
          go_wp2_with fail
          go_roundw
          case rel => exact ⟨k, i + 1, by simp, by simp, by omega, HB.out.2.1, HB.out.2.2, by have := HN.out; rw [if_neg hb] at this; exact this, HG.out.trans (g_drewN _ _), HS.out.G (g_drewN _ _)⟩
          case measure => simp only [RowKit.intOf]; have := HB.out; omega
    · have hiI : ¬ ((i : Int) < l.length) := by omega
      have hdrop : l.drop i = [] := List.drop_eq_nil_of_le (by omega)
      rw [hdrop] at hn
      have HK : Hid (k = R) := hn
      have HG := hide hg
      clear hn hdrop hg hsr
      go_wp2_with fail
      go_ret
      exact ⟨by rw [← HK.out]; rfl, HG.out⟩
set_option maxRecDepth 100000 in
set_option maxHeartbeats 2000000 in
theorem weigh_any (e t w : Int) (hops : Bool) (W : World) : Calls Tryd.prog 44 #[.agg #[I e, I t, I w], .bool hops] W fun r W' => r = .returned (I (wei hops (e, t, w))) ∧ G W W' := by
  cases hops
  all_goals
    go_enter Tryd.func44, Tryd.ntmps44
    go_wp2
    go_ret
    exact ⟨rfl, (G.refl W).alloc _⟩
end Go.Proofs.YtcbjcienjolceaaDoor
