/- Gate: two change places; rise. -/
import Derived.Test.YtmclbnhbioficacGt1
namespace Go.Proofs.Ytmclbnhbioficac
open Go.RowKit

theorem fl_set : ∀ (l : List It) (i : Nat) (x : It), i < l.length → fl (l.set i x) = (((fl l).set (i * 3) (I x.1.1)).set (i * 3 + 1) (I x.1.2)).set (i * 3 + 2) (I x.2)
  | [], i, x, h => by simp at h
  | a :: l, 0, x, h => by simp [fl]
  | a :: l, i + 1, x, h => by
    have := fl_set l i x (by simpa using h)
    have e : fl (a :: l) = I a.1.1 :: I a.1.2 :: I a.2 :: fl l := by simp [fl]
    have e2 : fl ((a :: l).set (i + 1) x) = I a.1.1 :: I a.1.2 :: I a.2 :: fl (l.set i x) := by simp [fl]
    rw [e2, e, this, show (i + 1) * 3 = i * 3 + 1 + 1 + 1 by omega, show i * 3 + 1 + 1 + 1 + 1 = i * 3 + 1 + 1 + 1 + 1 from rfl]
    simp [List.set_cons_succ]
/-- An item is stored at a place. -/
def setIt (w : World) (g i : Nat) (x : It) : World := ((w.setCell ⟨g, i * 3, none⟩ (I x.1.1)).setCell ⟨g, i * 3 + 1, none⟩ (I x.1.2)).setCell ⟨g, i * 3 + 2, none⟩ (I x.2)
theorem blk_it {w : World} {g i : Nat} {l : List It} {rest : List Value} (x : It) (h : Blk w g 78 (fl l ++ rest)) (hi : i < l.length) : Blk (setIt w g i x) g 78 (fl (l.set i x) ++ rest) := by
  have h1 := ((h.set (i * 3) (I x.1.1)).set (i * 3 + 1) (I x.1.2)).set (i * 3 + 2) (I x.2)
  have hl := fl_len l
  rw [fl_set l i x hi, List.set_append_left _ _ (by omega), List.set_append_left _ _ (by simp; omega), List.set_append_left _ _ (by simp; omega)] at *
  exact h1
theorem chg_it (w : World) (g i : Nat) (x : It) : Chg (fun k => k = g) w (setIt w g i x) :=
  Chg.trans (Chg.trans (chg_setCell (F := fun k => k = g) w _ (.inl rfl)) (chg_setCell (F := fun k => k = g) _ _ (.inl rfl))) (chg_setCell (F := fun k => k = g) _ _ (.inl rfl))
theorem setIt_size (w : World) (g i : Nat) (x : It) : (setIt w g i x).heap.size = w.heap.size := by simp [setIt]
theorem blk_at {w : World} {g : Nat} {l : List It} {rest : List Value} (h : Blk w g 78 (fl l ++ rest)) {i : Nat} {x : It} (hi : l[i]? = some x) : w.cell? ⟨g, i * 3, none⟩ = some (I x.1.1) ∧ w.cell? ⟨g, i * 3 + 1, none⟩ = some (I x.1.2) ∧ w.cell? ⟨g, i * 3 + 2, none⟩ = some (I x.2) := by
  have hl := (List.getElem?_eq_some_iff.1 hi).1
  have := fl_get l i x hi
  rw [h.cell, h.cell, h.cell, List.getElem?_append_left (by rw [fl_len]; omega), List.getElem?_append_left (by rw [fl_len]; omega), List.getElem?_append_left (by rw [fl_len]; omega)]
  exact this
theorem HP.open {w : World} {b g n cap : Nat} {x : Gx} {l : List It} (hp : HP w b x (.slice (some ⟨g, 0, none⟩) n cap) l) : n = l.length ∧ ∃ rest, Blk w g 78 (fl l ++ rest) ∧ l.length * 3 + rest.length = cap * 3 ∧ cap ≤ maxLen := by
  rcases hp.sl with ⟨q, _⟩ | ⟨g', cap', rest, q, q2, q3⟩
  · cases q
  · simp only [Value.slice.injEq, Option.some.injEq, Addr.mk.injEq] at q
    obtain ⟨⟨rfl, -, -⟩, rfl, rfl⟩ := q
    exact ⟨rfl, rest, q2, q3⟩
theorem chg_drew {F : Nat → Prop} (w : World) : Chg F w w.drew := ⟨rfl, rfl, rfl, Nat.le_refl _, fun _ _ _ => rfl⟩
/-- Two items change places: what the region asks, and what it leaves. -/
theorem exch {w : World} {b g n cap : Nat} {x : Gx} {l : List It} (a q : Nat) (hp : HP w b x (.slice (some ⟨g, 0, none⟩) n cap) l) (ha : a < l.length) (hq : q < l.length) (hne : q ≠ a) :
    ∃ xk xt xu yk yt yu : Int, (w.cell? ⟨g, a * 3, none⟩ = some (I xk) ∧ w.cell? ⟨g, a * 3 + 1, none⟩ = some (I xt) ∧ w.cell? ⟨g, a * 3 + 2, none⟩ = some (I xu)) ∧
      (w.cell? ⟨g, q * 3, none⟩ = some (I yk) ∧ w.cell? ⟨g, q * 3 + 1, none⟩ = some (I yt) ∧ w.cell? ⟨g, q * 3 + 2, none⟩ = some (I yu)) ∧ (∀ o, w.frozen? ⟨g, o, none⟩ = false) ∧ g ≠ b ∧
      ((setIt w g a ((yk, yt), yu)).cell? ⟨g, q * 3, none⟩ = some (I yk) ∧ (setIt w g a ((yk, yt), yu)).cell? ⟨g, q * 3 + 1, none⟩ = some (I yt) ∧ (setIt w g a ((yk, yt), yu)).cell? ⟨g, q * 3 + 2, none⟩ = some (I yu)) ∧
      HP (setIt (setIt w g a ((yk, yt), yu)) g q ((xk, xt), xu)).drew b x (.slice (some ⟨g, 0, none⟩) n cap) (Hp.sw l a q) ∧ Chg (fun k => k = g) w (setIt (setIt w g a ((yk, yt), yu)) g q ((xk, xt), xu)).drew := by
  obtain ⟨rfl, rest, hb, hr⟩ := hp.open
  obtain ⟨⟨⟨xk, xt⟩, xu⟩, hx⟩ : ∃ x, l[a]? = some x := ⟨_, List.getElem?_eq_getElem ha⟩
  obtain ⟨⟨⟨yk, yt⟩, yu⟩, hy⟩ : ∃ y, l[q]? = some y := ⟨_, List.getElem?_eq_getElem hq⟩
  have hb1 := blk_it ((yk, yt), yu) hb ha
  have hy2 : (l.set a ((yk, yt), yu))[q]? = some ((yk, yt), yu) := by rw [List.getElem?_set_ne (Ne.symm hne)]; exact hy
  have hesw : Hp.sw l a q = (l.set a ((yk, yt), yu)).set q ((xk, xt), xu) := by simp [Hp.sw, hx, hy]
  have hb2 := blk_it ((xk, xt), xu) hb1 (i := q) (by rw [List.length_set]; exact hq)
  rw [← hesw] at hb2
  have hc3 : Chg (fun k => k = g) w (setIt (setIt w g a ((yk, yt), yu)) g q ((xk, xt), xu)).drew := ((chg_it _ _ _ _).trans (chg_it _ _ _ _)).trans (chg_drew _)
  have hgh : g ≠ b := hp.ne rfl
  exact ⟨xk, xt, xu, yk, yt, yu, blk_at hb hx, blk_at hb hy, hb.frozen, hgh, blk_at hb1 hy2, ⟨hp.blk.chg hc3 (fun e => hgh e.symm), .inr ⟨g, cap, rest, by rw [Hp.sw_len], hb2.drew, by rw [Hp.sw_len]; exact hr⟩⟩, hc3⟩
set_option maxRecDepth 100000 in
set_option maxHeartbeats 2000000 in
theorem rise_any (b : Nat) (x : Gx) (v : Value) (l : List It) (i : Nat) (W : World) (hp : HP W b x v l) (hi : i < l.length) (hm : l.length ≤ 1000) :
    Calls Try.prog 52 #[tpt b, I i] W fun e W' => e = .returned (.tuple #[]) ∧ ∃ l', HP W' b x v l' ∧ l'.Perm l ∧ (Hp.RI gr l i → Hp.HI gr l') ∧ (Hp.RS gr l i → Hp.SI gr l' i) ∧ Chg (hpB b v) W W' := by
  obtain ⟨g, cap, rfl⟩ := hp.slice (by omega)
  have HPP := hide hp
  have HI0 := hide hi
  clear hp
  go_enter Try.func52, Try.ntmps52
  go_wp2_with fail
  go_loopw [1] (fun iv wr => ∃ (k : Nat) (l1 : List It), iv = I k ∧ k < l1.length ∧ l1.length = l.length ∧ HP wr b x (.slice (some ⟨g, 0, none⟩) l.length cap) l1 ∧ l1.Perm l ∧ (Hp.RI gr l i → Hp.RI gr l1 k) ∧ (Hp.RS gr l i → (l1 = l ∧ k = i) ∨ Hp.RI gr l1 k) ∧ Chg (hpB b (.slice (some ⟨g, 0, none⟩) l.length cap)) W wr) (fun iv _ => (RowKit.intOf iv).toNat)
  case atStart => exact ⟨i, l, rfl, hi, rfl, HPP.out, List.Perm.refl _, fun q => q, fun _ => .inl ⟨rfl, rfl⟩, Chg.refl _ _⟩
  case round =>
    rename_i wr
    obtain ⟨k, l1, rfl, hk, hll, hp1, hperm, hri, hrs, hch⟩ := hrel
    by_cases k0 : k = 0
    · subst k0
      go_wp2_with fail
      go_end0
      refine ⟨rfl, l1, hp1, hperm, fun q => (hri q).zero, fun q => ?_, hch⟩
      rcases hrs q with ⟨r1, r2⟩ | r
      · subst r1; subst r2; exact q.zero
      · exact (r.zero).si gr_wo i (by rw [hll]; exact HI0.out)
    · obtain ⟨k', rfl⟩ : ∃ k', k = k' + 1 := ⟨k - 1, by omega⟩
      have hpos : ((k' : Int) + 1) > 0 := by omega
      have hw1 : wrap64 (k' : Int) = k' := by unfold wrap64; omega
      have hw2 : wrap64 ((k' : Int) / 2) = ((k' / 2 : Nat) : Int) := by unfold wrap64; omega
      have KA := ah_any b x _ l1 (k' + 1) (k' / 2) wr hp1 hk (by omega)
      have HDV : Hid (((k' : Int) / 2) = ((k' / 2 : Nat) : Int)) := by show _ = _; omega
      have hca : (((k' + 1 : Nat)) : Int) = (k' : Int) + 1 := by omega
      rw [hca] at KA
      obtain ⟨bb, hb⟩ : ∃ bb, gr l1[k' + 1]! l1[k' / 2]! = bb := ⟨_, rfl⟩
      rw [hb] at KA
      have HKA := hide KA
      clear KA
      go_wp2_with fail
      rw [show ((k' : Int) / 2) = ((k' / 2 : Nat) : Int) from HDV.out]
      refine HKA.out.mono ?_
      rintro e w' ⟨rfl, hg'⟩
      have hp2 := hp1.G hg'
      have hch2 : Chg (hpB b (.slice (some ⟨g, 0, none⟩) l.length cap)) W w' := hch.trans hg'.chg
      clear hp1 hch hg'
      cases bb with
      | false =>
        go_wp2
        refine bodyPost_ret (v := .tuple #[]) (by simp [results, Try.results52, go_sem]) rfl ⟨rfl, l1, hp2, hperm, fun q => (hri q).stop hb, fun q => ?_, hch2⟩
        rcases hrs q with ⟨r1, r2⟩ | r
        · subst r1; subst r2; exact q.stop hb
        · exact (r.stop hb).si gr_wo i (by rw [hll]; exact HI0.out)
      | true =>
        have hlq : k' / 2 < l1.length := Nat.lt_of_le_of_lt (Nat.div_le_self _ _) (Nat.lt_of_succ_lt hk)
        have hqk : k' / 2 ≠ k' + 1 := Nat.ne_of_lt (Nat.lt_of_le_of_lt (Nat.div_le_self _ _) (Nat.lt_succ_self _))
        have hc := hp2.cells
        have i1 : (k' : Int) + 1 < l.length := by rw [← hll]; exact_mod_cast hk
        have i2 : ((k' / 2 : Nat) : Int) < l.length := by rw [← hll]; exact_mod_cast hlq
        have hqlt : k' / 2 < k' + 1 := Nat.lt_of_le_of_lt (Nat.div_le_self _ _) (Nat.lt_succ_self _)
        have hstep : Hp.RI gr l i → Hp.RI gr (Hp.sw l1 (k' + 1) (k' / 2)) (k' / 2) := fun r => (hri r).step gr_wo (Nat.succ_pos _) hk hb
        have hstep2 : Hp.RS gr l i → Hp.RI gr (Hp.sw l1 (k' + 1) (k' / 2)) (k' / 2) := fun r => by
          rcases hrs r with ⟨r1, r2⟩ | r3
          · subst r1; subst r2; exact r.step gr_wo (Nat.succ_pos _) hk hb
          · exact r3.step gr_wo (Nat.succ_pos _) hk hb
        generalize k' / 2 = q at hlq hqk i2 hqlt hstep hstep2 ⊢
        obtain ⟨xk, xt, xu, yk, yt, yu, ⟨x1, x2, x3⟩, ⟨y1, y2, y3⟩, hfz, hne, ⟨s0, s1, s2⟩, hnew, hc3⟩ := exch (k' + 1) q hp2 hk hlq hqk
        have HREL : Hid (∃ (k : Nat) (l2 : List It), I q = I k ∧ k < l2.length ∧ l2.length = l.length ∧ HP (setIt (setIt w' g (k' + 1) ((yk, yt), yu)) g q ((xk, xt), xu)).drew b x (.slice (some ⟨g, 0, none⟩) l.length cap) l2 ∧ l2.Perm l ∧ (Hp.RI gr l i → Hp.RI gr l2 k) ∧ (Hp.RS gr l i → (l2 = l ∧ k = i) ∨ Hp.RI gr l2 k) ∧ Chg (hpB b (.slice (some ⟨g, 0, none⟩) l.length cap)) W (setIt (setIt w' g (k' + 1) ((yk, yt), yu)) g q ((xk, xt), xu)).drew) :=
          ⟨q, Hp.sw l1 (k' + 1) q, rfl, by rw [Hp.sw_len]; exact hlq, by rw [Hp.sw_len]; exact hll, hnew, (Hp.sw_perm l1 (k' + 1) q hk hlq).trans hperm, hstep, fun r => .inr (hstep2 r), hch2.trans (hc3.mono (fun k e => .inr (by rw [e]; rfl)))⟩
        have HMS := hide hqlt
        simp only [setIt] at s0 s1 s2
        clear hp2 hnew hch2 hri hrs hperm HPP HKA HI0 HDV hb hm hi hc3 hqk hlq hll hqlt hstep hstep2 hk k0 hw1 hw2 hca
        go_wp2_with fail
        go_region
        go_wp2_with fail
        go_roundw
        case rel => exact HREL.out
        case measure => simp only [RowKit.intOf]; have := HMS.out; omega
end Go.Proofs.Ytmclbnhbioficac
