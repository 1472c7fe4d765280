/- Paths: two items change places; rise. -/
import Derived.Test.YtemkilffagjmcaaDoorPi1
import Derived.BigRegion
import Derived.BigQuiet
namespace Go.Proofs.YtemkilffagjmcaaDoor
open Go.RowKit

theorem fl_set : ∀ (l : List It) (i : Nat) (x : It), i < l.length → fl (l.set i x) = ((fl l).set (i * 2) (I x.1)).set (i * 2 + 1) (I x.2)
  | [], i, x, h => by simp at h
  | a :: l, 0, x, h => by simp [fl]
  | a :: l, i + 1, x, h => by
    have := fl_set l i x (by simpa using h)
    have e : fl (a :: l) = I a.1 :: I a.2 :: fl l := by simp [fl]
    have e2 : fl ((a :: l).set (i + 1) x) = I a.1 :: I a.2 :: fl (l.set i x) := by simp [fl]
    rw [e2, e, this, show (i + 1) * 2 = i * 2 + 1 + 1 by omega]
    simp [List.set_cons_succ]
/-- An item is stored at a place. -/
def setIt (w : World) (g i : Nat) (x : It) : World := (w.setCell ⟨g, i * 2, none⟩ (I x.1)).setCell ⟨g, i * 2 + 1, none⟩ (I x.2)
theorem blk_it {w : World} {g i : Nat} {l : List It} {rest : List Value} (x : It) (h : Blk w g 97 (fl l ++ rest)) (hi : i < l.length) : Blk (setIt w g i x) g 97 (fl (l.set i x) ++ rest) := by
  have h1 := (h.set (i * 2) (I x.1)).set (i * 2 + 1) (I x.2)
  have hl := fl_len l
  rw [fl_set l i x hi, List.set_append_left _ _ (by omega), List.set_append_left _ _ (by simp; omega)] at *
  exact h1
theorem chg_it (w : World) (g i : Nat) (x : It) : Chg (fun k => k = g) w (setIt w g i x) :=
  Chg.trans (chg_setCell (F := fun k => k = g) w _ (.inl rfl)) (chg_setCell (F := fun k => k = g) _ _ (.inl rfl))
theorem setIt_size (w : World) (g i : Nat) (x : It) : (setIt w g i x).heap.size = w.heap.size := by simp [setIt]
theorem blk_at {w : World} {g : Nat} {l : List It} {rest : List Value} (h : Blk w g 97 (fl l ++ rest)) {i : Nat} {x : It} (hi : l[i]? = some x) : w.cell? ⟨g, i * 2, none⟩ = some (I x.1) ∧ w.cell? ⟨g, i * 2 + 1, none⟩ = some (I x.2) := by
  have hl := (List.getElem?_eq_some_iff.1 hi).1
  have := fl_get l i x hi
  rw [h.cell, h.cell, List.getElem?_append_left (by rw [fl_len]; omega), List.getElem?_append_left (by rw [fl_len]; omega)]
  exact this
theorem HP.open {w : World} {h g n cap : Nat} {f : Value} {l : List It} {t : Int} (hp : HP w h f (.slice (some ⟨g, 0, none⟩) n cap) l t) : n = l.length ∧ ∃ rest, Blk w g 97 (fl l ++ rest) ∧ l.length * 2 + rest.length = cap * 2 ∧ cap ≤ maxLen := by
  rcases hp.sl with ⟨q, _⟩ | ⟨g', cap', rest, q, q2, q3⟩
  · cases q
  · simp only [Value.slice.injEq, Option.some.injEq, Addr.mk.injEq] at q
    obtain ⟨⟨rfl, -, -⟩, rfl, rfl⟩ := q
    exact ⟨rfl, rest, q2, q3⟩
theorem chg_drew {F : Nat → Prop} (w : World) : Chg F w w.drew := ⟨rfl, rfl, rfl, Nat.le_refl _, fun _ _ _ => rfl⟩
/-- Two items change places: what the region asks, and what it leaves. -/
theorem exch {w : World} {h g n cap : Nat} {f : Value} {l : List It} {t : Int} (a q : Nat) (hp : HP w h f (.slice (some ⟨g, 0, none⟩) n cap) l t) (ha : a < l.length) (hq : q < l.length) (hne : q ≠ a) :
    ∃ xk xu yk yu : Int, (w.cell? ⟨g, a * 2, none⟩ = some (I xk) ∧ w.cell? ⟨g, a * 2 + 1, none⟩ = some (I xu)) ∧
      (w.cell? ⟨g, q * 2, none⟩ = some (I yk) ∧ w.cell? ⟨g, q * 2 + 1, none⟩ = some (I yu)) ∧ (∀ o, w.frozen? ⟨g, o, none⟩ = false) ∧ g ≠ h ∧
      ((setIt w g a (yk, yu)).cell? ⟨g, q * 2, none⟩ = some (I yk) ∧ (setIt w g a (yk, yu)).cell? ⟨g, q * 2 + 1, none⟩ = some (I yu)) ∧
      HP (setIt (setIt w g a (yk, yu)) g q (xk, xu)).drew h f (.slice (some ⟨g, 0, none⟩) n cap) (Hp.sw l a q) t ∧ Chg (fun k => k = g) w (setIt (setIt w g a (yk, yu)) g q (xk, xu)).drew := by
  obtain ⟨rfl, rest, hb, hr⟩ := hp.open
  obtain ⟨⟨xk, xu⟩, hx⟩ : ∃ x, l[a]? = some x := ⟨_, List.getElem?_eq_getElem ha⟩
  obtain ⟨⟨yk, yu⟩, hy⟩ : ∃ y, l[q]? = some y := ⟨_, List.getElem?_eq_getElem hq⟩
  have hb1 := blk_it (yk, yu) hb ha
  have hy2 : (l.set a (yk, yu))[q]? = some (yk, yu) := by rw [List.getElem?_set_ne (Ne.symm hne)]; exact hy
  have hesw : Hp.sw l a q = (l.set a (yk, yu)).set q (xk, xu) := by simp [Hp.sw, hx, hy]
  have hb2 := blk_it (xk, xu) hb1 (i := q) (by rw [List.length_set]; exact hq)
  rw [← hesw] at hb2
  have hc3 : Chg (fun k => k = g) w (setIt (setIt w g a (yk, yu)) g q (xk, xu)).drew := ((chg_it _ _ _ _).trans (chg_it _ _ _ _)).trans (chg_drew _)
  have hgh : g ≠ h := hp.ne rfl
  exact ⟨xk, xu, yk, yu, blk_at hb hx, blk_at hb hy, hb.frozen, hgh, blk_at hb1 hy2, ⟨hp.blk.chg hc3 (fun e => hgh e.symm), .inr ⟨g, cap, rest, by rw [Hp.sw_len], hb2.drew, by rw [Hp.sw_len]; exact hr⟩⟩, hc3⟩
set_option maxRecDepth 100000 in
set_option maxHeartbeats 2000000 in
theorem rise_any (K : World → Prop) (D : Int → Prop) (f : Value) (lt : Int → Int → Bool) (ha : AhOk K D f lt) (h : Nat) (v : Value) (l : List It) (t : Int) (i : Nat) (W : World) (hK : ∀ W', Chg (hpB h v) W W' → K W') (hp : HP W h f v l t) (hD : ∀ x ∈ l, D x.1) (hi : i < l.length) (hm : l.length ≤ maxLen) :
    Calls Tryd.prog 44 #[ptr h, I i] W fun e W' => e = .returned (.tuple #[]) ∧ ∃ l', HP W' h f v l' t ∧ l'.Perm l ∧ (Hp.WO lt → Hp.RI (Hp.ah lt) l i → Hp.HI (Hp.ah lt) l') ∧ Chg (hpB h v) W W' := by
  obtain ⟨g, cap, rfl⟩ : ∃ g cap, v = .slice (some ⟨g, 0, none⟩) l.length cap := by
    rcases hp.sl with ⟨_, rfl⟩ | ⟨g, cap, rest, rfl, _⟩
    · simp at hi
    · exact ⟨g, cap, rfl⟩
  have HA := hide ha
  have HPP := hide hp
  have HKK := hide hK
  have HDD := hide hD
  clear ha hp hK hD
  go_enter Tryd.func44, Tryd.ntmps44
  go_wp2_with fail
  go_loopw [1] (fun iv wr => ∃ (k : Nat) (l1 : List It), iv = I k ∧ k < l1.length ∧ l1.length = l.length ∧ HP wr h f (.slice (some ⟨g, 0, none⟩) l.length cap) l1 t ∧ l1.Perm l ∧ (Hp.WO lt → Hp.RI (Hp.ah lt) l i → Hp.RI (Hp.ah lt) l1 k) ∧ Chg (hpB h (.slice (some ⟨g, 0, none⟩) l.length cap)) W wr) (fun iv _ => (RowKit.intOf iv).toNat)
  case atStart => exact ⟨i, l, rfl, hi, rfl, HPP.out, List.Perm.refl _, fun _ q => q, Chg.refl _ _⟩
  case round =>
    rename_i wr
    obtain ⟨k, l1, rfl, hk, hll, hp1, hperm, hri, hch⟩ := hrel
    by_cases k0 : k = 0
    · subst k0
      go_wp2_with fail
      go_end0
      exact ⟨rfl, l1, hp1, hperm, fun o q => (hri o q).zero, hch⟩
    · obtain ⟨k', rfl⟩ : ∃ k', k = k' + 1 := ⟨k - 1, by omega⟩
      have hpos : ((k' : Int) + 1) > 0 := by omega
      have hmx : maxLen ≤ 9223372036854775807 := of_decide_eq_true (by kernel_rfl)
      have hw1 : wrap64 (k' : Int) = k' := by unfold wrap64; omega
      have hw2 : wrap64 ((k' : Int) / 2) = ((k' / 2 : Nat) : Int) := by unfold wrap64; omega
      have KA := HA.out wr h _ l1 t (k' + 1) (k' / 2) (HKK.out _ hch) hp1 (fun x hx => HDD.out x (hperm.subset hx)) hk (by omega) (by omega)
      have hca : (((k' + 1 : Nat)) : Int) = (k' : Int) + 1 := by omega
      rw [hca] at KA
      obtain ⟨b, hb⟩ : ∃ b, Hp.ah lt l1[k' + 1]! l1[k' / 2]! = b := ⟨_, rfl⟩
      rw [hb] at KA
      have HKA := hide KA
      clear KA hmx
      go_wp2_with fail
      rw [hw2]
      refine HKA.out.mono ?_
      rintro e w' ⟨rfl, hg'⟩
      have hp2 := hp1.G hg'
      have hch2 : Chg (hpB h (.slice (some ⟨g, 0, none⟩) l.length cap)) W w' := hch.trans hg'.chg
      clear hp1 hch hg'
      cases b with
      | false =>
        go_wp2
        refine bodyPost_ret (v := .tuple #[]) (by simp [results, Tryd.results44, go_sem]) rfl ⟨rfl, l1, hp2, hperm, fun o q => (hri o q).stop hb, hch2⟩
      | true =>
        have hlq : k' / 2 < l1.length := Nat.lt_of_le_of_lt (Nat.div_le_self _ _) (Nat.lt_of_succ_lt hk)
        have hqk : k' / 2 ≠ k' + 1 := Nat.ne_of_lt (Nat.lt_of_le_of_lt (Nat.div_le_self _ _) (Nat.lt_succ_self _))
        have hc := hp2.blk.cell
        have i1 : (k' : Int) + 1 < l.length := by rw [← hll]; exact_mod_cast hk
        have i2 : ((k' / 2 : Nat) : Int) < l.length := by rw [← hll]; exact_mod_cast hlq
        have hqlt : k' / 2 < k' + 1 := Nat.lt_of_le_of_lt (Nat.div_le_self _ _) (Nat.lt_succ_self _)
        have hup : (k' + 1 - 1) / 2 = k' / 2 := rfl
        have hstep : Hp.WO lt → Hp.RI (Hp.ah lt) l i → Hp.RI (Hp.ah lt) (Hp.sw l1 (k' + 1) (k' / 2)) (k' / 2) := fun o r => (hri o r).step o.ah (Nat.succ_pos _) hk hb
        generalize k' / 2 = q at hlq hqk i2 hqlt hstep ⊢
        obtain ⟨xk, xu, yk, yu, ⟨x1, x2⟩, ⟨y1, y2⟩, hfz, hne, ⟨s0, s1⟩, hnew, hc3⟩ := exch (k' + 1) q hp2 hk hlq hqk
        have HREL : Hid (∃ (k : Nat) (l2 : List It), I q = I k ∧ k < l2.length ∧ l2.length = l.length ∧ HP (setIt (setIt w' g (k' + 1) (yk, yu)) g q (xk, xu)).drew h f (.slice (some ⟨g, 0, none⟩) l.length cap) l2 t ∧ l2.Perm l ∧ (Hp.WO lt → Hp.RI (Hp.ah lt) l i → Hp.RI (Hp.ah lt) l2 k) ∧ Chg (hpB h (.slice (some ⟨g, 0, none⟩) l.length cap)) W (setIt (setIt w' g (k' + 1) (yk, yu)) g q (xk, xu)).drew) :=
          ⟨q, Hp.sw l1 (k' + 1) q, rfl, by rw [Hp.sw_len]; exact hlq, by rw [Hp.sw_len]; exact hll, hnew, (Hp.sw_perm l1 (k' + 1) q hk hlq).trans hperm, hstep, hch2.trans (hc3.mono (fun k e => .inr (by rw [e]; rfl)))⟩
        have HMS := hide hqlt
        simp only [setIt] at s0 s1
        clear hp2 hnew hch2 hri hperm HPP HKK HDD HA HKA hb hm hi hc3 hqk hlq hll hqlt hstep hup hk k0 hw1 hw2 hca
        go_wp2_with fail
        go_region
        go_wp2_with fail
        go_roundw
        case rel => exact HREL.out
        case measure => simp only [RowKit.intOf]; have := HMS.out; omega
end Go.Proofs.YtemkilffagjmcaaDoor
