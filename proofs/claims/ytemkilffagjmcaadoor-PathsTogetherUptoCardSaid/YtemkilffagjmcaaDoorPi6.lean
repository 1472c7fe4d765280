/- Paths: Pop. -/
import Derived.Test.YtemkilffagjmcaaDoorPi5
namespace Go.Proofs.YtemkilffagjmcaaDoor
open Go.RowKit

theorem fl_append (a b : List It) : fl (a ++ b) = fl a ++ fl b := by simp [fl]
/-- What a Pop leaves ahead of the sinking. -/
theorem pop_mid {w : World} {h g cap : Nat} {f V : Value} {t : Int} {l : List It} {x y : It} {rest : List Value} (hI : Blk w g 97 (fl ((x :: l).set 0 y) ++ rest)) (hH : Blk w h 95 [f, V, I t]) (hgh : g ≠ h) (hr : (x :: l).length * 2 + rest.length = cap * 2 ∧ cap ≤ maxLen) :
    HP ((setIt w g l.length (0, 0)).setCell ⟨h, 1, none⟩ (.slice (some ⟨g, 0, none⟩) l.length cap)) h f (.slice (some ⟨g, 0, none⟩) l.length cap) (((x :: l).set 0 y).take l.length) t := by
  have h1 := (hH.chg (chg_it w g l.length (0, 0)) (fun e => hgh e.symm)).set 1 (.slice (some ⟨g, 0, none⟩) l.length cap)
  have h2 := (blk_it (0, 0) hI (i := l.length) (by simp)).off (b := h) (o := 1) (v := .slice (some ⟨g, 0, none⟩) l.length cap) hgh
  have hlt : (((x :: l).set 0 y).take l.length).length = l.length := by simp
  refine ⟨h1, .inr ⟨g, cap, fl ((((x :: l).set 0 y).set l.length (0, 0)).drop l.length) ++ rest, by rw [hlt], ?_, ?_, hr.2⟩⟩
  · have e : fl (((x :: l).set 0 y).set l.length (0, 0)) = fl (((x :: l).set 0 y).take l.length) ++ fl ((((x :: l).set 0 y).set l.length (0, 0)).drop l.length) := by
      rw [← fl_append]
      congr 1
      conv => lhs; rw [← List.take_append_drop l.length (((x :: l).set 0 y).set l.length (0, 0))]
      congr 1
      rw [List.take_set_of_le (Nat.le_refl _)]
    rw [e, List.append_assoc] at h2
    exact h2
  · rw [hlt, List.length_append, fl_len]
    have h3 := hr.1
    simp at h3 ⊢
    omega
theorem pop_list {x y : It} {l : List It} (hy : (x :: l)[l.length]? = some y) : (((x :: l).set 0 y).take l.length).Perm l ∧ ∀ r : It → It → Bool, Hp.HI r (x :: l) → Hp.SI r (((x :: l).set 0 y).take l.length) 0 := by
  have e : (x :: l)[l.length]! = y := by rw [List.getElem!_eq_getElem?_getD, hy]; rfl
  have h1 := Hp.pop_perm (x :: l) l.length (by simp)
  rw [e] at h1
  refine ⟨(List.Perm.cons_inv (a := x) (by simpa using h1)).symm, fun r hr => ?_⟩
  have := hr.pop l.length (by simp)
  rw [e] at this
  exact this
set_option maxRecDepth 100000 in
set_option maxHeartbeats 2000000 in
theorem pop_none (h : Nat) (f v : Value) (t : Int) (W : World) (hp : HP W h f v [] t) : Calls Tryd.prog 34 #[ptr h] W fun e W' => e = .returned (.tuple #[I 0, .bool false]) ∧ G W W' := by
  have KL := hide (len_any h f v [] t W hp)
  clear hp
  go_enter Tryd.func34, Tryd.ntmps34
  go_wp2_with fail
  refine KL.out.mono ?_
  rintro e w1 ⟨rfl, hg1⟩
  go_wp2_with fail
  go_ret2
  exact ⟨rfl, hg1⟩
set_option maxRecDepth 100000 in
set_option maxHeartbeats 2000000 in
theorem pop_some (K : World → Prop) (D : Int → Prop) (f : Value) (lt : Int → Int → Bool) (ha : AhOk K D f lt) (h : Nat) (v : Value) (x : It) (l : List It) (t : Int) (W : World) (hK : ∀ W', Chg (hpB h v) W W' → K W') (hp : HP W h f v (x :: l) t) (hD : ∀ y ∈ x :: l, D y.1) (hm : l.length < 17179869184) :
    Calls Tryd.prog 34 #[ptr h] W fun e W' => e = .returned (.tuple #[I x.1, .bool true]) ∧ ∃ v' l', HP W' h f v' l' t ∧ l'.Perm l ∧ (Hp.WO lt → Hp.HI (Hp.ah lt) (x :: l) → Hp.HI (Hp.ah lt) l') ∧ Chg (hpB h v) W W' ∧ v'.ownBlock = v.ownBlock := by
  obtain ⟨g, cap, rfl⟩ : ∃ g cap, v = .slice (some ⟨g, 0, none⟩) (l.length + 1) cap := by
    rcases hp.sl with ⟨_, q⟩ | ⟨g, cap, rest, rfl, _⟩
    · cases q
    · exact ⟨g, cap, rfl⟩
  have KL := hide (len_any h f _ (x :: l) t W hp)
  have HPP := hide hp
  have HA := hide ha
  have HKK := hide hK
  have HDD := hide hD
  have hne : ((l.length : Int) + 1 == 0) = false := beq_eq_false_iff_ne.2 (by omega)
  clear hp ha hK hD
  go_enter Tryd.func34, Tryd.ntmps34
  go_wp2_with fail
  refine KL.out.mono ?_
  rintro e w1 ⟨rfl, hg1⟩
  have HP1 := hide (HPP.out.G hg1)
  have HG1 := hide hg1
  clear hg1 KL
  go_wp2_with fail
  obtain ⟨-, rest, hbk, hrl⟩ := HP1.out.open
  obtain ⟨xk, xu⟩ := x
  have hc1 := HP1.out.blk.cell
  obtain ⟨x1, x2⟩ := blk_at hbk (i := 0) (x := (xk, xu)) rfl
  rw [Nat.zero_mul] at x1 x2
  rw [Nat.zero_add] at x2
  have hhl := HP1.out.blk.lt
  have hgl := hbk.lt
  have hw1 : wrap64 (l.length : Int) = l.length := by unfold wrap64; omega
  have HBK := hide hbk
  have HRL := hide hrl
  clear hbk hrl
  go_region
  go_wp2_with fail
  obtain ⟨B, hB⟩ : ∃ B, B = w1.heap.size := ⟨_, rfl⟩
  have HF2 : Hid (Blk (w1.alloc (.cells #[I xk, I xu] 97)).drew B 97 [I xk, I xu]) := by rw [hB]; exact (Blk.new w1 [I xk, I xu] 97).drew
  have HG2 := hide (((G.refl w1).alloc (.cells #[I xk, I xu] 97)).drew)
  rw [← hB]
  generalize (w1.alloc (.cells #[I xk, I xu] 97)).drew = w2 at HF2 HG2 ⊢
  have HGB : Hid (g ≠ B) := fun e => by rw [hB] at e; exact Nat.lt_irrefl _ (e ▸ hgl)
  have HHB : Hid (h ≠ B) := fun e => by rw [hB] at e; exact Nat.lt_irrefl _ (e ▸ hhl)
  have HP2 := hide (HP1.out.G HG2.out)
  have HI2 := hide (HBK.out.G HG2.out)
  have HGH : Hid (g ≠ h) := HP1.out.ne rfl
  clear hB x1 x2 hc1 hhl hgl HP1 HBK
  obtain ⟨⟨yk, yu⟩, hy⟩ : ∃ y, ((xk, xu) :: l)[l.length]? = some y := ⟨_, List.getElem?_eq_getElem (by simp)⟩
  have HY := hide hy
  have hc2 := HP2.out.blk.cell
  obtain ⟨x1, x2⟩ := blk_at HI2.out (i := 0) (x := (xk, xu)) rfl
  rw [Nat.zero_mul] at x1 x2
  rw [Nat.zero_add] at x2
  obtain ⟨y1, y2⟩ := blk_at HI2.out hy
  have hz2 := HI2.out.frozen
  clear hy
  go_region
  have HI3 : Hid (Blk (setIt w2 g 0 (yk, yu)).drew g 97 (fl (((xk, xu) :: l).set 0 (yk, yu)) ++ rest)) := (blk_it (yk, yu) HI2.out (Nat.succ_pos _)).drew
  have HC3 : Hid (Chg (fun k => k = g) w2 (setIt w2 g 0 (yk, yu)).drew) := (chg_it _ _ _ _).trans (chg_drew _)
  generalize hw3 : (setIt w2 g 0 (yk, yu)).drew = w3 at HI3 HC3
  replace hw3 := hw3.symm
  simp only [setIt, Nat.zero_mul, Nat.zero_add] at hw3
  rw [← hw3]
  clear hw3 hc2 x1 x2 y1 y2 hz2
  have HH3 := hide (HP2.out.blk.chg HC3.out (fun e => HGH.out e.symm))
  obtain ⟨⟨zk, zu⟩, hzt⟩ : ∃ z, (((xk, xu) :: l).set 0 (yk, yu))[l.length]? = some z := ⟨_, List.getElem?_eq_getElem (by simp)⟩
  obtain ⟨z1, z2⟩ := blk_at HI3.out hzt
  have hz3 := HI3.out.frozen
  have hc3 := HH3.out.cell
  have hf3 := HH3.out.frozen
  have hgh := HGH.out
  have hhg := Ne.symm HGH.out
  have hcap : ¬ (cap < l.length) := by have := HRL.out.1; simp at this; omega
  clear hzt
  have HM5 := hide (pop_mid HI3.out HH3.out HGH.out HRL.out)
  have HC5 : Hid (Chg (hpB h (.slice (some ⟨g, 0, none⟩) l.length cap)) w2 ((setIt w3 g l.length (0, 0)).setCell ⟨h, 1, none⟩ (.slice (some ⟨g, 0, none⟩) l.length cap))) :=
    ((HC3.out.mono (fun b e => .inr (by rw [e]; rfl))).trans ((chg_it w3 g l.length (0, 0)).mono (fun b e => .inr (by rw [e]; rfl)))).trans (chg_setCell (F := hpB h (.slice (some ⟨g, 0, none⟩) l.length cap)) _ _ (.inl (.inl rfl)))
  have HL : Hid (((((xk, xu) :: l).set 0 (yk, yu)).take l.length).length = l.length) := by show _ = _; simp
  have HWC : Hid (∀ W9, Chg (hpB h (.slice (some ⟨g, 0, none⟩) l.length cap)) ((setIt w3 g l.length (0, 0)).setCell ⟨h, 1, none⟩ (.slice (some ⟨g, 0, none⟩) l.length cap)) W9 → Chg (hpB h (.slice (some ⟨g, 0, none⟩) (l.length + 1) cap)) W W9) := fun W9 q =>
    ((HG1.out.trans HG2.out).chg (F := hpB h (.slice (some ⟨g, 0, none⟩) (l.length + 1) cap))).trans ((HC5.out.trans q).mono (fun b e => e))
  have HPL := hide (pop_list HY.out)
  have hsk := sink_any K D f lt HA.out h g cap (((xk, xu) :: l).set 0 (yk, yu) |>.take l.length) t ((setIt w3 g l.length (0, 0)).setCell ⟨h, 1, none⟩ (.slice (some ⟨g, 0, none⟩) l.length cap)) (by rw [HL.out]; exact fun W9 q => HKK.out W9 (HWC.out W9 q)) (by rw [HL.out]; exact HM5.out) (fun y hy => HDD.out y (List.mem_cons_of_mem _ (HPL.out.1.subset hy))) (by rw [HL.out]; omega)
  rw [HL.out] at hsk
  have HSK := hide hsk
  clear hsk HM5 HI3 HH3 HA HKK HDD
  go_wp2_with fail
  refine HSK.out.mono ?_
  rintro e w6 ⟨rfl, l', hp6, hperm, hhi, hch6⟩
  have HC6 : Hid (Chg (hpB h (.slice (some ⟨g, 0, none⟩) l.length cap)) w2 w6) := HC5.out.trans hch6
  have HNB : Hid (∀ b, b ≠ h → b ≠ g → ¬ hpB h (.slice (some ⟨g, 0, none⟩) l.length cap) b) := fun b n1 n2 q => by
    rcases q with q | q
    · exact n1 q
    · exact n2 (Option.some.inj q).symm
  have HF6 := hide (HF2.out.chg HC6.out (HNB.out B (fun e => HHB.out e.symm) (fun e => HGB.out e.symm)))
  have q1 := HF6.out.cell
  have HEND : Hid (∃ v' l', HP w6 h f v' l' t ∧ l'.Perm l ∧ (Hp.WO lt → Hp.HI (Hp.ah lt) ((xk, xu) :: l) → Hp.HI (Hp.ah lt) l') ∧ Chg (hpB h (.slice (some ⟨g, 0, none⟩) (l.length + 1) cap)) W w6 ∧ v'.ownBlock = (Value.slice (some ⟨g, 0, none⟩) (l.length + 1) cap).ownBlock) :=
    ⟨.slice (some ⟨g, 0, none⟩) l.length cap, l', hp6, hperm.trans HPL.out.1, fun o q => hhi o (HPL.out.2 _ q), HWC.out _ hch6, rfl⟩
  clear hp6 hperm hhi hch6 HSK HC5 HC6 HNB HPL hw1 z1 z2 hz3 hc3 hf3 hcap hgh hhg HPP HY HRL HF2 HP2 HI2 HC3 HWC
  go_wp2_with fail
  go_ret2
  exact ⟨rfl, HEND.out⟩
end Go.Proofs.YtemkilffagjmcaaDoor
