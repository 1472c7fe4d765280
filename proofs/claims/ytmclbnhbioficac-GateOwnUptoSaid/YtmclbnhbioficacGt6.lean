/- Gate: leave and picked of the turns. -/
import Derived.Test.YtmclbnhbioficacGt4
import Derived.Test.YtmclbnhbioficacGt5
namespace Go.Proofs.Ytmclbnhbioficac
open Go.RowKit

/-- The last one takes the place of one that goes: nobody else goes. -/
theorem gone_perm {β : Type} [Inhabited β] (l : List β) (n k : Nat) (hn : l.length = n + 1) (hk : k ≤ n) : l.Perm (l[k]! :: (l.set k l[n]!).take n) := by
  have hkl : k < l.length := by omega
  obtain ⟨a, y, c, rfl, hla⟩ : ∃ a y c, l = a ++ y :: c ∧ a.length = k := ⟨l.take k, l[k], l.drop (k + 1), by
    rw [List.getElem_cons_drop]; exact (List.take_append_drop k l).symm, by simp; omega⟩
  subst hla
  have e0 : (a ++ y :: c)[a.length]! = y := by simp
  rw [e0]
  have e1 : ∀ z, (a ++ y :: c).set a.length z = a ++ z :: c := fun z => by simp
  rw [e1]
  rcases List.eq_nil_or_concat c with rfl | ⟨u, z, rfl⟩
  · have : n = a.length := by simp at hn; omega
    rw [this, List.take_append_of_le_length (Nat.le_refl _), List.take_of_length_le (Nat.le_refl _)]
    exact List.perm_append_singleton y a
  · simp only [List.concat_eq_append] at hn ⊢
    have hn2 : n = (a ++ y :: u).length := by simp at hn ⊢; omega
    have e2 : (a ++ y :: (u ++ [z]))[n]! = z := by
      rw [hn2, show a ++ y :: (u ++ [z]) = (a ++ y :: u) ++ [z] by simp]
      simp
    rw [e2, show a ++ z :: (u ++ [z]) = (a ++ z :: u) ++ [z] by simp, List.take_append_of_le_length (by simp at hn2 ⊢; omega), List.take_of_length_le (by simp at hn2 ⊢; omega)]
    have h1 : (a ++ y :: (u ++ [z])).Perm (y :: (a ++ (u ++ [z]))) := List.perm_middle
    refine h1.trans (List.Perm.cons _ ?_)
    rw [← List.append_assoc]
    exact (List.perm_append_singleton z (a ++ u)).trans List.perm_middle.symm
theorem set_same {α : Type} {l : List α} {i : Nat} {v : α} (h : l[i]? = some v) : l.set i v = l := by
  apply List.ext_getElem?
  intro j
  by_cases e : j = i
  · subst e; rw [List.getElem?_set_self (List.getElem?_eq_some_iff.1 h).1, h]
  · rw [List.getElem?_set_ne (Ne.symm e)]
/-- The last turn of one alone is stored. -/
theorem HP.last {w : World} {b g n cap : Nat} {x : Gx} {l : List It} (hp : HP w b x (.slice (some ⟨g, 0, none⟩) n cap) l) (i : Nat) (hi : i < l.length) (c : Int) : HP (w.setCell ⟨g, i * 3 + 2, none⟩ (I c)) b x (.slice (some ⟨g, 0, none⟩) n cap) (l.set i (l[i]!.1, c)) ∧ Chg (fun k => k = g) w (w.setCell ⟨g, i * 3 + 2, none⟩ (I c)) := by
  obtain ⟨rfl, rest, hb, hr⟩ := hp.open
  have hgh : g ≠ b := hp.ne rfl
  have hc := chg_setCell (F := fun k => k = g) (b := g) (o := i * 3 + 2) w (I c) (.inl rfl)
  refine ⟨⟨hp.blk.chg hc (fun e => hgh e.symm), .inr ⟨g, cap, rest, by rw [List.length_set], ?_, by rw [List.length_set]; exact hr⟩⟩, hc⟩
  have h1 := hb.set (i * 3 + 2) (I c)
  have hl := fl_len l
  obtain ⟨e1, e2, -⟩ := fl_get l i _ (Hp.get_o hi)
  rw [fl_set l i _ hi, set_same e1, set_same e2]
  rw [List.set_append_left _ _ (by omega)] at h1
  exact h1
theorem HP.put {w : World} {b g n cap : Nat} {x : Gx} {l : List It} (hp : HP w b x (.slice (some ⟨g, 0, none⟩) n cap) l) (i : Nat) (hi : i < l.length) (y : It) : HP (setIt w g i y) b x (.slice (some ⟨g, 0, none⟩) n cap) (l.set i y) ∧ Chg (fun k => k = g) w (setIt w g i y) := by
  obtain ⟨rfl, rest, hb, hr⟩ := hp.open
  have hgh : g ≠ b := hp.ne rfl
  exact ⟨⟨hp.blk.chg (chg_it w g i y) (fun e => hgh e.symm), .inr ⟨g, cap, rest, by rw [List.length_set], blk_it y hb hi, by rw [List.length_set]; exact hr⟩⟩, chg_it w g i y⟩
theorem HP.cut {w : World} {b g cap : Nat} {x : Gx} {l : List It} (hp : HP w b x (.slice (some ⟨g, 0, none⟩) l.length cap) l) (n : Nat) (hn : n ≤ l.length) : HP (w.setCell ⟨b, 9, none⟩ (.slice (some ⟨g, 0, none⟩) n cap)) b x (.slice (some ⟨g, 0, none⟩) n cap) (l.take n) ∧ Chg (fun k => k = b) w (w.setCell ⟨b, 9, none⟩ (.slice (some ⟨g, 0, none⟩) n cap)) := by
  obtain ⟨-, rest, hb, hr, hm⟩ := hp.open
  have hgh : g ≠ b := hp.ne rfl
  refine ⟨⟨hp.blk.set 9 _, .inr ⟨g, cap, fl (l.drop n) ++ rest, by rw [List.length_take, Nat.min_eq_left hn], ?_, ?_, hm⟩⟩, chg_setCell (F := fun k => k = b) _ _ (.inl rfl)⟩
  · have e : fl (l.take n) ++ (fl (l.drop n) ++ rest) = fl l ++ rest := by
      rw [← List.append_assoc]
      congr 1
      have : fl (l.take n) ++ fl (l.drop n) = fl (l.take n ++ l.drop n) := by unfold fl; exact List.flatMap_append.symm
      rw [this, List.take_append_drop]
    rw [e]
    exact hb.off hgh
  · rw [List.length_append, fl_len, List.length_take, List.length_drop, Nat.min_eq_left hn]
    omega
set_option maxRecDepth 100000 in
set_option maxHeartbeats 2000000 in
theorem leave_any (b : Nat) (x : Gx) (v : Value) (l : List It) (id : Int) (k n : Nat) (W : World) (hp : HP W b x v l) (hn : l.length = n + 1) (hk : k ≤ n) (hid : l[k]!.1.1 = id) (hf : ∀ j, j < k → l[j]!.1.1 ≠ id) (hm : l.length ≤ 1000) :
    Calls Try.prog 40 #[tpt b, I id] W fun e W' => e = .returned (.tuple #[]) ∧ ∃ v' l', HP W' b x v' l' ∧ l.Perm (l[k]! :: l') ∧ (Hp.HI gr l → Hp.HI gr l') ∧ Chg (hpB b v) W W' ∧ v'.ownBlock = v.ownBlock := by
  obtain ⟨g, cap, rfl⟩ := hp.slice (by omega)
  have hc := hp.cells
  have HF : Hid (∀ m : Nat, Calls Try.prog 55 #[tpt b, I id] (W.drewN m) fun e W' => e = .returned (I k) ∧ W' = W.drewN m) := fun m => find_any b x (.slice (some ⟨g, 0, none⟩) l.length cap) l id k (W.drewN m) (hp.G ((G.refl W).drewN m)) (by omega) hid hf hm
  have hw1 : wrap64 ((l.length : Int) - 1) = (n : Int) := by unfold wrap64; omega
  have HW1 := hide hw1
  have HPP := hide hp
  have HN := hide hn
  have HK := hide hk
  have HM := hide hm
  clear hp hn hk hid hf hm hw1
  go_enter Try.func40, Try.ntmps40
  go_wp2_with fail
  go_quiet (first | (go_at_call 55; with_reducible refine Calls.quiet_of_same (HF.out _)))
  go_wp2_with fail
  rw [HW1.out]
  generalize hV : World.drewN W _ = V
  have hp : HP V b x (.slice (some ⟨g, 0, none⟩) l.length cap) l := by rw [← hV]; exact HPP.out.G ((G.refl W).drewN _)
  have HGV : Hid (G W V) := by show G W V; rw [← hV]; exact (G.refl W).drewN _
  clear hV HPP HF hc
  have hn := HN.out
  have hk := HK.out
  have hc := hp.cells
  obtain ⟨-, rest, hb, hr, hmx⟩ := hp.open
  have hgz := hb.frozen
  have hgb : g ≠ b := hp.ne rfl
  have i1 : (k : Int) < l.length := by omega
  have i2 : (n : Int) < l.length := by omega
  obtain ⟨yi, ys, yl, hy⟩ : ∃ yi ys yl, l[n]! = ((yi, ys), yl) := ⟨_, _, _, rfl⟩
  obtain ⟨zi, zs, zl, hz⟩ : ∃ zi zs zl, l[k]! = ((zi, zs), zl) := ⟨_, _, _, rfl⟩
  obtain ⟨y1, y2, y3⟩ := hp.at (i := n) (by omega)
  obtain ⟨z1, z2, z3⟩ := hp.at (i := k) (by omega)
  rw [hy] at y1 y2 y3
  rw [hz] at z1 z2 z3
  simp only at y1 y2 y3 z1 z2 z3
  obtain ⟨hp0, hc0⟩ := hp.put k (by omega) l[n]!
  have hp1 := hp0.G (G.refl _).drew
  obtain ⟨hp2, hc2⟩ := (show HP (setIt V g k l[n]!).drew b x (.slice (some ⟨g, 0, none⟩) (l.set k l[n]!).length cap) (l.set k l[n]!) by rw [List.length_set]; exact hp1).cut n (by rw [List.length_set]; omega)
  have HPM := hide (gone_perm l n k hn hk)
  have hc1 := hp1.cells
  have hz1 := hp1.blk.frozen
  have HP2 := hide hp2
  have HCH : Hid (Chg (hpB b (.slice (some ⟨g, 0, none⟩) l.length cap)) W ((setIt V g k l[n]!).drew.setCell ⟨b, 9, none⟩ (.slice (some ⟨g, 0, none⟩) n cap))) := ((HGV.out.chg.trans (hc0.mono (fun c e => .inr (by rw [e]; rfl)))).trans (chg_drew _)).trans (hc2.mono (fun c e => .inl e))
  have HL : Hid (((l.set k l[n]!).take n).length = n) := by show _ = _; simp; omega
  have HHI : Hid (Hp.HI gr l → k < n → Hp.RS gr ((l.set k l[n]!).take n) k) := fun h q => h.gone gr_wo n k hn q
  have HHE : Hid (Hp.HI gr l → k = n → Hp.HI gr ((l.set k l[n]!).take n)) := fun h q => by
    have e : l.set k l[n]! = l := by
      subst q
      apply List.ext_getElem?
      intro j
      by_cases hj : j = k
      · subst hj; rw [List.getElem?_set_self (by omega), Hp.get_o (by omega)]
      · rw [List.getElem?_set_ne (by omega)]
    rw [e]
    exact h.less n (by omega)
  rw [hy] at hc1 hz1 HP2 HCH HHI HHE HL HPM
  have HC1 := hide hc1
  have HZ1 := hide hz1
  clear hp hp0 hp1 hp2 hc0 hc2 hn hk hy hz hb hr hmx hc1 hz1 HGV HW1
  go_wp2_with fail
  go_region
  have hc1 := HC1.out
  have hz1 := HZ1.out
  have HST : Hid (setIt V g k ((yi, ys), yl) = ((V.setCell ⟨g, k * 3, none⟩ (I yi)).setCell ⟨g, k * 3 + 1, none⟩ (I ys)).setCell ⟨g, k * 3 + 2, none⟩ (I yl)) := rfl
  rw [← HST.out]
  clear HST HC1 HZ1 y1 y2 y3 z1 z2 z3 hc hgz
  generalize (setIt V g k ((yi, ys), yl)).drew = w1 at hc1 hz1 HP2 HCH ⊢
  have f1 : ¬ ((cap : Int) < n) := by have := HP2.out.open; have h2 := HL.out; obtain ⟨-, rest, -, h3, -⟩ := this; rw [h2] at h3; omega
  generalize (l.set k ((yi, ys), yl)).take n = l1 at HP2 HL HHI HHE HPM
  have HB : Hid (∀ c, hpB b (.slice (some ⟨g, 0, none⟩) n cap) c → hpB b (.slice (some ⟨g, 0, none⟩) l.length cap) c) := fun c q => q.elim .inl (fun e => .inr e)
  by_cases hkn : k < n
  · have hkn2 : (k : Int) < n := by omega
    go_wp2_with fail
    generalize w1.setCell ⟨b, 9, none⟩ (.slice (some ⟨g, 0, none⟩) n cap) = w2 at HP2 HCH ⊢
    have HRI := hide (rise_any b x (.slice (some ⟨g, 0, none⟩) n cap) l1 k w2 HP2.out (by rw [HL.out]; exact hkn) (by rw [HL.out]; have h1 := HN.out; have h2 := HM.out; omega))
    have HKN := hide hkn
    clear hkn hc1 hz1
    refine HRI.out.mono ?_
    rintro e w3 ⟨rfl, l3, hp3, hperm3, -, hs3, hch3⟩
    have hl3 : l3.length = n := by rw [hperm3.length_eq]; exact HL.out
    have hp3' : HP w3 b x (.slice (some ⟨g, 0, none⟩) l3.length cap) l3 := by rw [hl3]; exact hp3
    have HSI := hide (sink_any b g cap x l3 k w3 hp3' (by rw [hl3]; exact Nat.le_of_lt HKN.out) (by rw [hl3]; have h1 := HN.out; have h2 := HM.out; omega))
    have HS3 := hide hs3
    have HCH3 := hide hch3
    have HPM3 := hide hperm3
    have HL3 := hide hl3
    clear hs3 hch3 hp3 hp3' hperm3 HRI hl3
    go_wp2_with fail
    refine HSI.out.mono ?_
    rintro e w4 ⟨rfl, l4, hp4, hperm4, hs4, hch4⟩
    go_wp2_with fail
    go_end0
    rw [HL3.out] at hp4 hch4
    exact ⟨rfl, _, l4, hp4, HPM.out.trans (List.Perm.cons _ (hperm4.trans HPM3.out).symm), fun q => hs4 (HS3.out (HHI.out q HKN.out)), (HCH.out.trans (HCH3.out.mono HB.out)).trans (hch4.mono HB.out), rfl⟩
  · have hkn2 : ¬ ((k : Int) < n) := by omega
    have HKE : Hid (k = n) := by show _ = _; have := HK.out; omega
    go_wp2_with fail
    go_end0
    exact ⟨rfl, _, l1, HP2.out, by simpa using HPM.out, fun q => HHE.out q HKE.out, HCH.out, rfl⟩
set_option maxRecDepth 100000 in
set_option maxHeartbeats 2000000 in
theorem picked_any (b : Nat) (x : Gx) (v : Value) (l : List It) (id : Int) (k : Nat) (W : World) (hp : HP W b x v l) (hk : k < l.length) (hid : l[k]!.1.1 = id) (hf : ∀ j, j < k → l[j]!.1.1 ≠ id) (hm : l.length ≤ 1000) (hck : x.ck < 4611686018427387904) (hc0 : 0 ≤ x.ck) :
    Calls Try.prog 43 #[tpt b, I id] W fun e W' => e = .returned (.tuple #[]) ∧ ∃ l', HP W' b { x with ck := x.ck + 1 } v l' ∧ l'.Perm (l.set k (l[k]!.1, x.ck + 1)) ∧ (Hp.HI gr l → (∀ y ∈ l, y.2 ≤ x.ck) → Hp.HI gr l') ∧ Chg (hpB b v) W W' := by
  obtain ⟨g, cap, rfl⟩ := hp.slice (by omega)
  have hc := hp.cells
  have hfz := hp.blk.frozen
  have hw1 : wrap64 (x.ck + 1) = x.ck + 1 := by unfold wrap64; omega
  have hp1 : HP (W.setCell ⟨b, 8, none⟩ (I (x.ck + 1))) b { x with ck := x.ck + 1 } (.slice (some ⟨g, 0, none⟩) l.length cap) l := ⟨hp.blk.set 8 _, hp.sl.keep fun c hcb => Below.heap_setCell _ _ _ _ (hp.ne hcb)⟩
  have HP1 := hide hp1
  have HCH : Hid (Chg (hpB b (.slice (some ⟨g, 0, none⟩) l.length cap)) W (W.setCell ⟨b, 8, none⟩ (I (x.ck + 1)))) := chg_setCell (F := hpB b (.slice (some ⟨g, 0, none⟩) l.length cap)) _ _ (.inl (.inl rfl))
  have HK := hide hk
  have HM := hide hm
  have HID := hide hid
  have HF := hide hf
  clear hp hp1 hk hm hid hf hck hc0
  go_enter Try.func43, Try.ntmps43
  go_wp2_with (first | (go_at_call 55; refine Hid.out ?_) | fail)
  unfold Hid
  have KF := find_any b { x with ck := x.ck + 1 } (.slice (some ⟨g, 0, none⟩) l.length cap) l id k _ HP1.out HK.out HID.out HF.out HM.out
  clear hc hfz
  generalize W.setCell ⟨b, 8, none⟩ (I (x.ck + 1)) = w1 at HP1 HCH KF ⊢
  refine KF.mono ?_
  rintro e w2 ⟨rfl, rfl⟩
  clear KF
  have hp := HP1.out
  have hk := HK.out
  have hc : ∀ o, w2.cell? ⟨b, o, none⟩ = ([.int .i32 x.st, .int .u32 0, I x.mo, I x.un, I x.sp, x.vq, x.vi, I x.lg, I (x.ck + 1), (.slice (some ⟨g, 0, none⟩) l.length cap)] : List Value)[o]? := hp.cells
  obtain ⟨-, rest, hb, hr, hmx⟩ := hp.open
  have hgz := hb.frozen
  have hgb : g ≠ b := hp.ne rfl
  have i1 : (k : Int) < l.length := by omega
  obtain ⟨zi, zs, zl, hz⟩ : ∃ zi zs zl, l[k]! = ((zi, zs), zl) := ⟨_, _, _, rfl⟩
  obtain ⟨z1, z2, z3⟩ := hp.at (i := k) (by omega)
  rw [hz] at z1 z2 z3
  simp only at z1 z2 z3
  obtain ⟨hp0, hc0⟩ := hp.last k hk (x.ck + 1)
  have HHI : Hid (Hp.HI gr l → (∀ y ∈ l, y.2 ≤ x.ck) → Hp.SI gr (l.set k (l[k]!.1, x.ck + 1)) k) := fun h q => h.up gr_wo k _ hk (fun j hj hne => by
    have hjm : l[j]! ∈ l := by rw [Hp.get_of hj]; exact List.getElem_mem hj
    have := q _ hjm
    unfold gr
    rw [if_neg (by simp only; omega)]
    exact decide_eq_false (by simp only; omega))
  have HP0 := hide (hp0.G (G.refl _).drew)
  have HC0 : Hid (Chg (hpB b (.slice (some ⟨g, 0, none⟩) l.length cap)) W (w2.setCell ⟨g, k * 3 + 2, none⟩ (I (x.ck + 1))).drew) := (HCH.out.trans (hc0.mono (fun c e => .inr (by rw [e]; rfl)))).trans (chg_drew _)
  clear hp hp0 hc0 hb hr hmx HCH HP1 hz HID HF
  go_wp2_with fail
  go_region
  generalize hl1 : l.set k (l[k]!.1, x.ck + 1) = l1 at HP0 HHI ⊢
  have hll : l1.length = l.length := by rw [← hl1, List.length_set]
  have HLL := hide hll
  have HL1 := hide hl1
  clear z1 z2 z3 hc hgz
  generalize (w2.setCell ⟨g, k * 3 + 2, none⟩ (I (x.ck + 1))).drew = w3 at HP0 HC0 ⊢
  have HSI := hide (sink_any b g cap { x with ck := x.ck + 1 } l1 k w3 (by rw [hll]; exact HP0.out) (by rw [hll]; exact Nat.le_of_lt HK.out) (by rw [hll]; exact HM.out))
  clear hll hl1 hk i1
  go_wp2_with fail
  refine HSI.out.mono ?_
  rintro e w4 ⟨rfl, l4, hp4, hperm4, hs4, hch4⟩
  go_wp2_with fail
  go_end0
  rw [HLL.out] at hp4 hch4
  exact ⟨rfl, l4, hp4, by rw [HL1.out]; exact hperm4, fun q1 q2 => hs4 (HHI.out q1 q2), HC0.out.trans hch4⟩
end Go.Proofs.Ytmclbnhbioficac
