/- Wire: PutReply of the program. -/
import Derived.Test.YtcdjjmjhdoanlaaGreatDoorW60
import Derived.Test.YtcdjjmjhdoanlaaGreatDoorW47
namespace Go.Proofs.YtcdjjmjhdoanlaaGreatDoor
open Go.RowKit

set_option maxRecDepth 100000 in
set_option maxHeartbeats 1000000 in
theorem putN_any (W0 B w : World) (b : Nat) (s : Option (List Nat)) (v : Value) (l : List (Nd)) (h : Wst W0 B w b s) (hv : Row rNd W0 v l) (hq : ∀ x ∈ l, NdW x) (hn : l.length ≤ 140737488351232) (hT : Tabs W0) :
    Calls Tryz.prog 62 #[ptr b, v, .func (.func 63) #[] #[]] w fun e w' => e = .returned (.tuple #[]) ∧ Wst W0 B w' b (wap s (cat (some (cnt l.length)) (catL ndF l))) := by
  obtain ⟨p, cap, rfl⟩ := hv.form
  have KC := hide (count_any W0 B w b s l.length h (by omega))
  have HS := hide hv
  have HQ := hide hq
  have HN := hide hn
  have HhT := hide hT
  clear h hv hq hT
  go_enter Tryz.func62, Tryz.ntmps62
  go_wp2_with fail
  refine KC.out.mono ?_
  rintro e w1 ⟨rfl, h1⟩
  have H1 := hide h1
  clear h1 KC
  go_wp2_with fail
  go_loopw [15] (fun iv wr => ∃ i : Nat, iv = I i ∧ i ≤ l.length ∧ Wst W0 B wr b (wap s (cat (some (cnt l.length)) (catL ndF (l.take i))))) (fun iv _ => l.length - (RowKit.intOf iv).toNat)
  case atStart => exact ⟨0, rfl, Nat.zero_le _, by rw [List.take_zero, catL, cat_nil]; exact H1.out⟩
  case round =>
    obtain ⟨i, rfl, hik, hw⟩ := hrel
    clear H1
    by_cases hil : i < l.length
    · obtain ⟨x, hx⟩ : ∃ x, l[i]? = some x := ⟨_, List.getElem?_eq_getElem hil⟩
      obtain ⟨g, o, cap', q⟩ := HS.out.addr (by omega)
      injection q with q1 q2 q3
      subst q1 q3
      have hrow := HS.out.G hw.g
      have hxq := HQ.out x (List.mem_of_getElem? hx)
      obtain ⟨cs, ⟨vp, hcs, hvp, hlp⟩, hr1⟩ := HS.out.at hx
      subst hcs
      obtain ⟨pp, pc9, rfl⟩ := hvp.form
      have x1 : wr.cell? ⟨g, o + i * 3, none⟩ = some (I x.id) := rangeAt_G hr1 hw.g 0 _ rfl
      have x2 : wr.cell? ⟨g, o + i * 3 + 1, none⟩ = some (.string x.lb) := rangeAt_G hr1 hw.g 1 _ rfl
      have x3 : wr.cell? ⟨g, o + i * 3 + 2, none⟩ = some (.slice pp x.ps.length pc9) := rangeAt_G hr1 hw.g 2 _ rfl
      have i1 : (i : Int) < l.length := Int.ofNat_lt.2 hil
      have HW : Hid (wrap64 ((i : Int) + 1) = (i : Int) + 1) := by show _ = _; have := HN.out; unfold wrap64; omega
      have HIL := hide hil
      have e1 : catL ndF (l.take (i + 1)) = cat (catL ndF (l.take i)) (ndF x) := catL_snoc ndF l i x hx
      obtain ⟨s1, hs1⟩ : ∃ s1, s1 = wap s (cat (some (cnt l.length)) (catL ndF (l.take i))) := ⟨_, rfl⟩
      rw [← hs1] at hw
      cases s1 with
      | none =>
        obtain ⟨l1, hw1⟩ := hw
        obtain ⟨_, _, _, ⟨v1, hB, _, _⟩, _⟩ := id hw1
        have hA9 := (G.refl wr).alloc (.cells #[I x.id, .string x.lb, .slice pp x.ps.length pc9] 114)
        have hc := (hB.G hA9).cell
        have HF : Hid (Wst W0 B (wr.alloc (.cells #[I x.id, .string x.lb, .slice pp x.ps.length pc9] 114)) b (wap s (cat (some (cnt l.length)) (catL ndF l)))) := by
          show Wst _ _ _ _ _
          rw [wap_rest s ndF (cnt l.length) l i, ← hs1]
          exact ⟨l1, hw1.G hA9⟩
        clear hw1 hB hik hil hx q2 e1 hs1 hxq hrow hA9 hr1 hvp hlp
        go_wp2_with fail
        exact ⟨rfl, _, results_none rfl _ _ _, rfl, HF.out⟩
      | some l1 =>
        obtain ⟨_, _, _, ⟨v1, hB, _, _⟩, _⟩ := id hw
        have hA9 := (G.refl wr).alloc (.cells #[I x.id, .string x.lb, .slice pp x.ps.length pc9] 114)
        have hc := (hB.G hA9).cell
        have KP := hide (node_any W0 B _ b (some l1) x _ hvp (hw.G hA9) hxq HhT.out)
        have HE : Hid (wap s (cat (some (cnt l.length)) (catL ndF (l.take (i + 1)))) = wap (some l1) (ndF x)) := by show _ = _; rw [e1, hs1, wap_cat, cat_assoc]
        clear hw hB hik hil hx q2 e1 hs1 hxq hrow hA9 hr1 hvp hlp
        go_wp2_with fail
        refine KP.out.mono ?_
        rintro e w3 ⟨rfl, hw3⟩
        have hw4 : Wst W0 B w3 b (wap (some l1) (ndF x)) := hw3
        rw [← HE.out] at hw4
        have HW3 := hide hw4
        clear hw3 hw4 KP
        go_wp2_with fail
        try rw [HW.out]
        refine ⟨⟨i + 1, rfl, HIL.out, HW3.out⟩, ?_⟩
        simp only [RowKit.intOf]; have := HIL.out; omega
    · have i1 : ¬ ((i : Int) < l.length) := by omega
      have e1 : l.take i = l := List.take_of_length_le (by omega)
      rw [e1] at hw
      have HW := hide hw
      clear hik hil hw e1
      go_wp2_with fail
      exact ⟨rfl, _, results_none rfl _ _ _, rfl, HW.out⟩
set_option maxRecDepth 100000 in
set_option maxHeartbeats 1000000 in
theorem putE_any (W0 B w : World) (b : Nat) (s : Option (List Nat)) (v : Value) (l : List (Ed)) (h : Wst W0 B w b s) (hv : Row rEd W0 v l) (hq : ∀ x ∈ l, EdW x) (hn : l.length ≤ 140737488351232) (hT : Tabs W0) :
    Calls Tryz.prog 64 #[ptr b, v, .func (.func 65) #[] #[]] w fun e w' => e = .returned (.tuple #[]) ∧ Wst W0 B w' b (wap s (cat (some (cnt l.length)) (catL edF l))) := by
  obtain ⟨p, cap, rfl⟩ := hv.form
  have KC := hide (count_any W0 B w b s l.length h (by omega))
  have HS := hide hv
  have HQ := hide hq
  have HN := hide hn
  have HhT := hide hT
  clear h hv hq hT
  go_enter Tryz.func64, Tryz.ntmps64
  go_wp2_with fail
  refine KC.out.mono ?_
  rintro e w1 ⟨rfl, h1⟩
  have H1 := hide h1
  clear h1 KC
  go_wp2_with fail
  go_loopw [15] (fun iv wr => ∃ i : Nat, iv = I i ∧ i ≤ l.length ∧ Wst W0 B wr b (wap s (cat (some (cnt l.length)) (catL edF (l.take i))))) (fun iv _ => l.length - (RowKit.intOf iv).toNat)
  case atStart => exact ⟨0, rfl, Nat.zero_le _, by rw [List.take_zero, catL, cat_nil]; exact H1.out⟩
  case round =>
    obtain ⟨i, rfl, hik, hw⟩ := hrel
    clear H1
    by_cases hil : i < l.length
    · obtain ⟨x, hx⟩ : ∃ x, l[i]? = some x := ⟨_, List.getElem?_eq_getElem hil⟩
      obtain ⟨g, o, cap', q⟩ := HS.out.addr (by omega)
      injection q with q1 q2 q3
      subst q1 q3
      have hrow := HS.out.G hw.g
      have hxq := HQ.out x (List.mem_of_getElem? hx)
      obtain ⟨cs, ⟨vp, hcs, hvp, hlp⟩, hr1⟩ := HS.out.at hx
      subst hcs
      obtain ⟨pp, pc9, rfl⟩ := hvp.form
      have x1 : wr.cell? ⟨g, o + i * 5, none⟩ = some (I x.id) := rangeAt_G hr1 hw.g 0 _ rfl
      have x2 : wr.cell? ⟨g, o + i * 5 + 1, none⟩ = some (.string x.ty) := rangeAt_G hr1 hw.g 1 _ rfl
      have x3 : wr.cell? ⟨g, o + i * 5 + 2, none⟩ = some (I x.fr) := rangeAt_G hr1 hw.g 2 _ rfl
      have x4 : wr.cell? ⟨g, o + i * 5 + 3, none⟩ = some (I x.dst) := rangeAt_G hr1 hw.g 3 _ rfl
      have x5 : wr.cell? ⟨g, o + i * 5 + 4, none⟩ = some (.slice pp x.ps.length pc9) := rangeAt_G hr1 hw.g 4 _ rfl
      have i1 : (i : Int) < l.length := Int.ofNat_lt.2 hil
      have HW : Hid (wrap64 ((i : Int) + 1) = (i : Int) + 1) := by show _ = _; have := HN.out; unfold wrap64; omega
      have HIL := hide hil
      have e1 : catL edF (l.take (i + 1)) = cat (catL edF (l.take i)) (edF x) := catL_snoc edF l i x hx
      obtain ⟨s1, hs1⟩ : ∃ s1, s1 = wap s (cat (some (cnt l.length)) (catL edF (l.take i))) := ⟨_, rfl⟩
      rw [← hs1] at hw
      cases s1 with
      | none =>
        obtain ⟨l1, hw1⟩ := hw
        obtain ⟨_, _, _, ⟨v1, hB, _, _⟩, _⟩ := id hw1
        have hA9 := (G.refl wr).alloc (.cells #[I x.id, .string x.ty, I x.fr, I x.dst, .slice pp x.ps.length pc9] 119)
        have hc := (hB.G hA9).cell
        have HF : Hid (Wst W0 B (wr.alloc (.cells #[I x.id, .string x.ty, I x.fr, I x.dst, .slice pp x.ps.length pc9] 119)) b (wap s (cat (some (cnt l.length)) (catL edF l)))) := by
          show Wst _ _ _ _ _
          rw [wap_rest s edF (cnt l.length) l i, ← hs1]
          exact ⟨l1, hw1.G hA9⟩
        clear hw1 hB hik hil hx q2 e1 hs1 hxq hrow hA9 hr1 hvp hlp
        go_wp2_with fail
        exact ⟨rfl, _, results_none rfl _ _ _, rfl, HF.out⟩
      | some l1 =>
        obtain ⟨_, _, _, ⟨v1, hB, _, _⟩, _⟩ := id hw
        have hA9 := (G.refl wr).alloc (.cells #[I x.id, .string x.ty, I x.fr, I x.dst, .slice pp x.ps.length pc9] 119)
        have hc := (hB.G hA9).cell
        have KP := hide (edge_any W0 B _ b (some l1) x _ hvp (hw.G hA9) hxq HhT.out)
        have HE : Hid (wap s (cat (some (cnt l.length)) (catL edF (l.take (i + 1)))) = wap (some l1) (edF x)) := by show _ = _; rw [e1, hs1, wap_cat, cat_assoc]
        clear hw hB hik hil hx q2 e1 hs1 hxq hrow hA9 hr1 hvp hlp
        go_wp2_with fail
        refine KP.out.mono ?_
        rintro e w3 ⟨rfl, hw3⟩
        have hw4 : Wst W0 B w3 b (wap (some l1) (edF x)) := hw3
        rw [← HE.out] at hw4
        have HW3 := hide hw4
        clear hw3 hw4 KP
        go_wp2_with fail
        try rw [HW.out]
        refine ⟨⟨i + 1, rfl, HIL.out, HW3.out⟩, ?_⟩
        simp only [RowKit.intOf]; have := HIL.out; omega
    · have i1 : ¬ ((i : Int) < l.length) := by omega
      have e1 : l.take i = l := List.take_of_length_le (by omega)
      rw [e1] at hw
      have HW := hide hw
      clear hik hil hw e1
      go_wp2_with fail
      exact ⟨rfl, _, results_none rfl _ _ _, rfl, HW.out⟩
set_option maxRecDepth 100000 in
set_option maxHeartbeats 1000000 in
theorem putT_any (W0 B w : World) (b : Nat) (s : Option (List Nat)) (v : Value) (l : List (Tb)) (h : Wst W0 B w b s) (hv : Row rTb W0 v l) (hq : ∀ x ∈ l, TbW x) (hn : l.length ≤ 140737488351232) (hT : Tabs W0) :
    Calls Tryz.prog 60 #[ptr b, v, .func (.func 61) #[] #[]] w fun e w' => e = .returned (.tuple #[]) ∧ Wst W0 B w' b (wap s (cat (some (cnt l.length)) (catL tbF l))) := by
  obtain ⟨p, cap, rfl⟩ := hv.form
  have KC := hide (count_any W0 B w b s l.length h (by omega))
  have HS := hide hv
  have HQ := hide hq
  have HN := hide hn
  have HhT := hide hT
  clear h hv hq hT
  go_enter Tryz.func60, Tryz.ntmps60
  go_wp2_with fail
  refine KC.out.mono ?_
  rintro e w1 ⟨rfl, h1⟩
  have H1 := hide h1
  clear h1 KC
  go_wp2_with fail
  go_loopw [15] (fun iv wr => ∃ i : Nat, iv = I i ∧ i ≤ l.length ∧ Wst W0 B wr b (wap s (cat (some (cnt l.length)) (catL tbF (l.take i))))) (fun iv _ => l.length - (RowKit.intOf iv).toNat)
  case atStart => exact ⟨0, rfl, Nat.zero_le _, by rw [List.take_zero, catL, cat_nil]; exact H1.out⟩
  case round =>
    obtain ⟨i, rfl, hik, hw⟩ := hrel
    clear H1
    by_cases hil : i < l.length
    · obtain ⟨x, hx⟩ : ∃ x, l[i]? = some x := ⟨_, List.getElem?_eq_getElem hil⟩
      obtain ⟨g, o, cap', q⟩ := HS.out.addr (by omega)
      injection q with q1 q2 q3
      subst q1 q3
      have hrow := HS.out.G hw.g
      have hxq := HQ.out x (List.mem_of_getElem? hx)
      obtain ⟨cs, ⟨vu, vv, hcs, hvu, hvv, hlu, hlv⟩, hr1⟩ := HS.out.at hx
      subst hcs
      obtain ⟨ca, cc, rfl⟩ := hvu.form
      obtain ⟨ra, rc, rfl⟩ := hvv.form
      have x1 : wr.cell? ⟨g, o + i * 5, none⟩ = some (.slice ca x.cols.length cc) := rangeAt_G hr1 hw.g 0 _ rfl
      have x2 : wr.cell? ⟨g, o + i * 5 + 1, none⟩ = some (.slice ra x.rows.length rc) := rangeAt_G hr1 hw.g 1 _ rfl
      have x3 : wr.cell? ⟨g, o + i * 5 + 2, none⟩ = some (I x.made) := rangeAt_G hr1 hw.g 2 _ rfl
      have x4 : wr.cell? ⟨g, o + i * 5 + 3, none⟩ = some (I x.gone) := rangeAt_G hr1 hw.g 3 _ rfl
      have x5 : wr.cell? ⟨g, o + i * 5 + 4, none⟩ = some (I x.set) := rangeAt_G hr1 hw.g 4 _ rfl
      have i1 : (i : Int) < l.length := Int.ofNat_lt.2 hil
      have HW : Hid (wrap64 ((i : Int) + 1) = (i : Int) + 1) := by show _ = _; have := HN.out; unfold wrap64; omega
      have HIL := hide hil
      have e1 : catL tbF (l.take (i + 1)) = cat (catL tbF (l.take i)) (tbF x) := catL_snoc tbF l i x hx
      obtain ⟨s1, hs1⟩ : ∃ s1, s1 = wap s (cat (some (cnt l.length)) (catL tbF (l.take i))) := ⟨_, rfl⟩
      rw [← hs1] at hw
      cases s1 with
      | none =>
        obtain ⟨l1, hw1⟩ := hw
        obtain ⟨_, _, _, ⟨v1, hB, _, _⟩, _⟩ := id hw1
        have hA9 := (G.refl wr).alloc (.cells #[.slice ca x.cols.length cc, .slice ra x.rows.length rc, I x.made, I x.gone, I x.set] 74)
        have hc := (hB.G hA9).cell
        have HF : Hid (Wst W0 B (wr.alloc (.cells #[.slice ca x.cols.length cc, .slice ra x.rows.length rc, I x.made, I x.gone, I x.set] 74)) b (wap s (cat (some (cnt l.length)) (catL tbF l)))) := by
          show Wst _ _ _ _ _
          rw [wap_rest s tbF (cnt l.length) l i, ← hs1]
          exact ⟨l1, hw1.G hA9⟩
        clear hw1 hB hik hil hx q2 e1 hs1 hxq hrow hA9 hr1 hvu hvv hlu hlv
        go_wp2_with fail
        exact ⟨rfl, _, results_none rfl _ _ _, rfl, HF.out⟩
      | some l1 =>
        obtain ⟨_, _, _, ⟨v1, hB, _, _⟩, _⟩ := id hw
        have hA9 := (G.refl wr).alloc (.cells #[.slice ca x.cols.length cc, .slice ra x.rows.length rc, I x.made, I x.gone, I x.set] 74)
        have hc := (hB.G hA9).cell
        have KP := hide (table_any W0 B _ b (some l1) x _ _ hvu hvv (hw.G hA9) hxq HhT.out)
        have HE : Hid (wap s (cat (some (cnt l.length)) (catL tbF (l.take (i + 1)))) = wap (some l1) (tbF x)) := by show _ = _; rw [e1, hs1, wap_cat, cat_assoc]
        clear hw hB hik hil hx q2 e1 hs1 hxq hrow hA9 hr1 hvu hvv hlu hlv
        go_wp2_with fail
        refine KP.out.mono ?_
        rintro e w3 ⟨rfl, hw3⟩
        have hw4 : Wst W0 B w3 b (wap (some l1) (tbF x)) := hw3
        rw [← HE.out] at hw4
        have HW3 := hide hw4
        clear hw3 hw4 KP
        go_wp2_with fail
        try rw [HW.out]
        refine ⟨⟨i + 1, rfl, HIL.out, HW3.out⟩, ?_⟩
        simp only [RowKit.intOf]; have := HIL.out; omega
    · have i1 : ¬ ((i : Int) < l.length) := by omega
      have e1 : l.take i = l := List.take_of_length_le (by omega)
      rw [e1] at hw
      have HW := hide hw
      clear hik hil hw e1
      go_wp2_with fail
      exact ⟨rfl, _, results_none rfl _ _ _, rfl, HW.out⟩
set_option maxRecDepth 100000 in
set_option maxHeartbeats 1000000 in
theorem reply_any (W0 B w : World) (b : Nat) (s : Option (List Nat)) (q : Rp) (va vb vc vd ve : Value) (hv : RpL W0 va vb vc vd ve q) (h : Wst W0 B w b s) (hx : RpW q) (hT : Tabs W0) :
    Calls Tryz.prog 28 #[ptr b, .agg #[I q.dst, I q.code, va, vb, vc, vd, ve]] w fun e w' => e = .returned (.tuple #[]) ∧ Wst W0 B w' b (wap s (rpF q)) := by
  have KPS := hv
  obtain ⟨na, nc, rfl⟩ := hv.nums.form
  obtain ⟨ta, tc, rfl⟩ := hv.texts.form
  obtain ⟨ba, bc, rfl⟩ := hv.tables.form
  obtain ⟨da, dc, rfl⟩ := hv.nodes.form
  obtain ⟨ea, ec, rfl⟩ := hv.edges.form
  have KPV := hide KPS
  clear hv KPS
  have hA := (G.refl w).alloc (.cells #[I q.dst, I q.code, .slice na q.nums.length nc, .slice ta q.texts.length tc, .slice ba q.tables.length bc, .slice da q.nodes.length dc, .slice ea q.edges.length ec] 41)
  have hB := Blk.new w [I q.dst, I q.code, .slice na q.nums.length nc, .slice ta q.texts.length tc, .slice ba q.tables.length bc, .slice da q.nodes.length dc, .slice ea q.edges.length ec] 41
  have hh := (h.G hA).rebase
  have HKP := hide hh.2
  have HB := hide hB
  have Hhx := hide hx
  have HhT := hide hT
  have K1 := hide (number_any W0 _ _ b _ q.code hh.1 Hhx.out.c)
  have hc := hB.cell
  clear h hB hA hh hx hT
  go_enter Tryz.func28, Tryz.ntmps28
  go_wp2_with fail
  generalize w.alloc (.cells #[I q.dst, I q.code, .slice na q.nums.length nc, .slice ta q.texts.length tc, .slice ba q.tables.length bc, .slice da q.nodes.length dc, .slice ea q.edges.length ec] 41) = wA at HB HKP K1 hc ⊢
  refine K1.out.mono ?_
  rintro e w1 ⟨rfl, hw1⟩
  have hb1 := hw1.k.blk HB.out (by decide) (by decide)
  have K2 := hide (putI_any W0 _ w1 b _ _ q.nums hw1 KPV.out.nums Hhx.out.n.2 Hhx.out.n.1)
  have hc1 := hb1.cell
  clear hw1 hb1 K1 hc
  go_wp2_with fail
  refine K2.out.mono ?_
  rintro e w2 ⟨rfl, hw2⟩
  have hb2 := hw2.k.blk HB.out (by decide) (by decide)
  have K3 := hide (putS_any W0 _ w2 b _ _ q.texts hw2 KPV.out.texts Hhx.out.t.2 Hhx.out.t.1)
  have hc2 := hb2.cell
  clear hw2 hb2 K2 hc1
  go_wp2_with fail
  refine K3.out.mono ?_
  rintro e w3 ⟨rfl, hw3⟩
  have hb3 := hw3.k.blk HB.out (by decide) (by decide)
  have K4 := hide (putT_any W0 _ w3 b _ _ q.tables hw3 KPV.out.tables Hhx.out.b.2 Hhx.out.b.1 HhT.out)
  have hc3 := hb3.cell
  clear hw3 hb3 K3 hc2
  go_wp2_with fail
  refine K4.out.mono ?_
  rintro e w4 ⟨rfl, hw4⟩
  have hb4 := hw4.k.blk HB.out (by decide) (by decide)
  have K5 := hide (putN_any W0 _ w4 b _ _ q.nodes hw4 KPV.out.nodes Hhx.out.d.2 Hhx.out.d.1 HhT.out)
  have hc4 := hb4.cell
  clear hw4 hb4 K4 hc3
  go_wp2_with fail
  refine K5.out.mono ?_
  rintro e w5 ⟨rfl, hw5⟩
  have hb5 := hw5.k.blk HB.out (by decide) (by decide)
  have K6 := hide (putE_any W0 _ w5 b _ _ q.edges hw5 KPV.out.edges Hhx.out.e.2 Hhx.out.e.1 HhT.out)
  have hc5 := hb5.cell
  clear hw5 hb5 K5 hc4
  go_wp2_with fail
  refine K6.out.mono ?_
  rintro e w6 ⟨rfl, hw6⟩
  rw [wap_cat] at hw6
  rw [wap_cat] at hw6
  rw [wap_cat] at hw6
  rw [wap_cat] at hw6
  rw [wap_cat] at hw6
  have HF : Hid (Wst W0 B w6 b (wap s (rpF q))) := hw6.base HKP.out
  clear hw6 K6
  go_wp2_with fail
  exact ⟨rfl, _, results_none rfl _ _ _, rfl, HF.out⟩
/-- Bytes, if any. -/
def ByO (o : Option (List Nat)) : Prop := ∀ l, o = some l → By l
theorem ByO.cat {a b : Option (List Nat)} (h : ByO a) (k : ByO b) : ByO (cat a b) := fun l e => by
  cases a with
  | none => cases e
  | some x =>
    cases b with
    | none => cases e
    | some y => cases e; exact (h x rfl).app (k y rfl)
theorem ByO.catL {α : Type} {f : α → Option (List Nat)} : ∀ {l : List α}, (∀ x ∈ l, ByO (f x)) → ByO (catL f l)
  | [], _ => fun l e => by cases e; intro x hx; cases hx
  | x :: l, h => ByO.cat (h x (by simp)) (ByO.catL (fun y hy => h y (by simp [hy])))
theorem ByO.num (n : Int) : ByO (numF n) := fun l e => by cases e; exact cnt_by _
theorem ByO.txt (t : ByteArray) : ByO (txtF t) := fun l e => by cases e; exact (cnt_by _).app (bys_by _)
theorem ByO.lst {α : Type} {f : α → Option (List Nat)} {l : List α} (h : ∀ x ∈ l, ByO (f x)) : ByO (lstF f l) := ByO.cat (fun l e => by cases e; exact cnt_by _) (ByO.catL h)
theorem ByO.val (x : Vl) : ByO (valF x) := fun l e => by
  unfold valF at e
  split at e
  · rename_i ok
    obtain ⟨k0, k6, k1⟩ := ok_kind ok
    cases e
    intro y hy
    rcases List.mem_cons.1 hy with rfl | hy
    · omega
    · unfold valR at hy
      split at hy
      · rename_i h1
        have := k1 h1
        simp at hy
        omega
      split at hy
      · exact cnt_by _ y hy
      split at hy
      · rcases List.mem_append.1 hy with h | h
        · exact cnt_by _ y h
        · exact cnt_by _ y h
      split at hy
      · exact ((cnt_by _).app (bys_by _)) y hy
      · cases hy
  · cases e
theorem ByO.pr (p : Pr) : ByO (prF p) := ByO.cat (ByO.txt _) (ByO.val _)
theorem ByO.nd (n : Nd) : ByO (ndF n) := ByO.cat (ByO.num _) (ByO.cat (ByO.txt _) (ByO.lst fun p _ => ByO.pr p))
theorem ByO.ed (n : Ed) : ByO (edF n) := ByO.cat (ByO.num _) (ByO.cat (ByO.txt _) (ByO.cat (ByO.num _) (ByO.cat (ByO.num _) (ByO.lst fun p _ => ByO.pr p))))
theorem ByO.tb (t : Tb) : ByO (tbF t) := ByO.cat (ByO.lst fun c _ => ByO.txt c) (ByO.cat (ByO.lst fun _ _ => ByO.lst fun v _ => ByO.val v) (ByO.cat (ByO.num _) (ByO.cat (ByO.num _) (ByO.num _))))
theorem ByO.rp (q : Rp) : ByO (rpF q) := ByO.cat (ByO.num _) (ByO.cat (ByO.lst fun c _ => ByO.num c) (ByO.cat (ByO.lst fun c _ => ByO.txt c) (ByO.cat (ByO.lst fun c _ => ByO.tb c) (ByO.cat (ByO.lst fun c _ => ByO.nd c) (ByO.lst fun c _ => ByO.ed c)))))
/-- What PutReply answers. -/
def Rp.code9 (q : Rp) : Nat := if ¬ (0 ≤ q.dst ∧ q.dst ≤ 12) then 162 else if ¬ q.nums.length ≤ 4096 then 163 else match rpF q with | none => 163 | some l => if 2097152 < l.length then 163 else 0
def Rp.frame9 (q : Rp) : List Nat := if q.code9 = 0 then frB (128 + q.dst).toNat ((rpF q).getD []) else []
def PuP (q : Rp) (W : World) (e : Ending) (W' : World) : Prop := ∃ v', e = .returned (.tuple #[v', I q.code9]) ∧ SwB W' v' q.frame9 ∧ G W W' ∧ Fresh W v'
theorem PuP.bad (q : Rp) (W W' : World) (c : Nat) (h : q.code9 = c) (hc : c ≠ 0) (g : G W W') : PuP q W (.returned (.tuple #[.slice none 0 0, I c])) W' :=
  ⟨_, by rw [h], by rw [Rp.frame9, h, if_neg hc]; exact Sw.nil _ _ _, g, Fresh.nil _⟩
theorem frC_in9 (k : Int) (n : Nat) (h : 0 ≤ k ∧ k ≤ 12) : frC (128 + k) n = if 2097152 < n then 163 else 0 := by unfold frC; rw [if_neg (by omega)]
set_option maxRecDepth 100000 in
set_option maxHeartbeats 1000000 in
theorem rmayn_any (w : World) (k cd : Int) (na : Option Addr) (m nc : Nat) (ta : Option Addr) (tn tc : Nat) (ba : Option Addr) (bn bc : Nat) (da : Option Addr) (dn dc : Nat) (ea : Option Addr) (en ec : Nat) : Calls Tryz.prog 27 #[.agg #[I k, I cd, .slice na m nc, .slice ta tn tc, .slice ba bn bc, .slice da dn dc, .slice ea en ec]] w fun e w' => e = .returned (.bool (decide (m ≤ 4096))) ∧ G w w' := by
  by_cases c : m ≤ 4096
  · have i1 : (m : Int) ≤ 4096 := by omega
    rw [decide_eq_true c]
    go_enter Tryz.func27, Tryz.ntmps27
    go_wp2_with fail
    go_ret
    exact ⟨rfl, (G.refl _).alloc _⟩
  · have i1 : ¬ (m : Int) ≤ 4096 := by omega
    rw [decide_eq_false c]
    go_enter Tryz.func27, Tryz.ntmps27
    go_wp2_with fail
    go_ret
    exact ⟨rfl, (G.refl _).alloc _⟩
set_option maxRecDepth 100000 in
set_option maxHeartbeats 1000000 in
theorem putr_any (w : World) (q : Rp) (va vb vc vd ve : Value) (hv : RpL w va vb vc vd ve q) (hx : RpW q) (hT : Tabs w) : Calls Tryz.prog 13 #[.agg #[I q.dst, I q.code, va, vb, vc, vd, ve]] w (PuP q w) := by
  have hv0 := hv
  obtain ⟨na, nc, rfl⟩ := hv.nums.form
  obtain ⟨ta, tc, rfl⟩ := hv.texts.form
  obtain ⟨ba, bc, rfl⟩ := hv.tables.form
  obtain ⟨da, dc, rfl⟩ := hv.nodes.form
  obtain ⟨ea, ec, rfl⟩ := hv.edges.form
  have hB := Blk.new w [I q.dst, I q.code, .slice na q.nums.length nc, .slice ta q.texts.length tc, .slice ba q.tables.length bc, .slice da q.nodes.length dc, .slice ea q.edges.length ec] 41
  have hA := (G.refl w).alloc (.cells #[I q.dst, I q.code, .slice na q.nums.length nc, .slice ta q.texts.length tc, .slice ba q.tables.length bc, .slice da q.nodes.length dc, .slice ea q.edges.length ec] 41)
  have hc := hB.cell
  have KA := hide (answers_any q.dst (w.alloc (.cells #[I q.dst, I q.code, .slice na q.nums.length nc, .slice ta q.texts.length tc, .slice ba q.tables.length bc, .slice da q.nodes.length dc, .slice ea q.edges.length ec] 41)))
  by_cases cK : 0 ≤ q.dst ∧ q.dst ≤ 12
  · have KM : Hid (∀ w', Calls Tryz.prog 27 #[.agg #[I q.dst, I q.code, .slice na q.nums.length nc, .slice ta q.texts.length tc, .slice ba q.tables.length bc, .slice da q.nodes.length dc, .slice ea q.edges.length ec]] w' fun e w'' => e = .returned (.bool (decide (q.nums.length ≤ 4096))) ∧ G w' w'') := fun w' => rmayn_any w' _ _ _ _ _ _ _ _ _ _ _ _ _ _ _ _ _
    rw [decide_eq_true cK] at KA
    have HC := hide cK
    have HV := hide (hv0.G hA)
    have HX := hide (And.intro hx (hT.G hA))
    have HBx := hide hB
    have HA := hide hA
    clear hv hv0 hx hT hB hA cK
    go_enter Tryz.func13, Tryz.ntmps13
    go_wp2_with fail
    generalize w.alloc (.cells #[I q.dst, I q.code, .slice na q.nums.length nc, .slice ta q.texts.length tc, .slice ba q.tables.length bc, .slice da q.nodes.length dc, .slice ea q.edges.length ec] 41) = wA at KA HV HBx HA HX hc ⊢
    refine KA.out.mono ?_
    rintro e w1 ⟨rfl, rfl⟩
    clear KA
    go_wp2_with fail
    refine (KM.out _).mono ?_
    rintro e w2 ⟨rfl, hg2⟩
    by_cases hm : q.nums.length ≤ 4096
    · rw [decide_eq_true hm]
      have hb2 := HBx.out.G hg2
      have hc2 := hb2.cell
      have hA3 := (G.refl w2).alloc (.cells #[.slice none 0 0, .bool false] 67)
      have hW3 : Wst w2 (w2.alloc (.cells #[.slice none 0 0, .bool false] 67)) (w2.alloc (.cells #[.slice none 0 0, .bool false] 67)) w2.heap.size (some []) :=
        ⟨hA3, Nat.le_refl _, by simp, ⟨_, Blk.new w2 [.slice none 0 0, .bool false] 67, Sw.nil _ _ _, Fresh.nil _⟩, Kp.refl _⟩
      have KR := hide (reply_any w2 _ _ w2.heap.size (some []) q _ _ _ _ _ (HV.out.G hg2) hW3 HX.out.1 (HX.out.2.G hg2))
      have hb3 := hb2.G hA3
      have HB3 := hide hb3
      have hc3 := hb3.cell
      have HG2 := hide (HA.out.trans hg2)
      have HM := hide hm
      clear hg2 KM hm hb2 hA3 hW3 hb3 HV HBx HA HX
      go_wp2_with fail
      refine KR.out.mono ?_
      rintro e w4 ⟨rfl, hw4⟩
      have hb4 := hw4.k.blk HB3.out (by decide) (by decide)
      have hc4 := hb4.cell
      have wk : wrap64 (128 + q.dst) = 128 + q.dst := by have := HC.out; unfold wrap64; omega
      have KF := hide (wframe_any w2 _ w4 w2.heap.size _ (128 + q.dst) hw4 (fun l e => by
        cases h : rpF q with
        | none => rw [h] at e; cases e
        | some l' =>
          rw [h, wap_some] at e
          split at e
          · rw [← Option.some.inj e]; exact ByO.rp q l' h
          · cases e))
      clear hw4 hb4 KR HB3
      go_wp2_with fail
      try rw [wk]
      refine KF.out.mono ?_
      rintro e w5 ⟨v5, c5, rfl, hg5, hf5, h5⟩
      have HF : Hid (PuP q w (.returned (.tuple #[v5, I c5])) w5) := by
        have hcode : q.code9 = match rpF q with | none => 163 | some l => if 2097152 < l.length then 163 else 0 := by unfold Rp.code9; rw [if_neg (not_not_intro HC.out), if_neg (not_not_intro HM.out)]
        cases h : rpF q with
        | none =>
          rw [h] at h5 hcode
          obtain ⟨rfl, rfl⟩ := h5
          exact PuP.bad q w w5 163 hcode (by decide) (HG2.out.trans hg5)
        | some l =>
          rw [h, wap_some] at h5
          rw [h] at hcode
          have hcode : q.code9 = if 2097152 < l.length then 163 else 0 := hcode
          by_cases cl : 2097152 < l.length
          · rw [if_neg (by simp; omega)] at h5
            obtain ⟨rfl, rfl⟩ := h5
            exact PuP.bad q w w5 163 (by rw [hcode, if_pos cl]) (by decide) (HG2.out.trans hg5)
          · rw [if_pos (by simp; omega)] at h5
            obtain ⟨rfl, h6⟩ := h5
            rw [List.nil_append] at h6
            have e0 : frC (128 + q.dst) l.length = 0 := by rw [frC_in9 _ _ HC.out, if_neg cl]
            refine ⟨v5, by rw [List.nil_append, e0, hcode, if_neg cl], ?_, HG2.out.trans hg5, hf5.old HG2.out⟩
            rw [Rp.frame9, hcode, if_neg cl, if_pos rfl, h]
            rw [frL, e0, if_pos rfl] at h6
            exact h6
      clear hg5 hf5 h5 KF
      go_wp2_with fail
      go_ret2
      exact HF.out
    · rw [decide_eq_false hm]
      have HF := hide (PuP.bad q w w2 163 (by unfold Rp.code9; rw [if_neg (not_not_intro HC.out), if_pos hm]) (by decide) (HA.out.trans hg2))
      clear hg2 KM hm
      go_wp2_with fail
      go_ret2
      exact HF.out
  · have HF := hide (PuP.bad q w _ 162 (by unfold Rp.code9; rw [if_pos cK]) (by decide) hA)
    rw [decide_eq_false cK] at KA
    clear hv hv0 hx hT hB hA cK
    go_enter Tryz.func13, Tryz.ntmps13
    go_wp2_with fail
    refine KA.out.mono ?_
    rintro e w1 ⟨rfl, rfl⟩
    clear KA
    go_wp2_with fail
    go_ret2
    exact HF.out
end Go.Proofs.YtcdjjmjhdoanlaaGreatDoor
