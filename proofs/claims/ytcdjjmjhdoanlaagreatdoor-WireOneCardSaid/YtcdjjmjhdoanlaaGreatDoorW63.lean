/- Wire: a reply in new memory. -/
import Derived.Test.YtcdjjmjhdoanlaaGreatDoorW62
import Derived.Test.YtcdjjmjhdoanlaaGreatDoorW18
namespace Go.Proofs.YtcdjjmjhdoanlaaGreatDoor
open Go.RowKit

/-- Its lists are of a size. -/
structure RpB (q : Rp) : Prop where
  n : q.nums.length ≤ 1099511627776
  t : q.texts.length ≤ 1099511627776
  b : q.tables.length ≤ 1099511627776 ∧ ∀ t ∈ q.tables, t.cols.length ≤ 1099511627776 ∧ t.rows.length ≤ 1099511627776 ∧ ∀ r ∈ t.rows, r.length ≤ 1099511627776
  d : q.nodes.length ≤ 1099511627776 ∧ ∀ n ∈ q.nodes, n.ps.length ≤ 1099511627776
  e : q.edges.length ≤ 1099511627776 ∧ ∀ n ∈ q.edges, n.ps.length ≤ 1099511627776
theorem own_I9 {w : World} {x : Value} {l : List Int} (hx : Row eI.rel w x l) (hb : l.length ≤ 1099511627776) :
    ∃ v' w', (Builtin.append_ #[30, 30] 30 #[.slice (some ⟨w.heap.size, 0, none⟩) 0 0, x]).run Tryz.prog (w.alloc (.cells #[] 2)) = .ok v' w' ∧ Sw eI 2 w' v' l ∧ G w w' ∧ Fresh w v' := by
  obtain ⟨i, hi, h0, h1, h2⟩ := info_64
  have hA := (G.refl w).alloc (.cells #[] 2)
  have hs : Sw eI 2 (w.alloc (.cells #[] 2)) (.slice (some ⟨w.heap.size, 0, none⟩) 0 0) [] := Sw.lit (E := eI) w [] (of_decide_eq_true (by kernel_rfl))
  have hm : (1099511627776 : Nat) ≤ maxLen := of_decide_eq_true (by kernel_rfl)
  obtain ⟨v', w', q1, q2, q3, q4⟩ := app_row (P := Tryz.prog) (tr := 30) i _ 8 Tryz.underlying30 hi h0 h1 h2 rfl (by decide) hs (hx.G hA) (by simp; omega) (by simp; omega)
  have hf : Fresh w (.slice (some ⟨w.heap.size, 0, none⟩) 0 0) := Fresh.new w 0 0 (G.refl w)
  obtain ⟨f2, g2⟩ := hf.app hA q3 q4
  exact ⟨v', w', q1, q2, g2, f2⟩
theorem own_S9 {w : World} {x : Value} {l : List ByteArray} (hx : Row eS.rel w x l) (hb : l.length ≤ 1099511627776) :
    ∃ v' w', (Builtin.append_ #[34, 34] 34 #[.slice (some ⟨w.heap.size, 0, none⟩) 0 0, x]).run Tryz.prog (w.alloc (.cells #[] 9)) = .ok v' w' ∧ Sw eS 9 w' v' l ∧ G w w' ∧ Fresh w v' := by
  obtain ⟨i, hi, h0, h1, h2⟩ := info_str
  have hA := (G.refl w).alloc (.cells #[] 9)
  have hs : Sw eS 9 (w.alloc (.cells #[] 9)) (.slice (some ⟨w.heap.size, 0, none⟩) 0 0) [] := Sw.lit (E := eS) w [] (of_decide_eq_true (by kernel_rfl))
  have hm : (1099511627776 : Nat) ≤ maxLen := of_decide_eq_true (by kernel_rfl)
  obtain ⟨v', w', q1, q2, q3, q4⟩ := app_row (P := Tryz.prog) (tr := 34) i _ 16 Tryz.underlying34 hi h0 h1 h2 rfl (by decide) hs (hx.G hA) (by simp; omega) (by simp; omega)
  have hf : Fresh w (.slice (some ⟨w.heap.size, 0, none⟩) 0 0) := Fresh.new w 0 0 (G.refl w)
  obtain ⟨f2, g2⟩ := hf.app hA q3 q4
  exact ⟨v', w', q1, q2, g2, f2⟩
theorem own_V9 {w : World} {x : Value} {l : List Vl} (hx : Row eV.rel w x l) (hb : l.length ≤ 1099511627776) :
    ∃ v' w', (Builtin.append_ #[75, 75] 75 #[.slice (some ⟨w.heap.size, 0, none⟩) 0 0, x]).run Tryz.prog (w.alloc (.cells #[] 137)) = .ok v' w' ∧ Sw eV 137 w' v' l ∧ G w w' ∧ Fresh w v' := by
  obtain ⟨i, hi, h0, h1, h2⟩ := info_V
  have hA := (G.refl w).alloc (.cells #[] 137)
  have hs : Sw eV 137 (w.alloc (.cells #[] 137)) (.slice (some ⟨w.heap.size, 0, none⟩) 0 0) [] := Sw.lit (E := eV) w [] (of_decide_eq_true (by kernel_rfl))
  have hm : (1099511627776 : Nat) ≤ maxLen := of_decide_eq_true (by kernel_rfl)
  obtain ⟨v', w', q1, q2, q3, q4⟩ := app_row (P := Tryz.prog) (tr := 75) i _ 40 Tryz.underlying75 hi h0 h1 h2 rfl (by decide) hs (hx.G hA) (by simp; omega) (by simp; omega)
  have hf : Fresh w (.slice (some ⟨w.heap.size, 0, none⟩) 0 0) := Fresh.new w 0 0 (G.refl w)
  obtain ⟨f2, g2⟩ := hf.app hA q3 q4
  exact ⟨v', w', q1, q2, g2, f2⟩
set_option maxRecDepth 100000 in
set_option maxHeartbeats 4000000 in
theorem ownr_any (q : Rp) (va vb vc vd ve : Value) (W : World) (hv : RpL W va vb vc vd ve q) (hb : RpB q) :
    Calls Tryz.prog 14 #[.agg #[I q.dst, I q.code, va, vb, vc, vd, ve]] W fun en W' => ∃ xa xn xc ya yn yc oa on oc ga gn gc ha hn9 hc9, en = .returned (.agg #[I q.dst, I q.code, .slice xa xn xc, .slice ya yn yc, .slice oa on oc, .slice ga gn gc, .slice ha hn9 hc9]) ∧ dQ.r W' [I q.dst, I q.code, .slice xa xn xc, .slice ya yn yc, .slice oa on oc, .slice ga gn gc, .slice ha hn9 hc9] q ∧ G W W' := by
  have HV := hide (And.intro hv hb)
  obtain ⟨na, nc, rfl⟩ := hv.nums.form
  obtain ⟨ta, tc, rfl⟩ := hv.texts.form
  obtain ⟨ba, bc, rfl⟩ := hv.tables.form
  obtain ⟨da, dc, rfl⟩ := hv.nodes.form
  obtain ⟨ea, ec, rfl⟩ := hv.edges.form
  obtain ⟨w2, hw2⟩ : ∃ w2, w2 = (W.alloc (.cells #[I q.dst, I q.code, .slice na q.nums.length nc, .slice ta q.texts.length tc, .slice ba q.tables.length bc, .slice da q.nodes.length dc, .slice ea q.edges.length ec] 41)).alloc (.cells #[I 0, I 0, .slice none 0 0, .slice none 0 0, .slice none 0 0, .slice none 0 0, .slice none 0 0] 41) := ⟨_, rfl⟩
  have hg2 : G W w2 := by rw [hw2]; exact ((G.refl W).alloc _).alloc _
  have hsz : w2.heap.size = W.heap.size + 1 + 1 := by rw [hw2]; simp
  have hB2 : Blk w2 W.heap.size 41 [I q.dst, I q.code, .slice na q.nums.length nc, .slice ta q.texts.length tc, .slice ba q.tables.length bc, .slice da q.nodes.length dc, .slice ea q.edges.length ec] := by rw [hw2]; exact (Blk.new W [I q.dst, I q.code, .slice na q.nums.length nc, .slice ta q.texts.length tc, .slice ba q.tables.length bc, .slice da q.nodes.length dc, .slice ea q.edges.length ec] 41).G ((G.refl _).alloc _)
  have hC2 : Blk w2 (W.heap.size + 1) 41 [I 0, I 0, .slice none 0 0, .slice none 0 0, .slice none 0 0, .slice none 0 0, .slice none 0 0] := by
    have := Blk.new (W.alloc (.cells #[I q.dst, I q.code, .slice na q.nums.length nc, .slice ta q.texts.length tc, .slice ba q.tables.length bc, .slice da q.nodes.length dc, .slice ea q.edges.length ec] 41)) [I 0, I 0, .slice none 0 0, .slice none 0 0, .slice none 0 0, .slice none 0 0, .slice none 0 0] 41
    rw [hw2]
    simpa using this
  obtain ⟨v3, w3, hr3, hs3, hg3, _⟩ := own_I9 (HV.out.1.nums.G hg2) HV.out.2.n
  rw [hsz] at hr3
  obtain ⟨xa, xc, hx3⟩ := hs3.form
  obtain ⟨xn, hxn⟩ : ∃ xn, xn = q.nums.length := ⟨_, rfl⟩
  rw [← hxn] at hx3
  subst hx3
  have hb3 := hB2.G hg3
  have hc3 := hC2.G hg3
  have hb4 : Blk (w3.setCell ⟨W.heap.size, 2, none⟩ (.slice xa xn xc)) W.heap.size 41 [I q.dst, I q.code, .slice xa xn xc, .slice ta q.texts.length tc, .slice ba q.tables.length bc, .slice da q.nodes.length dc, .slice ea q.edges.length ec] := hb3.set 2 _
  have hc4 : Blk (w3.setCell ⟨W.heap.size, 2, none⟩ (.slice xa xn xc)) (W.heap.size + 1) 41 [I 0, I 0, .slice none 0 0, .slice none 0 0, .slice none 0 0, .slice none 0 0, .slice none 0 0] := hc3.off (by omega)
  have hs4 : Sw eI 2 (w3.setCell ⟨W.heap.size, 2, none⟩ (.slice xa xn xc)) (.slice xa xn xc) q.nums := hs3.kx (X := [41]) (Kx.set hb3 (by simp)) (by decide)
  have hg4 : G W (w3.setCell ⟨W.heap.size, 2, none⟩ (.slice xa xn xc)) := (hg2.trans hg3).setCell (Nat.le_refl _) _
  obtain ⟨v5, w5, hr5, hs5, hg5, _⟩ := own_S9 (HV.out.1.texts.G hg4) HV.out.2.t
  have hsz4 : (w3.setCell ⟨W.heap.size, 2, none⟩ (.slice xa xn xc)).heap.size = w3.heap.size := by simp
  rw [hsz4] at hr5
  obtain ⟨ya, yc, hy5⟩ := hs5.form
  obtain ⟨yn, hyn⟩ : ∃ yn, yn = q.texts.length := ⟨_, rfl⟩
  rw [← hyn] at hy5
  subst hy5
  have hb5 := hb4.G hg5
  have hc5 := hc4.G hg5
  have hb6 : Blk (w5.setCell ⟨W.heap.size, 3, none⟩ (.slice ya yn yc)) W.heap.size 41 [I q.dst, I q.code, .slice xa xn xc, .slice ya yn yc, .slice ba q.tables.length bc, .slice da q.nodes.length dc, .slice ea q.edges.length ec] := hb5.set 3 _
  have hc6 : Blk (w5.setCell ⟨W.heap.size, 3, none⟩ (.slice ya yn yc)) (W.heap.size + 1) 41 [I 0, I 0, .slice none 0 0, .slice none 0 0, .slice none 0 0, .slice none 0 0, .slice none 0 0] := hc5.off (by omega)
  have kx6 : Kx [41] w5 (w5.setCell ⟨W.heap.size, 3, none⟩ (.slice ya yn yc)) := Kx.set hb5 (by simp)
  have hs6 : Sw eI 2 (w5.setCell ⟨W.heap.size, 3, none⟩ (.slice ya yn yc)) (.slice xa xn xc) q.nums := (hs4.G hg5).kx kx6 (by decide)
  have ht6 : Sw eS 9 (w5.setCell ⟨W.heap.size, 3, none⟩ (.slice ya yn yc)) (.slice ya yn yc) q.texts := hs5.kx kx6 (by decide)
  have hg6 : G W (w5.setCell ⟨W.heap.size, 3, none⟩ (.slice ya yn yc)) := (hg4.trans hg5).setCell (Nat.le_refl _) _
  have HS := hide (And.intro hg6 (And.intro hb6 (And.intro hc6 (And.intro hs6 ht6))))
  have HR3 := hide hr3
  have HR5 := hide hr5
  have k2 := hB2.cell
  have k3 := hb3.cell
  have f3 := hb3.frozen
  have k4 := (hb4.G ((G.refl _).alloc (.cells #[] 9))).cell
  have k4' := hb4.cell
  have k5 := hb5.cell
  have f5 := hb5.frozen
  have HW2 := hide hw2
  have HL : Hid (q.tables.length ≤ 1099511627776) := HV.out.2.b.1
  clear hv hb hw2 hg2 hsz hB2 hC2 hr3 hs3 hg3 hb3 hc3 hb4 hc4 hs4 hg4 hr5 hs5 hg5 hb5 hc5 hb6 hc6 kx6 hs6 ht6 hg6 hsz4 hxn hyn
  go_enter Tryz.func14, Tryz.ntmps14
  go_wp2_with (first | (at_builtin; refine Hid.out ?_) | fail)
  unfold Hid
  rw [show (W.alloc (.cells #[I q.dst, I q.code, .slice na q.nums.length nc, .slice ta q.texts.length tc, .slice ba q.tables.length bc, .slice da q.nodes.length dc, .slice ea q.edges.length ec] 41)).alloc (.cells #[I 0, I 0, .slice none 0 0, .slice none 0 0, .slice none 0 0, .slice none 0 0, .slice none 0 0] 41) = w2 from HW2.out.symm]
  refine wpList_append_run rfl _ _ 30 rfl (.slice (some ⟨W.heap.size + 1 + 1, 0, none⟩) 0 0) (.slice na q.nums.length nc) rfl rfl HR3.out ?_
  clear HR3
  go_wp2_with (first | (at_builtin; refine wpList_append_run rfl _ _ 34 rfl (.slice (some ⟨w3.heap.size, 0, none⟩) 0 0) (.slice ta q.texts.length tc) rfl rfl HR5.out ?_) | fail)
  clear k2 k3 f3 k4 k4' k5 f5
  go_loopw [3, 4] (fun ov iv wr => ∃ (i : Nat) (oa : Option Addr) (on oc : Nat) (rs : List (Raw dT.s)), iv = I i ∧ ov = .slice oa on oc ∧ i ≤ q.tables.length ∧ Sw (eR dT.s) 74 wr (.slice oa on oc) rs ∧ Fresh W (.slice oa on oc) ∧ G W wr ∧ Blk wr W.heap.size 41 [I q.dst, I q.code, .slice xa xn xc, .slice ya yn yc, .slice ba q.tables.length bc, .slice da q.nodes.length dc, .slice ea q.edges.length ec] ∧ Blk wr (W.heap.size + 1) 41 [I 0, I 0, .slice none 0 0, .slice none 0 0, .slice none 0 0, .slice none 0 0, .slice none 0 0] ∧ Sw eI 2 wr (.slice xa xn xc) q.nums ∧ Sw eS 9 wr (.slice ya yn yc) q.texts ∧ rs.length = i ∧ ∀ (j : Nat) (c : Raw dT.s) (y : Tb), rs[j]? = some c → (q.tables.take i)[j]? = some y → dT.r wr c.1 y) (fun _ iv _ => q.tables.length - (RowKit.intOf iv).toNat)
  case atStart =>
    obtain ⟨q1, q2, q3, q4, q5⟩ := HS.out
    exact ⟨0, none, 0, 0, [], rfl, rfl, Nat.zero_le _, Sw.nil _ _ _, Fresh.nil _, q1, q2, q3, q4, q5, rfl, fun j c y e => by simp at e⟩
  case round =>
    obtain ⟨i, oa, on, oc, rs, rfl, rfl, hin, ho, hof, hg, hB, hR, hN1, hT1, hxl, hrr⟩ := hrel
    obtain ⟨wo, hwo⟩ : ∃ wo, wo = wr := ⟨_, rfl⟩
    subst hwo
    clear HS
    have kb := hB.cell
    by_cases hlt : i < q.tables.length
    · have i2 : (i : Int) < q.tables.length := by omega
      obtain ⟨x, hx⟩ : ∃ x, q.tables[i]? = some x := ⟨_, List.getElem?_eq_getElem hlt⟩
      obtain ⟨g, o, c9, qq⟩ := HV.out.1.tables.addr (by omega)
      injection qq with p1 p2 p3
      subst p1 p3
      obtain ⟨cs, ⟨vu, vv, hcs, hvu, hvv, _, _⟩, hr1⟩ := HV.out.1.tables.at hx
      subst hcs
      have hbx := HV.out.2.b.2 x (List.mem_of_getElem? hx)
      have hru := rangeAt_G hr1 hg
      obtain ⟨ca, cc, hca⟩ := hvu.form
      obtain ⟨ra, rc, hra⟩ := hvv.form
      have x1 : wo.cell? ⟨g, o + i * 5, none⟩ = some vu := hru 0 _ rfl
      have x2 : wo.cell? ⟨g, o + i * 5 + 1, none⟩ = some vv := hru 1 _ rfl
      have x3 : wo.cell? ⟨g, o + i * 5 + 2, none⟩ = some (I x.made) := hru 2 _ rfl
      have x4 : wo.cell? ⟨g, o + i * 5 + 3, none⟩ = some (I x.gone) := hru 3 _ rfl
      have x5 : wo.cell? ⟨g, o + i * 5 + 4, none⟩ = some (I x.set) := hru 4 _ rfl
      obtain ⟨tb, htb⟩ : ∃ tb, tb = wo.heap.size := ⟨_, rfl⟩
      obtain ⟨w3, hw3⟩ : ∃ w3, w3 = wo.alloc (.cells #[vu, vv, I x.made, I x.gone, I x.set] 74) := ⟨_, rfl⟩
      have hg3 : G wo w3 := by rw [hw3]; exact (G.refl wo).alloc _
      have ht3 : Blk w3 tb 74 [vu, vv, I x.made, I x.gone, I x.set] := by rw [hw3, htb]; exact Blk.new wo [vu, vv, I x.made, I x.gone, I x.set] 74
      have hsz3 : w3.heap.size = tb + 1 := by rw [hw3, htb]; simp
      obtain ⟨v5, w5, hr5, hs5, hg5, _⟩ := own_S9 ((hvu.G hg).G hg3) hbx.1
      rw [hsz3] at hr5
      obtain ⟨ua, uc, hu5⟩ := hs5.form
      obtain ⟨un, hun⟩ : ∃ un, un = x.cols.length := ⟨_, rfl⟩
      rw [← hun] at hu5
      subst hu5
      have ht5 := ht3.G hg5
      have k3 := ht3.cell
      have k3a := (ht3.G ((G.refl w3).alloc (.cells #[] 9))).cell
      have k5 := ht5.cell
      have f5 := ht5.frozen
      have ht6 : Blk (w5.setCell ⟨tb, 0, none⟩ (.slice ua un uc)) tb 74 [.slice ua un uc, vv, I x.made, I x.gone, I x.set] := ht5.set 0 _
      have hg6 : G wo (w5.setCell ⟨tb, 0, none⟩ (.slice ua un uc)) := (hg3.trans hg5).setCell (Nat.le_of_eq htb.symm) _
      have hs6 : Sw eS 9 (w5.setCell ⟨tb, 0, none⟩ (.slice ua un uc)) (.slice ua un uc) x.cols := hs5.kx (X := [74]) (Kx.set ht5 (by simp)) (by decide)
      have HS2 : Hid (G wo (w5.setCell ⟨tb, 0, none⟩ (.slice ua un uc)) ∧ Blk (w5.setCell ⟨tb, 0, none⟩ (.slice ua un uc)) tb 74 [.slice ua un uc, .slice ra x.rows.length rc, I x.made, I x.gone, I x.set] ∧ Sw eS 9 (w5.setCell ⟨tb, 0, none⟩ (.slice ua un uc)) (.slice ua un uc) x.cols) := ⟨hg6, by rw [← hra]; exact ht6, hs6⟩
      have HRO : Hid (Row rVl wo (.slice ra x.rows.length rc) x.rows ∧ x.rows.length ≤ 1099511627776 ∧ ∀ r ∈ x.rows, r.length ≤ 1099511627776) := ⟨by rw [← hra]; exact hvv.G hg, hbx.2⟩
      have HGO := hide hg
      have HTB : Hid (wo.heap.size ≤ tb) := by show _ ≤ _; omega
      have HC := hide (And.intro ho (And.intro hof (And.intro hB (And.intro hR (And.intro hN1 hT1)))))
      have HX := hide (And.intro hxl (And.intro hlt (And.intro hrr hx)))
      have HR5 := hide hr5
      have HW3 : Hid (wo.alloc (.cells #[vu, vv, I x.made, I x.gone, I x.set] 74) = w3) := hw3.symm
      have HTBE : Hid (wo.heap.size = tb) := htb.symm
      clear hin ho hof hg hB hR hN1 hT1 hxl hrr hlt hx p2 hr1 hvu hvv hbx hru hg3 ht3 hsz3 hr5 hs5 hg5 ht5 ht6 hg6 hs6 hw3 htb hun
      subst hca hra
      go_wp2_with (first | (at_builtin; refine Hid.out ?_) | fail)
      unfold Hid
      rw [HW3.out]
      try rw [HTBE.out]
      refine wpList_append_run rfl _ _ 34 rfl (.slice (some ⟨tb + 1, 0, none⟩) 0 0) (.slice ca x.cols.length cc) rfl rfl HR5.out ?_
      clear HR5
      go_wp2_with fail
      clear k3 k3a k5 f5 x1 x2 x3 x4 x5 kb
      go_loopw [6, 7] (fun ov jv wr => ∃ (j : Nat) (va : Option Addr) (vn vc : Nat) (rs2 : List (Raw dR.s)), jv = I j ∧ ov = .slice va vn vc ∧ j ≤ x.rows.length ∧ Sw (eR dR.s) 75 wr (.slice va vn vc) rs2 ∧ Fresh wo (.slice va vn vc) ∧ G wo wr ∧ Blk wr tb 74 [.slice ua un uc, .slice ra x.rows.length rc, I x.made, I x.gone, I x.set] ∧ Sw eS 9 wr (.slice ua un uc) x.cols ∧ rs2.length = j ∧ ∀ (t : Nat) (c : Raw dR.s) (y : List Vl), rs2[t]? = some c → (x.rows.take j)[t]? = some y → dR.r wr c.1 y) (fun _ jv _ => x.rows.length - (RowKit.intOf jv).toNat)
      case atStart =>
        obtain ⟨q1, q2, q3⟩ := HS2.out
        exact ⟨0, none, 0, 0, [], rfl, rfl, Nat.zero_le _, Sw.nil _ _ _, Fresh.nil _, q1, q2, q3, rfl, fun t c y e => by simp at e⟩
      case round =>
        obtain ⟨j, va, vn, vc, rs2, rfl, rfl, hj, ho2, hof2, hg2, htb, hcs2, hjl, hrr2⟩ := hrel
        clear HS2
        have kt := htb.cell
        by_cases hjt : j < x.rows.length
        · have j2 : (j : Int) < x.rows.length := by omega
          obtain ⟨y, hy⟩ : ∃ y, x.rows[j]? = some y := ⟨_, List.getElem?_eq_getElem hjt⟩
          obtain ⟨g2, o2, c2, qq⟩ := HRO.out.1.addr (by omega)
          injection qq with p1 p2 p3
          subst p1 p3
          obtain ⟨cs, ⟨vy, hcs, hvy, _⟩, hr2⟩ := HRO.out.1.at hy
          subst hcs
          have hg0 := HGO.out.trans hg2
          have y1 : wr.cell? ⟨g2, o2 + j, none⟩ = some vy := by have := rangeAt_G hr2 hg2 0 _ rfl; simpa using this
          have hAe := (G.refl wr).alloc (.cells #[] 137)
          have y2 := cell_G y1 hAe
          have kt2 := (htb.G hAe).cell
          obtain ⟨v7, w7, hr7, hs7, hg7, hf7⟩ := own_V9 (hvy.G hg2) (HRO.out.2.2 y (List.mem_of_getElem? hy))
          obtain ⟨py, cy, hpy⟩ := hvy.form
          obtain ⟨za, zc, hz7⟩ := hs7.form
          have hnr7 := hs7.nrow
          have hA8 := (G.refl w7).alloc (.cells #[v7] 75)
          have ho8 := (ho2.G hg7).G hA8
          obtain ⟨i0, hi0, hz0, hz1, hz2⟩ := info_Vs
          have hmx : (1099511627777 : Nat) ≤ maxLen := of_decide_eq_true (by kernel_rfl)
          have hl9 := HRO.out.2.1
          obtain ⟨c, hc⟩ : ∃ c : Raw dR.s, c.1 = [v7] := ⟨⟨[v7], rfl, fun u hu => by simp at hu; rw [hu, hz7]; rfl⟩, rfl⟩
          have hlit : Row (eR dR.s).rel (w7.alloc (.cells #[v7] 75)) (.slice (some ⟨w7.heap.size, 0, none⟩) 1 1) [c] := by
            have := Row.lit (E := eR dR.s) w7 75 [c] 1 (by simp)
            rw [show (eR dR.s).fl [c] = [v7] by simp [Enc.fl, hc]] at this
            exact this
          obtain ⟨v9, w9, hr9, hs9, hch9, hob9⟩ := app_row (P := Tryz.prog) (tr := 72) (ns := [c]) i0 _ 24 Tryz.underlying72 hi0 hz0 hz1 hz2 rfl (by decide) ho8 hlit (by simp; omega) (by simp; omega)
          have kx2 : Kx [75] w7 w9 := (Kx.of_G hA8).trans (Kx.own hch9 ho8 (by simp))
          have kx1 : Kx [75] wr w9 := (Kx.of_G hg7).trans kx2
          obtain ⟨hf9, hg9⟩ := hof2.app (hg2.trans (hg7.trans hA8)) hch9 hob9
          obtain ⟨a9, c9, hv9⟩ := hs9.form
          have hrn : ∀ (t : Nat) (c' : Raw dR.s) (y' : List Vl), (rs2 ++ [c])[t]? = some c' → (x.rows.take (j + 1))[t]? = some y' → dR.r w9 c'.1 y' := by
            rw [List.take_add_one, hy]
            refine nrow_step (fun t c' y' e1 e2 => dR.keep kx1 (by decide) (hrr2 t c' y' e1 e2)) (by rw [hjl, List.length_take]; omega) ?_
            rw [hc]
            exact ⟨_, rfl, hnr7.kx kx2 (by decide) (by decide)⟩
          have HF : Hid (∃ va vn vc, v9 = .slice va vn vc ∧ j < x.rows.length ∧ Sw (eR dR.s) 75 w9 (.slice va vn vc) (rs2 ++ [c]) ∧ Fresh wo (.slice va vn vc) ∧ G wo w9 ∧ Blk w9 tb 74 [.slice ua un uc, .slice (some ⟨g2, o2, none⟩) x.rows.length rc, I x.made, I x.gone, I x.set] ∧ Sw eS 9 w9 (.slice ua un uc) x.cols ∧ (rs2 ++ [c]).length = j + 1 ∧ ∀ (t : Nat) (c' : Raw dR.s) (y' : List Vl), (rs2 ++ [c])[t]? = some c' → (x.rows.take (j + 1))[t]? = some y' → dR.r w9 c'.1 y') :=
            ⟨a9, _, c9, hv9, hjt, by rw [← hv9]; exact hs9, by rw [← hv9]; exact hf9, hg9, kx1.blk htb (by decide), hcs2.kx kx1 (by decide), by simp; exact hjl, hrn⟩
          have HR7 := hide hr7
          have HR9 := hide hr9
          have HWJ : Hid (wrap64 ((j : Int) + 1) = ((j + 1 : Nat) : Int)) := by show _ = _; unfold wrap64; omega
          clear hj hjt ho2 hof2 hg2 htb hcs2 hjl hrr2 hy p2 hr2 hvy hg0 hAe hr7 hs7 hg7 hf7 hnr7 hA8 ho8 hi0 hz0 hz1 hz2 hmx hl9 hc hlit hr9 hs9 hch9 hob9 kx1 kx2 hf9 hg9 hv9 hrn
          subst hpy hz7
          go_wp2_with (first | (at_builtin; refine wpList_append_run rfl _ _ 75 rfl (.slice (some ⟨wr.heap.size, 0, none⟩) 0 0) (.slice py y.length cy) rfl rfl HR7.out ?_) | (at_builtin; refine wpList_append_run rfl _ _ 72 rfl (.slice va vn vc) (.slice (some ⟨w7.heap.size, 0, none⟩) 1 1) rfl rfl HR9.out ?_) | fail)
          try rw [HWJ.out]
          obtain ⟨va', vn', vc', rfl, r0, r1, r2, r3, r4, r5, r6, r7⟩ := HF.out
          refine ⟨⟨j + 1, va', vn', vc', rs2 ++ [c], rfl, rfl, r0, r1, r2, r3, r4, r5, r6, r7⟩, ?_⟩
          simp only [RowKit.intOf]; omega
        · have j2 : ¬ (j : Int) < x.rows.length := by omega
          have hnr : NRow dR 75 wr (.slice va vn vc) x.rows := ⟨rs2, ho2, by omega, fun t c y e1 e2 => hrr2 t c y e1 (by rw [List.take_of_length_le (by omega)]; exact e2)⟩
          clear hj ho2 hof2 hjl hrr2 hjt
          have hg0 := HGO.out.trans hg2
          have htbw : wo.heap.size ≤ tb := HTB.out
          have htb8 : Blk (wr.setCell ⟨tb, 1, none⟩ (.slice va vn vc)) tb 74 [.slice ua un uc, .slice va vn vc, I x.made, I x.gone, I x.set] := htb.set 1 _
          have kf := htb.frozen
          have k8 := htb8.cell
          have hg8 : G wo (wr.setCell ⟨tb, 1, none⟩ (.slice va vn vc)) := hg2.setCell htbw _
          have kx8 : Kx [74] wr (wr.setCell ⟨tb, 1, none⟩ (.slice va vn vc)) := Kx.set htb (by simp)
          obtain ⟨u8, hu8⟩ : ∃ u8, u8 = wr.setCell ⟨tb, 1, none⟩ (.slice va vn vc) := ⟨_, rfl⟩
          have hsz8 : u8.heap.size = wr.heap.size := by rw [hu8]; simp
          rw [← hu8] at hg8 kx8
          obtain ⟨ho, hof, hbx, hrr', hN1, hT1⟩ := HC.out
          have hA := (G.refl u8).alloc (.cells #[.slice ua un uc, .slice va vn vc, I x.made, I x.gone, I x.set] 74)
          have ho4 := (ho.G hg8).G hA
          obtain ⟨i0, hi0, hz0, hz1, hz2⟩ := info_T
          have hmx : (1099511627777 : Nat) ≤ maxLen := of_decide_eq_true (by kernel_rfl)
          obtain ⟨hxl, hlt, hrr, hx⟩ := HX.out
          have hl9 := HL.out
          obtain ⟨c, hc⟩ : ∃ c : Raw dT.s, c.1 = [.slice ua un uc, .slice va vn vc, I x.made, I x.gone, I x.set] := ⟨⟨[.slice ua un uc, .slice va vn vc, I x.made, I x.gone, I x.set], rfl, fun u hu => by simp at hu; rcases hu with rfl | rfl | rfl | rfl | rfl <;> rfl⟩, rfl⟩
          have hlit : Row (eR dT.s).rel (u8.alloc (.cells #[.slice ua un uc, .slice va vn vc, I x.made, I x.gone, I x.set] 74)) (.slice (some ⟨u8.heap.size, 0, none⟩) 1 1) [c] := by
            have := Row.lit (E := eR dT.s) u8 74 [c] 1 (by simp)
            rw [show (eR dT.s).fl [c] = [.slice ua un uc, .slice va vn vc, I x.made, I x.gone, I x.set] by simp [Enc.fl, hc]] at this
            exact this
          obtain ⟨v5, w5, hr5, hs5, hch5, hob5⟩ := app_row (P := Tryz.prog) (tr := 35) (ns := [c]) i0 _ 72 Tryz.underlying35 hi0 hz0 hz1 hz2 rfl (by decide) ho4 hlit (by simp; omega) (by simp; omega)
          rw [hsz8] at hr5
          have kx2 : Kx [74] u8 w5 := (Kx.of_G hA).trans (Kx.own hch5 ho4 (by simp))
          have kx1 : Kx [74] wo w5 := (Kx.of_G hg8).trans kx2
          have kx3 : Kx [74] wr w5 := kx8.trans kx2
          obtain ⟨hf5, hg5⟩ := hof.app (HGO.out.trans (hg8.trans hA)) hch5 hob5
          obtain ⟨a5, c5, hv5⟩ := hs5.form
          have hrn : ∀ (j : Nat) (c' : Raw dT.s) (y : Tb), (rs ++ [c])[j]? = some c' → (q.tables.take (i + 1))[j]? = some y → dT.r w5 c'.1 y := by
            rw [List.take_add_one, hx]
            refine nrow_step (fun j c' y e1 e2 => dT.keep kx1 (by decide) (hrr j c' y e1 e2)) (by rw [hxl, List.length_take]; omega) ?_
            rw [hc]
            exact ⟨_, _, rfl, hcs2.kx kx3 (by decide), hnr.kx kx3 (by decide) (by decide)⟩
          have HF : Hid (∃ oa on oc, v5 = .slice oa on oc ∧ i < q.tables.length ∧ Sw (eR dT.s) 74 w5 (.slice oa on oc) (rs ++ [c]) ∧ Fresh W (.slice oa on oc) ∧ G W w5 ∧ Blk w5 W.heap.size 41 [I q.dst, I q.code, .slice xa xn xc, .slice ya yn yc, .slice (some ⟨g, o, none⟩) q.tables.length bc, .slice da q.nodes.length dc, .slice ea q.edges.length ec] ∧ Blk w5 (W.heap.size + 1) 41 [I 0, I 0, .slice none 0 0, .slice none 0 0, .slice none 0 0, .slice none 0 0, .slice none 0 0] ∧ Sw eI 2 w5 (.slice xa xn xc) q.nums ∧ Sw eS 9 w5 (.slice ya yn yc) q.texts ∧ (rs ++ [c]).length = i + 1 ∧ ∀ (j : Nat) (c' : Raw dT.s) (y : Tb), (rs ++ [c])[j]? = some c' → (q.tables.take (i + 1))[j]? = some y → dT.r w5 c'.1 y) :=
            ⟨a5, _, c5, hv5, hlt, by rw [← hv5]; exact hs5, by rw [← hv5]; exact hf5, hg5, kx1.blk hbx (by decide), kx1.blk hrr' (by decide), hN1.kx kx1 (by decide), hT1.kx kx1 (by decide), by simp; exact hxl, hrn⟩
          have HR5 := hide hr5
          have HU8 := hide hu8
          have HWI : Hid (wrap64 ((i : Int) + 1) = ((i + 1 : Nat) : Int)) := by show _ = _; unfold wrap64; omega
          clear hg0 htbw htb8 hg8 kx8 hsz8 ho hof hbx hrr' hN1 hT1 hA ho4 hi0 hz0 hz1 hz2 hmx hxl hlt hrr hx hl9 hc hlit hr5 hs5 hch5 hob5 kx1 kx2 kx3 hf5 hg5 hv5 hrn hg2 htb hcs2 hnr hu8 HX HC
          go_wp2_with (first | (at_builtin; refine Hid.out ?_) | fail)
          unfold Hid
          rw [show wr.setCell ⟨tb, 1, none⟩ (.slice va vn vc) = u8 from HU8.out.symm]
          refine wpList_append_run rfl _ _ 35 rfl (.slice oa on oc) (.slice (some ⟨wr.heap.size, 0, none⟩) 1 1) rfl rfl HR5.out ?_
          go_wp2_with fail
          try rw [HWI.out]
          obtain ⟨oa', on', oc', rfl, r0, r1, r2, r3, r4, r5, r6, r7, r8, r9⟩ := HF.out
          refine ⟨⟨i + 1, oa', on', oc', rs ++ [c], rfl, rfl, r0, r1, r2, r3, r4, r5, r6, r7, r8, r9⟩, ?_⟩
          simp only [RowKit.intOf]; omega
    · have i2 : ¬ (i : Int) < q.tables.length := by omega
      have hnr : NRow dT 74 wo (.slice oa on oc) q.tables := ⟨rs, ho, by omega, fun j c y e1 e2 => hrr j c y e1 (by rw [List.take_of_length_le (by omega)]; exact e2)⟩
      have kf := hB.frozen
      have hB4 : Blk (wo.setCell ⟨W.heap.size, 4, none⟩ (.slice oa on oc)) W.heap.size 41 [I q.dst, I q.code, .slice xa xn xc, .slice ya yn yc, .slice oa on oc, .slice da q.nodes.length dc, .slice ea q.edges.length ec] := hB.set 4 _
      have k4 := hB4.cell
      have kx4 : Kx [41] wo (wo.setCell ⟨W.heap.size, 4, none⟩ (.slice oa on oc)) := Kx.set hB (by simp)
      have hg4 : G W (wo.setCell ⟨W.heap.size, 4, none⟩ (.slice oa on oc)) := hg.setCell (Nat.le_refl _) _
      have hr4 : Blk (wo.setCell ⟨W.heap.size, 4, none⟩ (.slice oa on oc)) (W.heap.size + 1) 41 [I 0, I 0, .slice none 0 0, .slice none 0 0, .slice none 0 0, .slice none 0 0, .slice none 0 0] := hR.off (by omega)
      have KC := hide (copy_g q.nodes q.edges _ _ (wo.setCell ⟨W.heap.size, 4, none⟩ (.slice oa on oc)) (HV.out.1.nodes.G hg4) (HV.out.1.edges.G hg4) HV.out.2.d.1 HV.out.2.e.1 HV.out.2.d.2 HV.out.2.e.2)
      have H4 := hide (And.intro hB4 (And.intro hr4 (And.intro hg4 (And.intro (hN1.kx kx4 (by decide)) (And.intro (hT1.kx kx4 (by decide)) (hnr.kx kx4 (by decide) (by decide)))))))
      clear hin hB hR ho hof hg hN1 hT1 hxl hrr hlt hnr hB4 kx4 hg4 hr4
      go_wp2_with fail
      generalize (wo.setCell ⟨W.heap.size, 4, none⟩ (.slice oa on oc)) = w4 at KC H4 k4 ⊢
      refine KC.out.mono ?_
      rintro e w5 ⟨ga, gn, gc, ha, hn9, hc9, rfl, hd5, he5, hg5⟩
      obtain ⟨hB4, hr4, hg4, hN4, hT4, hb4⟩ := H4.out
      have hB5 := hB4.G hg5
      have hR5 := hr4.G hg5
      have k5 := hB5.cell
      have f5 := hB5.frozen
      have hR6 : Blk ((w5.setCell ⟨W.heap.size, 5, none⟩ (.slice ga gn gc)).setCell ⟨W.heap.size, 6, none⟩ (.slice ha hn9 hc9)) (W.heap.size + 1) 41 [I 0, I 0, .slice none 0 0, .slice none 0 0, .slice none 0 0, .slice none 0 0, .slice none 0 0] := (hR5.off (by omega)).off (by omega)
      have c6 := hR6.cell
      have z6 := hR6.frozen
      have HR6 := hide hR6
      have k6 := ((hB5.set 5 (.slice ga gn gc)).set 6 (.slice ha hn9 hc9)).cell
      have kx5 : Kx [41] w5 ((w5.setCell ⟨W.heap.size, 5, none⟩ (.slice ga gn gc)).setCell ⟨W.heap.size, 6, none⟩ (.slice ha hn9 hc9)) := (Kx.set hB5 (by simp)).trans (Kx.set (hB5.set 5 (.slice ga gn gc)) (by simp))
      have HF : Hid (∀ u, Chg (fun k => k = W.heap.size + 1) ((w5.setCell ⟨W.heap.size, 5, none⟩ (.slice ga gn gc)).setCell ⟨W.heap.size, 6, none⟩ (.slice ha hn9 hc9)) u → dQ.r u [I q.dst, I q.code, .slice xa xn xc, .slice ya yn yc, .slice oa on oc, .slice ga gn gc, .slice ha hn9 hc9] q ∧ G W u) := fun u hu => by
        have kx6 : Kx [41] ((w5.setCell ⟨W.heap.size, 5, none⟩ (.slice ga gn gc)).setCell ⟨W.heap.size, 6, none⟩ (.slice ha hn9 hc9)) u := Kx.one hu HR6.out (by simp)
        have kx7 : Kx [41] w4 u := ((Kx.of_G hg5).trans kx5).trans kx6
        refine ⟨⟨_, _, _, _, _, rfl, hN4.kx kx7 (by decide), hT4.kx kx7 (by decide), hb4.kx kx7 (by decide) (by decide), hd5.kx (kx5.trans kx6) (by decide) (by decide), he5.kx (kx5.trans kx6) (by decide) (by decide)⟩, ?_⟩
        have g6 : G W ((w5.setCell ⟨W.heap.size, 5, none⟩ (.slice ga gn gc)).setCell ⟨W.heap.size, 6, none⟩ (.slice ha hn9 hc9)) := ((hg4.trans hg5).setCell (Nat.le_refl _) _).setCell (Nat.le_refl _) _
        exact g6.far (hu.mono (fun k hk => by rw [hk]; exact Nat.le_succ _))
      clear hB4 hr4 hg4 hN4 hT4 hb4 hB5 hR5 hR6 kx5 hd5 he5 hg5 KC H4 k4
      go_wp2_with fail
      have hC9 := (((((((HR6.out.set 0 (I q.dst)).set 1 (I q.code)).set 2 (.slice xa xn xc)).set 3 (.slice ya yn yc)).set 4 (.slice oa on oc)).set 5 (.slice ga gn gc)).set 6 (.slice ha hn9 hc9))
      have hF9 := HF.out _ (((((((chg_setCell (F := fun k => k = W.heap.size + 1) (b := W.heap.size + 1) (o := 0) _ (I q.dst) (.inl rfl)).trans (chg_setCell (F := fun k => k = W.heap.size + 1) (b := W.heap.size + 1) (o := 1) _ (I q.code) (.inl rfl))).trans (chg_setCell (F := fun k => k = W.heap.size + 1) (b := W.heap.size + 1) (o := 2) _ (.slice xa xn xc) (.inl rfl))).trans (chg_setCell (F := fun k => k = W.heap.size + 1) (b := W.heap.size + 1) (o := 3) _ (.slice ya yn yc) (.inl rfl))).trans (chg_setCell (F := fun k => k = W.heap.size + 1) (b := W.heap.size + 1) (o := 4) _ (.slice oa on oc) (.inl rfl))).trans (chg_setCell (F := fun k => k = W.heap.size + 1) (b := W.heap.size + 1) (o := 5) _ (.slice ga gn gc) (.inl rfl))).trans (chg_setCell (F := fun k => k = W.heap.size + 1) (b := W.heap.size + 1) (o := 6) _ (.slice ha hn9 hc9) (.inl rfl)))
      exact bodyPost_ret_by (v := .agg #[I q.dst, I q.code, .slice xa xn xc, .slice ya yn yc, .slice oa on oc, .slice ga gn gc, .slice ha hn9 hc9]) (results_cell_row Tryz.results14 _ _ (W.heap.size + 1) 41 _ (0, 0) _ rfl hC9.h Tryz.underlying41 rfl (by kernel_rfl)) rfl ⟨_, _, _, _, _, _, _, _, _, _, _, _, _, _, _, rfl, hF9.1, hF9.2⟩
end Go.Proofs.YtcdjjmjhdoanlaaGreatDoor
