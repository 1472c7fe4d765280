/- Wire: may a reply be sent? (The document's.) -/
import Derived.Test.YtcdjjmjhdoanlaaGreatDoorW50
namespace Go.Proofs.YtcdjjmjhdoanlaaGreatDoor
open Go.RowKit

def vOk (x : Vl) : Bool := okV x.k x.a x.b x.s
def psOk (l : List Pr) : Bool := l.all fun p => vOk p.v
def rwOk (l : List Vl) : Bool := l.all vOk
def tbOk (t : Tb) : Bool := t.rows.all rwOk
def rpOk (q : Rp) : Bool := decide (q.nums.length ≤ 4096) && q.tables.all tbOk && q.nodes.all (fun n => psOk n.ps) && q.edges.all (fun n => psOk n.ps)
/-- Its texts are of a size. -/
structure RpS (q : Rp) : Prop where
  t : ∀ t ∈ q.tables, ∀ r ∈ t.rows, ∀ v ∈ r, v.s.size ≤ 4611686018427387904
  d : ∀ n ∈ q.nodes, ∀ p ∈ n.ps, p.v.s.size ≤ 4611686018427387904
  e : ∀ n ∈ q.edges, ∀ p ∈ n.ps, p.v.s.size ≤ 4611686018427387904
theorem all_step {α : Type} {l : List α} {p : α → Bool} {i : Nat} {x : α} (h : (l.take i).all p = true) (hx : l[i]? = some x) (hp : p x = true) : (l.take (i + 1)).all p = true := by
  rw [List.take_add_one, hx]; simp [h, hp]
theorem all_no {α : Type} {l : List α} {p : α → Bool} {i : Nat} {x : α} (hx : l[i]? = some x) (hp : p x = false) : l.all p = false := by
  cases h : l.all p with
  | false => rfl
  | true => have := List.all_eq_true.1 h x (List.mem_of_getElem? hx); rw [hp] at this; cases this
theorem all_fin {α : Type} {l : List α} {p : α → Bool} {i : Nat} (h : (l.take i).all p = true) (hi : ¬ i < l.length) : l.all p = true := by
  rwa [List.take_of_length_le (by omega)] at h
theorem cell_G {a w : World} {b o : Nat} {v : Value} (h : a.cell? ⟨b, o, none⟩ = some v) (g : G a w) : w.cell? ⟨b, o, none⟩ = some v := by rw [g.cell (cell_lt h)]; exact h
theorem all_0 {α : Type} (l : List α) (p : α → Bool) : (l.take 0).all p = true := by simp
set_option maxRecDepth 100000 in
set_option maxHeartbeats 1000000 in
theorem pmay_any (l : List Pr) (a : Value) (W : World) (h : Row ePr.rel W a l) (hn : l.length ≤ 140737488355328) (hs : ∀ p ∈ l, p.v.s.size ≤ 4611686018427387904) :
    Calls Tryz.prog 69 #[a] W fun e W' => e = .returned (.bool (psOk l)) ∧ G W W' := by
  obtain ⟨p, cap, rfl⟩ := h.form
  have HS := hide h
  have HN := hide (And.intro hn hs)
  clear h hn hs
  go_enter Tryz.func69, Tryz.ntmps69
  go_wp2_with fail
  go_loopw [3] (fun iv wr => ∃ i : Nat, iv = I i ∧ i ≤ l.length ∧ G W wr ∧ (l.take i).all (fun p => vOk p.v) = true) (fun iv _ => l.length - (RowKit.intOf iv).toNat)
  case atStart => exact ⟨0, rfl, Nat.zero_le _, G.refl _, all_0 _ _⟩
  case round =>
    obtain ⟨i, rfl, hi, hg, ha⟩ := hrel
    by_cases hil : i < l.length
    · obtain ⟨x, hx⟩ : ∃ x, l[i]? = some x := ⟨_, List.getElem?_eq_getElem hil⟩
      obtain ⟨g, o, c, q⟩ := HS.out.addr (by omega)
      injection q with q1 q2 q3
      subst q1 q3
      obtain ⟨x1, x2, x3, x4, x5⟩ := RP.at (HS.out.G hg) hx
      have i1 : (i : Int) < l.length := Int.ofNat_lt.2 hil
      have HW : Hid (wrap64 ((i : Int) + 1) = (i : Int) + 1) := by show _ = _; have := HN.out.1; unfold wrap64; omega
      have KV := hide (rv_any x.v.k x.v.a x.v.b x.v.s (HN.out.2 x (List.mem_of_getElem? hx)) wr)
      have HA := hide (And.intro hg (And.intro ha (And.intro hx hil)))
      clear hi hil hg ha hx q2
      go_wp2_with fail
      refine KV.out.mono ?_
      rintro e w5 ⟨rfl, g5⟩
      obtain ⟨hg, ha, hx, hil⟩ := HA.out
      cases hv : okV x.v.k x.v.a x.v.b x.v.s with
      | false =>
        have HF : Hid (psOk l = false ∧ G W w5) := ⟨all_no hx hv, hg.trans g5⟩
        clear hg ha hx hil HA KV g5 x1 x2 x3 x4 x5 hv
        go_wp2_with fail
        go_ret
        exact ⟨by rw [HF.out.1]; rfl, HF.out.2⟩
      | true =>
        have HF : Hid (i < l.length ∧ G W w5 ∧ (l.take (i + 1)).all (fun p => vOk p.v) = true) := ⟨hil, hg.trans g5, all_step ha hx hv⟩
        clear hg ha hx hil HA KV g5 x1 x2 x3 x4 x5 hv
        go_wp2_with fail
        try rw [HW.out]
        refine ⟨⟨i + 1, rfl, HF.out.1, HF.out.2⟩, ?_⟩
        simp only [RowKit.intOf]; have := HF.out.1; omega
    · have i1 : ¬ ((i : Int) < l.length) := by omega
      have HF : Hid (psOk l = true ∧ G W wr) := ⟨all_fin ha hil, hg⟩
      clear hi hil hg ha
      go_wp2_with fail
      go_ret
      exact ⟨by rw [HF.out.1]; rfl, HF.out.2⟩
set_option maxRecDepth 100000 in
set_option maxHeartbeats 1000000 in
theorem rmay3_any (q : Rp) (a b c d e : Value) (W : World) (h : RpL W a b c d e q) (hs : RpS q) :
    Calls Tryz.prog 30 #[.agg #[I q.dst, I q.code, a, b, c, d, e]] W fun en W' => en = .returned (.bool (rpOk q)) ∧ G W W' := by
  obtain ⟨na, nc, rfl⟩ := h.nums.form
  obtain ⟨ta, tc, rfl⟩ := h.texts.form
  obtain ⟨ba, bc, rfl⟩ := h.tables.form
  obtain ⟨da, dc, rfl⟩ := h.nodes.form
  obtain ⟨ea, ec, rfl⟩ := h.edges.form
  obtain ⟨w1, hw1⟩ : ∃ w1, w1 = W.alloc (.cells #[I q.dst, I q.code, .slice na q.nums.length nc, .slice ta q.texts.length tc, .slice ba q.tables.length bc, .slice da q.nodes.length dc, .slice ea q.edges.length ec] 41) := ⟨_, rfl⟩
  have hg1 : G W w1 := by rw [hw1]; exact (G.refl W).alloc _
  have hB1 : Blk w1 W.heap.size 41 [I q.dst, I q.code, .slice na q.nums.length nc, .slice ta q.texts.length tc, .slice ba q.tables.length bc, .slice da q.nodes.length dc, .slice ea q.edges.length ec] := by rw [hw1]; exact Blk.new W [I q.dst, I q.code, .slice na q.nums.length nc, .slice ta q.texts.length tc, .slice ba q.tables.length bc, .slice da q.nodes.length dc, .slice ea q.edges.length ec] 41
  have HB := hide (And.intro hB1 (And.intro (h.G hg1) hs))
  have HG1 := hide hg1
  have HW1 := hide hw1
  clear h hs hw1 hg1 hB1
  by_cases hl : q.nums.length ≤ 4096
  · have i1 : ¬ (4096 : Int) < q.nums.length := by omega
    have HL := hide hl
    clear hl
    go_enter Tryz.func30, Tryz.ntmps30
    go_wp2_with fail
    rw [show W.alloc (.cells #[I q.dst, I q.code, .slice na q.nums.length nc, .slice ta q.texts.length tc, .slice ba q.tables.length bc, .slice da q.nodes.length dc, .slice ea q.edges.length ec] 41) = w1 from HW1.out.symm]
    clear i1
    go_loopw [3] (fun iv wr => ∃ i : Nat, iv = I i ∧ i ≤ q.tables.length ∧ G w1 wr ∧ (q.tables.take i).all tbOk = true) (fun iv _ => q.tables.length - (RowKit.intOf iv).toNat)
    case atStart => exact ⟨0, rfl, Nat.zero_le _, G.refl _, all_0 _ _⟩
    case round =>
      obtain ⟨i, rfl, hi, hg, ha⟩ := hrel
      obtain ⟨wa, hwa⟩ : ∃ wa, wa = wr := ⟨_, rfl⟩
      subst hwa
      have kb := (HB.out.1.G hg).cell
      by_cases hil : i < q.tables.length
      · obtain ⟨x, hx⟩ : ∃ x, q.tables[i]? = some x := ⟨_, List.getElem?_eq_getElem hil⟩
        have hrow := HB.out.2.1.tables.G hg
        obtain ⟨g, o, c, qq⟩ := hrow.addr (by omega)
        injection qq with q1 q2 q3
        subst q1 q3
        obtain ⟨cs, ⟨vu, vv, hcs, hvu, hvv, hlu, hlv⟩, hra⟩ := hrow.at hx
        subst hcs
        obtain ⟨pv, cv, rfl⟩ := hvv.form
        have x1 : wa.cell? ⟨g, o + i * 5 + 1, none⟩ = some (.slice pv x.rows.length cv) := hra 1 _ rfl
        have i1 : (i : Int) < q.tables.length := Int.ofNat_lt.2 hil
        have HWI : Hid (wrap64 ((i : Int) + 1) = (i : Int) + 1) := by show _ = _; have := HB.out.2.1.lb; unfold wrap64; omega
        have HRR := hide (And.intro hvv hlv)
        have HXA := hide x1
        have HX := hide (And.intro hx (And.intro hil ha))
        have HGB := hide hg
        clear hi hil hg ha hx q2 hra hvu hvv hlu hlv hrow
        go_wp2_with fail
        go_loopw [4] (fun jv wr => ∃ j : Nat, jv = I j ∧ j ≤ x.rows.length ∧ G wa wr ∧ (x.rows.take j).all rwOk = true) (fun jv _ => x.rows.length - (RowKit.intOf jv).toNat)
        case atStart => exact ⟨0, rfl, Nat.zero_le _, G.refl _, all_0 _ _⟩
        case round =>
          obtain ⟨j, rfl, hj, hg2, hb⟩ := hrel
          obtain ⟨wc, hwc⟩ : ∃ wc, wc = wr := ⟨_, rfl⟩
          subst hwc
          have kb := (HB.out.1.G (HGB.out.trans hg2)).cell
          have x1 : wc.cell? ⟨g, o + i * 5 + 1, none⟩ = some (.slice pv x.rows.length cv) := cell_G HXA.out hg2
          by_cases hjl : j < x.rows.length
          · obtain ⟨y, hy⟩ : ∃ y, x.rows[j]? = some y := ⟨_, List.getElem?_eq_getElem hjl⟩
            have hrr := HRR.out.1.G hg2
            obtain ⟨g2, o2, c2, qq⟩ := hrr.addr (by omega)
            injection qq with q1 q2 q3
            subst q1 q3
            obtain ⟨cs, ⟨vy, hcs, hvy, hly⟩, hra⟩ := hrr.at hy
            subst hcs
            obtain ⟨py, cy, rfl⟩ := hvy.form
            have y1 : wc.cell? ⟨g2, o2 + j, none⟩ = some (.slice py y.length cy) := by have := hra 0 _ rfl; simpa using this
            have j1 : (j : Int) < x.rows.length := Int.ofNat_lt.2 hjl
            have HWJ : Hid (wrap64 ((j : Int) + 1) = (j : Int) + 1) := by show _ = _; have := HRR.out.2; unfold wrap64; omega
            have HVR := hide hvy
            have HYL := hide hly
            have HX1 := hide x1
            have HY1 := hide y1
            have HY := hide (And.intro hy (And.intro hjl hb))
            have HGC := hide (HGB.out.trans hg2)
            have HGA := hide hg2
            clear hj hjl hg2 hb hy q2 hra hvy hly hrr
            go_wp2_with fail
            go_loopw [5] (fun kv wr => ∃ k : Nat, kv = I k ∧ k ≤ y.length ∧ G wc wr ∧ (y.take k).all vOk = true) (fun kv _ => y.length - (RowKit.intOf kv).toNat)
            case atStart => exact ⟨0, rfl, Nat.zero_le _, G.refl _, all_0 _ _⟩
            case round =>
              obtain ⟨k, rfl, hk, hg3, hc⟩ := hrel
              have kb := (HB.out.1.G (HGC.out.trans hg3)).cell
              have x1 := cell_G HX1.out hg3
              have y1 : wr.cell? ⟨g2, o2 + j, none⟩ = some (.slice py y.length cy) := cell_G HY1.out hg3
              by_cases hkl : k < y.length
              · obtain ⟨z, hz⟩ : ∃ z, y[k]? = some z := ⟨_, List.getElem?_eq_getElem hkl⟩
                have hvr := HVR.out.G hg3
                obtain ⟨g3, o3, c3, qq⟩ := hvr.addr (by omega)
                injection qq with q1 q2 q3
                subst q1 q3
                obtain ⟨z1, z2, z3, z4⟩ := RV.at hvr hz
                have k1 : (k : Int) < y.length := Int.ofNat_lt.2 hkl
                have HWK : Hid (wrap64 ((k : Int) + 1) = (k : Int) + 1) := by show _ = _; have := HYL.out; unfold wrap64; omega
                have KV := hide (rv_any z.k z.a z.b z.s (HB.out.2.2.t x (List.mem_of_getElem? HX.out.1) y (List.mem_of_getElem? HY.out.1) z (List.mem_of_getElem? hz)) wr)
                have HA := hide (And.intro hg3 (And.intro hc (And.intro hz hkl)))
                clear hk hkl hg3 hc hz q2 hvr
                go_wp2_with fail
                refine KV.out.mono ?_
                rintro e w5 ⟨rfl, g5⟩
                obtain ⟨hg3, hc, hz, hkl⟩ := HA.out
                cases hv : okV z.k z.a z.b z.s with
                | false =>
                  have HF : Hid (rpOk q = false ∧ G w1 w5) := ⟨by
                    have h1 : rwOk y = false := all_no hz hv
                    have h2 : tbOk x = false := all_no HY.out.1 h1
                    unfold rpOk; rw [all_no HX.out.1 h2]; simp, HGC.out.trans (hg3.trans g5)⟩
                  clear hg3 hc hz hkl HA KV g5 x1 y1 z1 z2 z3 z4 hv kb
                  go_wp2_with fail
                  go_ret
                  exact ⟨by rw [HF.out.1]; rfl, HG1.out.trans HF.out.2⟩
                | true =>
                  have HF : Hid (k < y.length ∧ G wc w5 ∧ (y.take (k + 1)).all vOk = true) := ⟨hkl, hg3.trans g5, all_step hc hz hv⟩
                  clear hg3 hc hz hkl HA KV g5 x1 y1 z1 z2 z3 z4 hv kb
                  go_wp2_with fail
                  try rw [HWK.out]
                  refine ⟨⟨k + 1, rfl, HF.out.1, HF.out.2⟩, ?_⟩
                  simp only [RowKit.intOf]; have := HF.out.1; omega
              · have k1 : ¬ ((k : Int) < y.length) := by omega
                have HF : Hid (j < x.rows.length ∧ G wa wr ∧ (x.rows.take (j + 1)).all rwOk = true) := ⟨HY.out.2.1, HGA.out.trans hg3, all_step HY.out.2.2 HY.out.1 (all_fin hc hkl)⟩
                clear hk hkl hg3 hc
                go_wp2_with fail
                try rw [HWJ.out]
                refine ⟨⟨j + 1, rfl, HF.out.1, HF.out.2⟩, ?_⟩
                simp only [RowKit.intOf]; have := HF.out.1; omega
          · have j1 : ¬ ((j : Int) < x.rows.length) := by omega
            have HF : Hid (i < q.tables.length ∧ G w1 wc ∧ (q.tables.take (i + 1)).all tbOk = true) := ⟨HX.out.2.1, HGB.out.trans hg2, all_step HX.out.2.2 HX.out.1 (all_fin hb hjl)⟩
            clear hj hjl hg2 hb
            go_wp2_with fail
            try rw [HWI.out]
            refine ⟨⟨i + 1, rfl, HF.out.1, HF.out.2⟩, ?_⟩
            simp only [RowKit.intOf]; have := HF.out.1; omega
      · have i1 : ¬ ((i : Int) < q.tables.length) := by omega
        have HAT : Hid (q.tables.all tbOk = true) := all_fin ha hil
        have HG := hide hg
        clear hi hil hg ha
        go_wp2_with fail
        go_loopw [6] (fun iv wr => ∃ i : Nat, iv = I i ∧ i ≤ q.nodes.length ∧ G w1 wr ∧ (q.nodes.take i).all (fun n => psOk n.ps) = true) (fun iv _ => q.nodes.length - (RowKit.intOf iv).toNat)
        case atStart => exact ⟨0, rfl, Nat.zero_le _, HG.out, all_0 _ _⟩
        case round =>
          obtain ⟨i, rfl, hi, hg, ha⟩ := hrel
          clear HG
          have kb := (HB.out.1.G hg).cell
          by_cases hil : i < q.nodes.length
          · obtain ⟨x, hx⟩ : ∃ x, q.nodes[i]? = some x := ⟨_, List.getElem?_eq_getElem hil⟩
            have hrow := HB.out.2.1.nodes.G hg
            obtain ⟨g, o, c, qq⟩ := hrow.addr (by omega)
            injection qq with q1 q2 q3
            subst q1 q3
            obtain ⟨cs, ⟨vp, hcs, hvp, hlp⟩, hra⟩ := hrow.at hx
            subst hcs
            have x1 : wr.cell? ⟨g, o + i * 3 + 2, none⟩ = some vp := hra 2 vp rfl
            have i1 : (i : Int) < q.nodes.length := Int.ofNat_lt.2 hil
            have HW : Hid (wrap64 ((i : Int) + 1) = (i : Int) + 1) := by show _ = _; have := HB.out.2.1.ld; unfold wrap64; omega
            have KV := hide (pmay_any x.ps vp wr hvp hlp (HB.out.2.2.d x (List.mem_of_getElem? hx)))
            obtain ⟨pp, pc, rfl⟩ := hvp.form
            have HA := hide (And.intro hg (And.intro ha (And.intro hx hil)))
            clear hi hil hg ha hx q2 hra hvp hlp hrow
            go_wp2_with fail
            refine KV.out.mono ?_
            rintro e w5 ⟨rfl, g5⟩
            obtain ⟨hg, ha, hx, hil⟩ := HA.out
            cases hv : psOk x.ps with
            | false =>
              have HF : Hid (rpOk q = false ∧ G w1 w5) := ⟨by unfold rpOk; rw [all_no (p := fun n => psOk n.ps) hx hv]; simp, hg.trans g5⟩
              clear hg ha hx hil HA KV g5 x1 hv kb
              go_wp2_with fail
              go_ret
              exact ⟨by rw [HF.out.1]; rfl, HG1.out.trans HF.out.2⟩
            | true =>
              have HF : Hid (i < q.nodes.length ∧ G w1 w5 ∧ (q.nodes.take (i + 1)).all (fun n => psOk n.ps) = true) := ⟨hil, hg.trans g5, all_step ha hx hv⟩
              clear hg ha hx hil HA KV g5 x1 hv kb
              go_wp2_with fail
              try rw [HW.out]
              refine ⟨⟨i + 1, rfl, HF.out.1, HF.out.2⟩, ?_⟩
              simp only [RowKit.intOf]; have := HF.out.1; omega
          · have i1 : ¬ ((i : Int) < q.nodes.length) := by omega
            have HAd : Hid (q.nodes.all (fun n => psOk n.ps) = true) := all_fin ha hil
            have HG := hide hg
            clear hi hil hg ha
            go_wp2_with fail
            go_loopw [7] (fun iv wr => ∃ i : Nat, iv = I i ∧ i ≤ q.edges.length ∧ G w1 wr ∧ (q.edges.take i).all (fun n => psOk n.ps) = true) (fun iv _ => q.edges.length - (RowKit.intOf iv).toNat)
            case atStart => exact ⟨0, rfl, Nat.zero_le _, HG.out, all_0 _ _⟩
            case round =>
              obtain ⟨i, rfl, hi, hg, ha⟩ := hrel
              clear HG
              have kb := (HB.out.1.G hg).cell
              by_cases hil : i < q.edges.length
              · obtain ⟨x, hx⟩ : ∃ x, q.edges[i]? = some x := ⟨_, List.getElem?_eq_getElem hil⟩
                have hrow := HB.out.2.1.edges.G hg
                obtain ⟨g, o, c, qq⟩ := hrow.addr (by omega)
                injection qq with q1 q2 q3
                subst q1 q3
                obtain ⟨cs, ⟨vp, hcs, hvp, hlp⟩, hra⟩ := hrow.at hx
                subst hcs
                have x1 : wr.cell? ⟨g, o + i * 5 + 4, none⟩ = some vp := hra 4 vp rfl
                have i1 : (i : Int) < q.edges.length := Int.ofNat_lt.2 hil
                have HW : Hid (wrap64 ((i : Int) + 1) = (i : Int) + 1) := by show _ = _; have := HB.out.2.1.le; unfold wrap64; omega
                have KV := hide (pmay_any x.ps vp wr hvp hlp (HB.out.2.2.e x (List.mem_of_getElem? hx)))
                obtain ⟨pp, pc, rfl⟩ := hvp.form
                have HA := hide (And.intro hg (And.intro ha (And.intro hx hil)))
                clear hi hil hg ha hx q2 hra hvp hlp hrow
                go_wp2_with fail
                refine KV.out.mono ?_
                rintro e w5 ⟨rfl, g5⟩
                obtain ⟨hg, ha, hx, hil⟩ := HA.out
                cases hv : psOk x.ps with
                | false =>
                  have HF : Hid (rpOk q = false ∧ G w1 w5) := ⟨by unfold rpOk; rw [all_no (p := fun n => psOk n.ps) hx hv]; simp, hg.trans g5⟩
                  clear hg ha hx hil HA KV g5 x1 hv kb
                  go_wp2_with fail
                  go_ret
                  exact ⟨by rw [HF.out.1]; rfl, HG1.out.trans HF.out.2⟩
                | true =>
                  have HF : Hid (i < q.edges.length ∧ G w1 w5 ∧ (q.edges.take (i + 1)).all (fun n => psOk n.ps) = true) := ⟨hil, hg.trans g5, all_step ha hx hv⟩
                  clear hg ha hx hil HA KV g5 x1 hv kb
                  go_wp2_with fail
                  try rw [HW.out]
                  refine ⟨⟨i + 1, rfl, HF.out.1, HF.out.2⟩, ?_⟩
                  simp only [RowKit.intOf]; have := HF.out.1; omega
              · have i1 : ¬ ((i : Int) < q.edges.length) := by omega
                have HAe : Hid (q.edges.all (fun n => psOk n.ps) = true) := all_fin ha hil
                have HG := hide hg
                clear hi hil hg ha
                go_wp2_with fail
                go_ret
                exact ⟨by show _ = Ending.returned (.bool (rpOk q)); unfold rpOk; rw [HAT.out, HAd.out, HAe.out, decide_eq_true HL.out]; rfl, HG1.out.trans HG.out⟩
  · have i1 : (4096 : Int) < q.nums.length := by omega
    have HF : Hid (rpOk q = false) := by show _ = _; unfold rpOk; rw [decide_eq_false hl]; simp
    clear hl
    go_enter Tryz.func30, Tryz.ntmps30
    go_wp2_with fail
    rw [show W.alloc (.cells #[I q.dst, I q.code, .slice na q.nums.length nc, .slice ta q.texts.length tc, .slice ba q.tables.length bc, .slice da q.nodes.length dc, .slice ea q.edges.length ec] 41) = w1 from HW1.out.symm]
    go_ret
    exact ⟨by rw [HF.out]; rfl, HG1.out⟩
end Go.Proofs.YtcdjjmjhdoanlaaGreatDoor
