/- Wire: two replies that are the same. -/
import Derived.Test.YtcdjjmjhdoanlaaGreatDoorW52
namespace Go.Proofs.YtcdjjmjhdoanlaaGreatDoor
open Go.RowKit

set_option maxRecDepth 100000 in
set_option maxHeartbeats 1000000 in
theorem stable_any (t : Tb) (u v u' v' : Value) (W : World) (h1 : Row eS.rel W u t.cols) (h2 : Row rVl W v t.rows) (k1 : Row eS.rel W u' t.cols) (k2 : Row rVl W v' t.rows) (l1 : t.cols.length ≤ 140737488355328) (l2 : t.rows.length ≤ 140737488355328) :
    Calls Tryz.prog 40 #[.agg #[u, v, I t.made, I t.gone, I t.set], .agg #[u', v', I t.made, I t.gone, I t.set]] W fun e W' => e = .returned (.bool true) ∧ G W W' := by
  obtain ⟨ca, cc, rfl⟩ := h1.form
  obtain ⟨ra, rc, rfl⟩ := h2.form
  obtain ⟨ca', cc', rfl⟩ := k1.form
  obtain ⟨ra', rc', rfl⟩ := k2.form
  obtain ⟨w2, hw2⟩ : ∃ w2, w2 = (W.alloc (.cells #[.slice ca t.cols.length cc, .slice ra t.rows.length rc, I t.made, I t.gone, I t.set] 74)).alloc (.cells #[.slice ca' t.cols.length cc', .slice ra' t.rows.length rc', I t.made, I t.gone, I t.set] 74) := ⟨_, rfl⟩
  have hg2 : G W w2 := by rw [hw2]; exact ((G.refl W).alloc _).alloc _
  have hB2 : Blk w2 W.heap.size 74 [.slice ca t.cols.length cc, .slice ra t.rows.length rc, I t.made, I t.gone, I t.set] := by rw [hw2]; exact (Blk.new W [.slice ca t.cols.length cc, .slice ra t.rows.length rc, I t.made, I t.gone, I t.set] 74).G ((G.refl _).alloc _)
  have hC2 : Blk w2 (W.heap.size + 1) 74 [.slice ca' t.cols.length cc', .slice ra' t.rows.length rc', I t.made, I t.gone, I t.set] := by
    have := Blk.new (W.alloc (.cells #[.slice ca t.cols.length cc, .slice ra t.rows.length rc, I t.made, I t.gone, I t.set] 74)) [.slice ca' t.cols.length cc', .slice ra' t.rows.length rc', I t.made, I t.gone, I t.set] 74
    rw [hw2]
    simpa using this
  have HEW : Hid ((W.alloc (.cells #[.slice ca t.cols.length cc, .slice ra t.rows.length rc, I t.made, I t.gone, I t.set] 74)).alloc (.cells #[.slice ca' t.cols.length cc', .slice ra' t.rows.length rc', I t.made, I t.gone, I t.set] 74) = w2) := hw2.symm
  have HB := hide (And.intro hB2 hC2)
  have HG2 := hide hg2
  have KT := hide (dtexts_any t.cols _ _ w2 (h1.G hg2) (k1.G hg2) l1)
  have HRA := hide (h2.G hg2)
  have HRB := hide (k2.G hg2)
  have HL := hide l2
  have b2 := hB2.cell
  have c2 := hC2.cell
  clear h1 h2 k1 k2 l1 l2 hg2 hB2 hC2 hw2
  go_enter Tryz.func40, Tryz.ntmps40
  go_wp2_with fail
  rw [HEW.out]
  refine KT.out.mono ?_
  rintro e w3 ⟨rfl, m, hw3⟩
  have hg3 : G w2 w3 := by rw [hw3]; exact (G.refl w2).drewN m
  have b3 := (HB.out.1.G hg3).cell
  have c3 := (HB.out.2.G hg3).cell
  have HG3 := hide hg3
  clear hw3 hg3 KT b2 c2
  go_wp2_with fail
  clear b3 c3
  go_loopw [5] (fun iv wr => ∃ i : Nat, iv = I i ∧ i ≤ t.rows.length ∧ G w3 wr) (fun iv _ => t.rows.length - (RowKit.intOf iv).toNat)
  case atStart => exact ⟨0, rfl, Nat.zero_le _, G.refl _⟩
  case round =>
    obtain ⟨i, rfl, hi, hg⟩ := hrel
    obtain ⟨wo, hwo⟩ : ∃ wo, wo = wr := ⟨_, rfl⟩
    subst hwo
    have hgo := HG3.out.trans hg
    have kb := (HB.out.1.G hgo).cell
    have kc := (HB.out.2.G hgo).cell
    by_cases hil : i < t.rows.length
    · obtain ⟨x, hx⟩ : ∃ x, t.rows[i]? = some x := ⟨_, List.getElem?_eq_getElem hil⟩
      have hra := HRA.out.G hgo
      have hrb := HRB.out.G hgo
      obtain ⟨g, o, c, q⟩ := hra.addr (by omega)
      obtain ⟨g', o', c', q'⟩ := hrb.addr (by omega)
      injection q with q1 q2 q3
      injection q' with q1' q2' q3'
      subst q1 q1' q3 q3'
      clear q2 q2'
      obtain ⟨cs, ⟨vy, hcs, hvy, hly⟩, hr1⟩ := hra.at hx
      subst hcs
      obtain ⟨cs, ⟨vz, hcs, hvz, _⟩, hr2⟩ := hrb.at hx
      subst hcs
      obtain ⟨py, cy, rfl⟩ := hvy.form
      obtain ⟨pz9, cz, rfl⟩ := hvz.form
      have x1 : wo.cell? ⟨g, o + i, none⟩ = some (.slice py x.length cy) := by have := hr1 0 _ rfl; simpa using this
      have x2 : wo.cell? ⟨g', o' + i, none⟩ = some (.slice pz9 x.length cz) := by have := hr2 0 _ rfl; simpa using this
      have i1 : (i : Int) < t.rows.length := Int.ofNat_lt.2 hil
      have HWI : Hid (wrap64 ((i : Int) + 1) = (i : Int) + 1) := by show _ = _; have := HL.out; unfold wrap64; omega
      have HX := hide (And.intro x1 x2)
      have HVA := hide (And.intro hvy (And.intro hvz hly))
      have HI := hide hil
      have HGO := hide hgo
      have HGW := hide hg
      clear hi hil hg hgo hx hra hrb hr1 hr2 hvy hvz hly
      go_wp2_with fail
      go_quiet (fail)
      generalize hV : World.drewN wo _ = V
      have HGV : Hid (G wo V) := by rw [← hV]; exact (G.refl wo).drewN _
      clear hV kb kc x1 x2
      go_wp2_with fail
      go_loopw [6] (fun jv wr => ∃ j : Nat, jv = I j ∧ j ≤ x.length ∧ G wo wr) (fun jv _ => x.length - (RowKit.intOf jv).toNat)
      case atStart => exact ⟨0, rfl, Nat.zero_le _, HGV.out⟩
      case round =>
        obtain ⟨j, rfl, hj, hg⟩ := hrel
        clear HGV
        have kb := (HB.out.1.G (HGO.out.trans hg)).cell
        have kc := (HB.out.2.G (HGO.out.trans hg)).cell
        have x1 := cell_G HX.out.1 hg
        have x2 := cell_G HX.out.2 hg
        by_cases hjl : j < x.length
        · obtain ⟨z, hz⟩ : ∃ z, x[j]? = some z := ⟨_, List.getElem?_eq_getElem hjl⟩
          have hra := HVA.out.1.G hg
          have hrb := HVA.out.2.1.G hg
          obtain ⟨g3, o3, c3, q⟩ := hra.addr (by omega)
          obtain ⟨g4, o4, c4, q'⟩ := hrb.addr (by omega)
          injection q with q1 q2 q3
          injection q' with q1' q2' q3'
          subst q1 q1' q3 q3'
          obtain ⟨z1, z2, z3, z4⟩ := RV.at hra hz
          obtain ⟨y1, y2, y3, y4⟩ := RV.at hrb hz
          have j1 : (j : Int) < x.length := Int.ofNat_lt.2 hjl
          have HWJ : Hid (wrap64 ((j : Int) + 1) = (j : Int) + 1) := by show _ = _; have := HVA.out.2.2; unfold wrap64; omega
          have HJ := hide hjl
          have HG := hide hg
          clear hj hjl hg hra hrb q2 q2' hz
          go_wp2_with fail
          go_quiet (fail)
          generalize hV : World.drewN wr _ = V
          have HGV : Hid (G wo V) := by rw [← hV]; exact HG.out.drewN _
          clear hV kb kc x1 x2 z1 z2 z3 z4 y1 y2 y3 y4
          go_wp2_with fail
          try rw [HWJ.out]
          refine ⟨⟨j + 1, rfl, HJ.out, HGV.out⟩, ?_⟩
          simp only [RowKit.intOf]; have := HJ.out; omega
        · have j1 : ¬ ((j : Int) < x.length) := by omega
          have HF : Hid (i < t.rows.length ∧ G w3 wr) := ⟨HI.out, HGW.out.trans hg⟩
          clear hj hjl hg
          go_wp2_with fail
          try rw [HWI.out]
          refine ⟨⟨i + 1, rfl, HF.out.1, HF.out.2⟩, ?_⟩
          simp only [RowKit.intOf]; have := HF.out.1; omega
    · have i1 : ¬ ((i : Int) < t.rows.length) := by omega
      have HF : Hid (G W wo) := HG2.out.trans hgo
      clear hi hil hg hgo
      go_wp2_with fail
      go_ret
      exact ⟨rfl, HF.out⟩
set_option maxRecDepth 100000 in
set_option maxHeartbeats 1000000 in
theorem sgraph_any (ns : List Nd) (es : List Ed) (d e d' e' : Value) (W : World) (h1 : Row rNd W d ns) (h2 : Row rEd W e es) (k1 : Row rNd W d' ns) (k2 : Row rEd W e' es) (l1 : ns.length ≤ 140737488355328) (l2 : es.length ≤ 140737488355328) :
    Calls Tryz.prog 41 #[.agg #[d, e], .agg #[d', e']] W fun en W' => en = .returned (.bool true) ∧ G W W' := by
  obtain ⟨da, dc, rfl⟩ := h1.form
  obtain ⟨ea, ec, rfl⟩ := h2.form
  obtain ⟨da', dc', rfl⟩ := k1.form
  obtain ⟨ea', ec', rfl⟩ := k2.form
  obtain ⟨w2, hw2⟩ : ∃ w2, w2 = (W.alloc (.cells #[.slice da ns.length dc, .slice ea es.length ec] 39)).alloc (.cells #[.slice da' ns.length dc', .slice ea' es.length ec'] 39) := ⟨_, rfl⟩
  have hg2 : G W w2 := by rw [hw2]; exact ((G.refl W).alloc _).alloc _
  have hB2 : Blk w2 W.heap.size 39 [.slice da ns.length dc, .slice ea es.length ec] := by rw [hw2]; exact (Blk.new W [.slice da ns.length dc, .slice ea es.length ec] 39).G ((G.refl _).alloc _)
  have hC2 : Blk w2 (W.heap.size + 1) 39 [.slice da' ns.length dc', .slice ea' es.length ec'] := by
    have := Blk.new (W.alloc (.cells #[.slice da ns.length dc, .slice ea es.length ec] 39)) [.slice da' ns.length dc', .slice ea' es.length ec'] 39
    rw [hw2]
    simpa using this
  have HEW : Hid ((W.alloc (.cells #[.slice da ns.length dc, .slice ea es.length ec] 39)).alloc (.cells #[.slice da' ns.length dc', .slice ea' es.length ec'] 39) = w2) := hw2.symm
  have HB := hide (And.intro hB2 hC2)
  have HG2 := hide hg2
  have HRA := hide (h1.G hg2)
  have HRB := hide (k1.G hg2)
  have HEA := hide (h2.G hg2)
  have HEB := hide (k2.G hg2)
  have HL := hide (And.intro l1 l2)
  have b2 := hB2.cell
  have c2 := hC2.cell
  clear h1 h2 k1 k2 l1 l2 hg2 hB2 hC2 hw2
  go_enter Tryz.func41, Tryz.ntmps41
  go_wp2_with fail
  rw [HEW.out]
  clear b2 c2
  go_loopw [5] (fun iv wr => ∃ i : Nat, iv = I i ∧ i ≤ ns.length ∧ G w2 wr) (fun iv _ => ns.length - (RowKit.intOf iv).toNat)
  case atStart => exact ⟨0, rfl, Nat.zero_le _, G.refl _⟩
  case round =>
    obtain ⟨i, rfl, hi, hg⟩ := hrel
    have kb := (HB.out.1.G hg).cell
    have kc := (HB.out.2.G hg).cell
    by_cases hil : i < ns.length
    · obtain ⟨x, hx⟩ : ∃ x, ns[i]? = some x := ⟨_, List.getElem?_eq_getElem hil⟩
      have hra := HRA.out.G hg
      have hrb := HRB.out.G hg
      obtain ⟨g, o, c, q⟩ := hra.addr (by omega)
      obtain ⟨g', o', c', q'⟩ := hrb.addr (by omega)
      injection q with q1 q2 q3
      injection q' with q1' q2' q3'
      subst q1 q1' q3 q3'
      clear q2 q2'
      obtain ⟨cs, ⟨vy, hcs, hvy, hly⟩, hr1⟩ := hra.at hx
      subst hcs
      obtain ⟨cs, ⟨vz, hcs, hvz, _⟩, hr2⟩ := hrb.at hx
      subst hcs
      have x1 : wr.cell? ⟨g, o + i * 3, none⟩ = some (I x.id) := hr1 0 _ rfl
      have x2 : wr.cell? ⟨g, o + i * 3 + 1, none⟩ = some (.string x.lb) := hr1 1 _ rfl
      have x3 : wr.cell? ⟨g, o + i * 3 + 2, none⟩ = some vy := hr1 2 _ rfl
      have y1 : wr.cell? ⟨g', o' + i * 3, none⟩ = some (I x.id) := hr2 0 _ rfl
      have y2 : wr.cell? ⟨g', o' + i * 3 + 1, none⟩ = some (.string x.lb) := hr2 1 _ rfl
      have y3 : wr.cell? ⟨g', o' + i * 3 + 2, none⟩ = some vz := hr2 2 _ rfl
      have i1 : (i : Int) < ns.length := Int.ofNat_lt.2 hil
      have KP : Hid (∀ n, Calls Tryz.prog 75 #[vy, vz] (wr.drewN n) fun e w' => e = .returned (.bool true) ∧ ∃ m, w' = (wr.drewN n).drewN m) := fun n => dprops_any x.ps vy vz _ (hvy.G ((G.refl wr).drewN n)) (hvz.G ((G.refl wr).drewN n)) hly
      obtain ⟨py, cy, rfl⟩ := hvy.form
      obtain ⟨pz9, cz, rfl⟩ := hvz.form
      have HW : Hid (wrap64 ((i : Int) + 1) = (i : Int) + 1) := by show _ = _; have := HL.out.1; unfold wrap64; omega
      have HI := hide hil
      have HG := hide hg
      clear hi hil hg hx hra hrb hr1 hr2 hvy hvz hly
      go_wp2_with fail
      go_quiet (first | (go_at_call 75; with_reducible refine Calls.quiet_of (KP.out _)))
      generalize hV : World.drewN wr _ = V
      have HGV : Hid (G w2 V) := by rw [← hV]; exact HG.out.drewN _
      clear hV kb kc x1 x2 x3 y1 y2 y3 KP
      go_wp2_with fail
      try rw [HW.out]
      refine ⟨⟨i + 1, rfl, HI.out, HGV.out⟩, ?_⟩
      simp only [RowKit.intOf]; have := HI.out; omega
    · have i1 : ¬ ((i : Int) < ns.length) := by omega
      have HG := hide hg
      clear hi hil hg
      go_wp2_with fail
      clear kb kc
      go_loopw [6] (fun iv wr => ∃ i : Nat, iv = I i ∧ i ≤ es.length ∧ G w2 wr) (fun iv _ => es.length - (RowKit.intOf iv).toNat)
      case atStart => exact ⟨0, rfl, Nat.zero_le _, HG.out⟩
      case round =>
        obtain ⟨i, rfl, hi, hg⟩ := hrel
        clear i1 HG
        have kb := (HB.out.1.G hg).cell
        have kc := (HB.out.2.G hg).cell
        by_cases hil : i < es.length
        · obtain ⟨x, hx⟩ : ∃ x, es[i]? = some x := ⟨_, List.getElem?_eq_getElem hil⟩
          have hra := HEA.out.G hg
          have hrb := HEB.out.G hg
          obtain ⟨g, o, c, q⟩ := hra.addr (by omega)
          obtain ⟨g', o', c', q'⟩ := hrb.addr (by omega)
          injection q with q1 q2 q3
          injection q' with q1' q2' q3'
          subst q1 q1' q3 q3'
          clear q2 q2'
          obtain ⟨cs, ⟨vy, hcs, hvy, hly⟩, hr1⟩ := hra.at hx
          subst hcs
          obtain ⟨cs, ⟨vz, hcs, hvz, _⟩, hr2⟩ := hrb.at hx
          subst hcs
          have KP := hide (fun (w' : World) (h : G wr w') => dprops_any x.ps vy vz w' (hvy.G h) (hvz.G h) hly)
          obtain ⟨py, cy, rfl⟩ := hvy.form
          obtain ⟨pz9, cz, rfl⟩ := hvz.form
          have x1 : wr.cell? ⟨g, o + i * 5, none⟩ = some (I x.id) := hr1 0 _ rfl
          have x2 : wr.cell? ⟨g, o + i * 5 + 1, none⟩ = some (.string x.ty) := hr1 1 _ rfl
          have x3 : wr.cell? ⟨g, o + i * 5 + 2, none⟩ = some (I x.fr) := hr1 2 _ rfl
          have x4 : wr.cell? ⟨g, o + i * 5 + 3, none⟩ = some (I x.dst) := hr1 3 _ rfl
          have x5 : wr.cell? ⟨g, o + i * 5 + 4, none⟩ = some (.slice py x.ps.length cy) := hr1 4 _ rfl
          have gA := (G.refl wr).alloc (.cells #[I x.id, .string x.ty, I x.fr, I x.dst, .slice py x.ps.length cy] 119)
          have y1 := cell_G (show wr.cell? ⟨g', o' + i * 5, none⟩ = some (I x.id) from hr2 0 _ rfl) gA
          have y2 := cell_G (show wr.cell? ⟨g', o' + i * 5 + 1, none⟩ = some (.string x.ty) from hr2 1 _ rfl) gA
          have y3 := cell_G (show wr.cell? ⟨g', o' + i * 5 + 2, none⟩ = some (I x.fr) from hr2 2 _ rfl) gA
          have y4 := cell_G (show wr.cell? ⟨g', o' + i * 5 + 3, none⟩ = some (I x.dst) from hr2 3 _ rfl) gA
          have y5 := cell_G (show wr.cell? ⟨g', o' + i * 5 + 4, none⟩ = some (.slice pz9 x.ps.length cz) from hr2 4 _ rfl) gA
          have kd := (HB.out.2.G (hg.trans gA)).cell
          have i1 : (i : Int) < es.length := Int.ofNat_lt.2 hil
          have HW : Hid (wrap64 ((i : Int) + 1) = (i : Int) + 1) := by show _ = _; have := HL.out.2; unfold wrap64; omega
          have HI := hide hil
          have HG := hide hg
          clear hi hil hg hx hra hrb hr1 hr2 hvy hvz hly gA
          go_wp2_with fail
          refine (KP.out _ (((G.refl wr).alloc _).alloc _)).mono ?_
          rintro e w5 ⟨rfl, m, hw5⟩
          have HG5 : Hid (G w2 w5) := by rw [hw5]; exact HG.out.trans ((((G.refl wr).alloc _).alloc _).drewN m)
          clear hw5 kb kc x1 x2 x3 x4 x5 y1 y2 y3 y4 y5 KP kd
          go_wp2_with fail
          try rw [HW.out]
          refine ⟨⟨i + 1, rfl, HI.out, HG5.out⟩, ?_⟩
          simp only [RowKit.intOf]; have := HI.out; omega
        · have i1 : ¬ ((i : Int) < es.length) := by omega
          have HF : Hid (G W wr) := HG2.out.trans hg
          clear hi hil hg
          go_wp2_with fail
          go_ret
          exact ⟨rfl, HF.out⟩
set_option maxRecDepth 100000 in
set_option maxHeartbeats 1000000 in
theorem sreply_any (q : Rp) (a b c d e a' b' c' d' e' : Value) (W : World) (h : RpL W a b c d e q) (k : RpL W a' b' c' d' e' q) :
    Calls Tryz.prog 16 #[.agg #[I q.dst, I q.code, a, b, c, d, e], .agg #[I q.dst, I q.code, a', b', c', d', e']] W fun en W' => en = .returned (.bool true) ∧ G W W' := by
  obtain ⟨na, nc, rfl⟩ := h.nums.form
  obtain ⟨ta, tc, rfl⟩ := h.texts.form
  obtain ⟨ba, bc, rfl⟩ := h.tables.form
  obtain ⟨da, dc, rfl⟩ := h.nodes.form
  obtain ⟨ea, ec, rfl⟩ := h.edges.form
  obtain ⟨na', nc', rfl⟩ := k.nums.form
  obtain ⟨ta', tc', rfl⟩ := k.texts.form
  obtain ⟨ba', bc', rfl⟩ := k.tables.form
  obtain ⟨da', dc', rfl⟩ := k.nodes.form
  obtain ⟨ea', ec', rfl⟩ := k.edges.form
  obtain ⟨w2, hw2⟩ : ∃ w2, w2 = (W.alloc (.cells #[I q.dst, I q.code, .slice na q.nums.length nc, .slice ta q.texts.length tc, .slice ba q.tables.length bc, .slice da q.nodes.length dc, .slice ea q.edges.length ec] 41)).alloc (.cells #[I q.dst, I q.code, .slice na' q.nums.length nc', .slice ta' q.texts.length tc', .slice ba' q.tables.length bc', .slice da' q.nodes.length dc', .slice ea' q.edges.length ec'] 41) := ⟨_, rfl⟩
  have hg2 : G W w2 := by rw [hw2]; exact ((G.refl W).alloc _).alloc _
  have hB2 : Blk w2 W.heap.size 41 [I q.dst, I q.code, .slice na q.nums.length nc, .slice ta q.texts.length tc, .slice ba q.tables.length bc, .slice da q.nodes.length dc, .slice ea q.edges.length ec] := by rw [hw2]; exact (Blk.new W [I q.dst, I q.code, .slice na q.nums.length nc, .slice ta q.texts.length tc, .slice ba q.tables.length bc, .slice da q.nodes.length dc, .slice ea q.edges.length ec] 41).G ((G.refl _).alloc _)
  have hC2 : Blk w2 (W.heap.size + 1) 41 [I q.dst, I q.code, .slice na' q.nums.length nc', .slice ta' q.texts.length tc', .slice ba' q.tables.length bc', .slice da' q.nodes.length dc', .slice ea' q.edges.length ec'] := by
    have := Blk.new (W.alloc (.cells #[I q.dst, I q.code, .slice na q.nums.length nc, .slice ta q.texts.length tc, .slice ba q.tables.length bc, .slice da q.nodes.length dc, .slice ea q.edges.length ec] 41)) [I q.dst, I q.code, .slice na' q.nums.length nc', .slice ta' q.texts.length tc', .slice ba' q.tables.length bc', .slice da' q.nodes.length dc', .slice ea' q.edges.length ec'] 41
    rw [hw2]
    simpa using this
  have HEW : Hid ((W.alloc (.cells #[I q.dst, I q.code, .slice na q.nums.length nc, .slice ta q.texts.length tc, .slice ba q.tables.length bc, .slice da q.nodes.length dc, .slice ea q.edges.length ec] 41)).alloc (.cells #[I q.dst, I q.code, .slice na' q.nums.length nc', .slice ta' q.texts.length tc', .slice ba' q.tables.length bc', .slice da' q.nodes.length dc', .slice ea' q.edges.length ec'] 41) = w2) := hw2.symm
  have HB := hide (And.intro hB2 hC2)
  have HG2 := hide hg2
  have hh := h.G hg2
  have hk := k.G hg2
  have KN := hide (dnums_any q.nums _ _ w2 hh.nums hk.nums hh.ln)
  have KX := hide (fun (w' : World) (g : G w2 w') => dtexts_any q.texts _ _ w' (hh.texts.G g) (hk.texts.G g) hh.lt)
  have KG := hide (fun (w' : World) (g : G w2 w') => sgraph_any q.nodes q.edges _ _ _ _ w' (hh.nodes.G g) (hh.edges.G g) (hk.nodes.G g) (hk.edges.G g) hh.ld hh.le)
  have HRA := hide hh.tables
  have HRB := hide hk.tables
  have HL := hide hh.lb
  have b2 := hB2.cell
  have c2 := hC2.cell
  clear h k hh hk hg2 hB2 hC2 hw2
  go_enter Tryz.func16, Tryz.ntmps16
  go_wp2_with fail
  rw [HEW.out]
  refine KN.out.mono ?_
  rintro e w3 ⟨rfl, m, hw3⟩
  have hg3 : G w2 w3 := by rw [hw3]; exact (G.refl w2).drewN m
  have b3 := (HB.out.1.G hg3).cell
  have c3 := (HB.out.2.G hg3).cell
  have HG3 := hide hg3
  clear hw3 hg3 KN b2 c2
  go_wp2_with fail
  refine (KX.out _ HG3.out).mono ?_
  rintro e w4 ⟨rfl, m, hw4⟩
  have hg4 : G w2 w4 := by rw [hw4]; exact HG3.out.drewN m
  have b4 := (HB.out.1.G hg4).cell
  have c4 := (HB.out.2.G hg4).cell
  have HG4 := hide hg4
  clear hw4 hg4 KX b3 c3 HG3
  go_wp2_with fail
  clear b4 c4
  go_loopw [5] (fun iv wr => ∃ i : Nat, iv = I i ∧ i ≤ q.tables.length ∧ G w2 wr) (fun iv _ => q.tables.length - (RowKit.intOf iv).toNat)
  case atStart => exact ⟨0, rfl, Nat.zero_le _, HG4.out⟩
  case round =>
    obtain ⟨i, rfl, hi, hg⟩ := hrel
    clear HG4
    have kb := (HB.out.1.G hg).cell
    have kc := (HB.out.2.G hg).cell
    by_cases hil : i < q.tables.length
    · obtain ⟨x, hx⟩ : ∃ x, q.tables[i]? = some x := ⟨_, List.getElem?_eq_getElem hil⟩
      have hra := HRA.out.G hg
      have hrb := HRB.out.G hg
      obtain ⟨g, o, c, qq⟩ := hra.addr (by omega)
      obtain ⟨g', o', c', qq'⟩ := hrb.addr (by omega)
      injection qq with p1 p2 p3
      injection qq' with p1' p2' p3'
      subst p1 p1' p3 p3'
      clear p2 p2'
      obtain ⟨cs, ⟨vu, vv, hcs, hvu, hvv, hlu, hlv⟩, hr1⟩ := hra.at hx
      subst hcs
      obtain ⟨cs, ⟨vu', vv', hcs, hvu', hvv', _, _⟩, hr2⟩ := hrb.at hx
      subst hcs
      have KT := hide (fun (w' : World) (g : G wr w') => stable_any x vu vv vu' vv' w' (hvu.G g) (hvv.G g) (hvu'.G g) (hvv'.G g) hlu hlv)
      have HT5 : Hid (∀ V, G wr V → V.cell? ⟨g, o + i * 5, none⟩ = some vu ∧ V.cell? ⟨g, o + i * 5 + 1, none⟩ = some vv ∧ V.cell? ⟨g, o + i * 5 + 2, none⟩ = some (I x.made) ∧ V.cell? ⟨g, o + i * 5 + 3, none⟩ = some (I x.gone) ∧ V.cell? ⟨g, o + i * 5 + 4, none⟩ = some (I x.set) ∧ V.cell? ⟨g', o' + i * 5, none⟩ = some vu' ∧ V.cell? ⟨g', o' + i * 5 + 1, none⟩ = some vv' ∧ V.cell? ⟨g', o' + i * 5 + 2, none⟩ = some (I x.made) ∧ V.cell? ⟨g', o' + i * 5 + 3, none⟩ = some (I x.gone) ∧ V.cell? ⟨g', o' + i * 5 + 4, none⟩ = some (I x.set)) := fun V gV => ⟨cell_G (hr1 0 _ rfl) gV, cell_G (hr1 1 _ rfl) gV, cell_G (hr1 2 _ rfl) gV, cell_G (hr1 3 _ rfl) gV, cell_G (hr1 4 _ rfl) gV, cell_G (hr2 0 _ rfl) gV, cell_G (hr2 1 _ rfl) gV, cell_G (hr2 2 _ rfl) gV, cell_G (hr2 3 _ rfl) gV, cell_G (hr2 4 _ rfl) gV⟩
      have i1 : (i : Int) < q.tables.length := Int.ofNat_lt.2 hil
      have HW : Hid (wrap64 ((i : Int) + 1) = (i : Int) + 1) := by show _ = _; have := HL.out; unfold wrap64; omega
      have HI := hide hil
      have HG := hide hg
      clear hi hil hg hx hra hrb hr1 hr2 hvu hvv hlu hlv hvu' hvv'
      go_wp2_with fail
      clear kb kc
      refine wp_region_noPanic ?_
      refine wp_region_held_drew (S := (fun V => G wr V)) (by kernel_rfl) ((G.refl wr).drew) (fun hHeld => ?_)
      refine wpAnyH_take (i := 0) (v := ?_) rfl (by kernel_rfl) (by kernel_rfl) (by kernel_rfl) (fun _ _ _ h => h) (Or.inl ⟨by rfl, ?_⟩) hHeld ?_
      rotate_left 1
      · (intro w hSw; have q1 := (HB.out.1.G (HG.out.trans hSw)).cell; have q2 := (HB.out.2.G (HG.out.trans hSw)).cell; obtain ⟨t1, t2, t3, t4, t5, s1, s2, s3, s4, s5⟩ := HT5.out _ hSw; go_simp; try with_reducible rfl)
      try simp only [Act.put, List.getElem_toArray, List.getElem_cons_zero, List.setIfInBounds_toArray, List.set_cons_zero, List.set_cons_succ]
      refine wpAnyH_take (i := 1) (v := ?_) rfl (by kernel_rfl) (by kernel_rfl) (by kernel_rfl) (fun _ _ _ h => h) (Or.inl ⟨by rfl, ?_⟩) hHeld ?_
      rotate_left 1
      · (intro w hSw; have q1 := (HB.out.1.G (HG.out.trans hSw)).cell; have q2 := (HB.out.2.G (HG.out.trans hSw)).cell; obtain ⟨t1, t2, t3, t4, t5, s1, s2, s3, s4, s5⟩ := HT5.out _ hSw; go_simp; try with_reducible rfl)
      try simp only [Act.put, List.getElem_toArray, List.getElem_cons_zero, List.getElem_cons_succ, List.setIfInBounds_toArray, List.set_cons_zero, List.set_cons_succ]
      refine wpAnyH_take (i := 2) (v := ?_) rfl (by kernel_rfl) (by kernel_rfl) (by kernel_rfl) (fun _ _ _ h => h) (Or.inl ⟨by rfl, ?_⟩) hHeld ?_
      rotate_left 1
      · (intro w hSw; (try dsimp only at hSw); go_simp; try with_reducible rfl)
      try simp only [Act.put, List.getElem_toArray, List.getElem_cons_zero, List.getElem_cons_succ, List.setIfInBounds_toArray, List.set_cons_zero, List.set_cons_succ]
      refine wpAnyH_take (i := 3) (v := ?_) rfl (by kernel_rfl) (by kernel_rfl) (by kernel_rfl) (fun _ _ _ h => h) (Or.inl ⟨by rfl, ?_⟩) hHeld ?_
      rotate_left 1
      · (intro w hSw; have q1 := (HB.out.1.G (HG.out.trans hSw)).cell; have q2 := (HB.out.2.G (HG.out.trans hSw)).cell; obtain ⟨t1, t2, t3, t4, t5, s1, s2, s3, s4, s5⟩ := HT5.out _ hSw; go_simp; try with_reducible rfl)
      try simp only [Act.put, List.getElem_toArray, List.getElem_cons_zero, List.getElem_cons_succ, List.setIfInBounds_toArray, List.set_cons_zero, List.set_cons_succ]
      refine wpAnyH_take (i := 4) (v := ?_) rfl (by kernel_rfl) (by kernel_rfl) (by kernel_rfl) (fun _ _ _ h => h) (Or.inl ⟨by rfl, ?_⟩) hHeld ?_
      rotate_left 1
      · (intro w hSw; have q1 := (HB.out.1.G (HG.out.trans hSw)).cell; have q2 := (HB.out.2.G (HG.out.trans hSw)).cell; obtain ⟨t1, t2, t3, t4, t5, s1, s2, s3, s4, s5⟩ := HT5.out _ hSw; go_simp; try with_reducible rfl)
      try simp only [Act.put, List.getElem_toArray, List.getElem_cons_zero, List.getElem_cons_succ, List.setIfInBounds_toArray, List.set_cons_zero, List.set_cons_succ]
      refine wpAnyH_take (i := 5) (v := ?_) rfl (by kernel_rfl) (by kernel_rfl) (by kernel_rfl) (fun _ _ _ h => h) (Or.inl ⟨by rfl, ?_⟩) hHeld ?_
      rotate_left 1
      · (intro w hSw; have q1 := (HB.out.1.G (HG.out.trans hSw)).cell; have q2 := (HB.out.2.G (HG.out.trans hSw)).cell; obtain ⟨t1, t2, t3, t4, t5, s1, s2, s3, s4, s5⟩ := HT5.out _ hSw; go_simp; try with_reducible rfl)
      try simp only [Act.put, List.getElem_toArray, List.getElem_cons_zero, List.getElem_cons_succ, List.setIfInBounds_toArray, List.set_cons_zero, List.set_cons_succ]
      refine wpAnyH_take (i := 6) (v := ?_) rfl (by kernel_rfl) (by kernel_rfl) (by kernel_rfl) (fun _ _ _ h => h) (Or.inl ⟨by rfl, ?_⟩) hHeld ?_
      rotate_left 1
      · (intro w hSw; have q1 := (HB.out.1.G (HG.out.trans hSw)).cell; have q2 := (HB.out.2.G (HG.out.trans hSw)).cell; obtain ⟨t1, t2, t3, t4, t5, s1, s2, s3, s4, s5⟩ := HT5.out _ hSw; go_simp; try with_reducible rfl)
      try simp only [Act.put, List.getElem_toArray, List.getElem_cons_zero, List.getElem_cons_succ, List.setIfInBounds_toArray, List.set_cons_zero, List.set_cons_succ]
      refine wpAnyH_take (i := 7) (v := ?_) rfl (by kernel_rfl) (by kernel_rfl) (by kernel_rfl) (fun _ _ _ h => h) (Or.inl ⟨by rfl, ?_⟩) hHeld ?_
      rotate_left 1
      · (intro w hSw; (try dsimp only at hSw); go_simp; try with_reducible rfl)
      try simp only [Act.put, List.getElem_toArray, List.getElem_cons_zero, List.getElem_cons_succ, List.setIfInBounds_toArray, List.set_cons_zero, List.set_cons_succ]
      refine wpAnyH_take (i := 8) (v := ?_) rfl (by kernel_rfl) (by kernel_rfl) (by kernel_rfl) (fun _ _ _ h => h) (Or.inl ⟨by rfl, ?_⟩) hHeld ?_
      rotate_left 1
      · (intro w hSw; have q1 := (HB.out.1.G (HG.out.trans hSw)).cell; have q2 := (HB.out.2.G (HG.out.trans hSw)).cell; obtain ⟨t1, t2, t3, t4, t5, s1, s2, s3, s4, s5⟩ := HT5.out _ hSw; go_simp; try with_reducible rfl)
      try simp only [Act.put, List.getElem_toArray, List.getElem_cons_zero, List.getElem_cons_succ, List.setIfInBounds_toArray, List.set_cons_zero, List.set_cons_succ]
      refine wpAnyH_take (i := 9) (v := ?_) rfl (by kernel_rfl) (by kernel_rfl) (by kernel_rfl) (fun _ _ _ h => h) (Or.inl ⟨by rfl, ?_⟩) hHeld ?_
      rotate_left 1
      · (intro w hSw; have q1 := (HB.out.1.G (HG.out.trans hSw)).cell; have q2 := (HB.out.2.G (HG.out.trans hSw)).cell; obtain ⟨t1, t2, t3, t4, t5, s1, s2, s3, s4, s5⟩ := HT5.out _ hSw; go_simp; try with_reducible rfl)
      try simp only [Act.put, List.getElem_toArray, List.getElem_cons_zero, List.getElem_cons_succ, List.setIfInBounds_toArray, List.set_cons_zero, List.set_cons_succ]
      refine wpAnyH_ready (rs := [10]) (by kernel_rfl) (by simp) (AllReadyH.cons rfl (fun K hK => ?_) AllReadyH.nil)
      clear hHeld
      go_simp
      refine (KT.out _ ((G.refl wr).drew)).mono ?_
      rintro e w5 ⟨rfl, g5⟩
      have HG5 : Hid (G wr w5) := ((G.refl wr).drew).trans g5
      clear g5
      go_wp2_with fail
      refine hK.out _ _ (HG5.out) (fun hHeld => ?_)
      clear hK K
      try simp only [Act.put, List.getElem_toArray, List.getElem_cons_zero, List.getElem_cons_succ, List.setIfInBounds_toArray, List.set_cons_zero, List.set_cons_succ]
      refine wpAnyH_take (i := 11) (v := ?_) rfl (by kernel_rfl) (by kernel_rfl) (by kernel_rfl) (fun _ _ _ h => h) (Or.inl ⟨by rfl, ?_⟩) hHeld ?_
      rotate_left 1
      · (intro w hSw; (try dsimp only at hSw); go_simp; try with_reducible rfl)
      try simp only [Act.put, List.getElem_toArray, List.getElem_cons_zero, List.getElem_cons_succ, List.setIfInBounds_toArray, List.set_cons_zero, List.set_cons_succ]
      refine wpAnyH_done (by kernel_rfl) ?_ _
      refine NoPanic.normal ?_
      clear hHeld
      go_wp2_with fail
      try rw [HW.out]
      refine ⟨⟨i + 1, rfl, HI.out, HG.out.trans HG5.out⟩, ?_⟩
      simp only [RowKit.intOf]; have := HI.out; omega
    · have i1 : ¬ ((i : Int) < q.tables.length) := by omega
      have HG := hide hg
      clear hi hil hg
      go_wp2_with fail
      refine (KG.out _ HG.out).mono ?_
      rintro e w5 ⟨rfl, g5⟩
      have HF : Hid (G W w5) := HG2.out.trans (HG.out.trans g5)
      clear g5 kb kc
      go_wp2_with fail
      go_ret
      exact ⟨rfl, HF.out⟩
end Go.Proofs.YtcdjjmjhdoanlaaGreatDoor
