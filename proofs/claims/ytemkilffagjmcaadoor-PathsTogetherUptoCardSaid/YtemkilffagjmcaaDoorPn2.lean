/- Paths: pathsMild. -/
import Derived.Test.YtemkilffagjmcaaDoorPm4
namespace Go.Proofs.YtemkilffagjmcaaDoor
open Go.RowKit

theorem info_R : ∃ i, Tryd.prog.info? 51 = some i ∧ i.zero = some (.agg #[I 0, .slice none 0 0, I 0]) ∧ i.size = 3 ∧ i.bytes = 40 := info_parts (by kernel_rfl)
theorem app_R (w : World) (lo : Nat) (v : Value) (n : Nat) (xs : List Value) (h : Rw lo 51 3 w v n xs) (a : Addr) (m c : Nat) (news : List Value) (hl : news.length = m * 3) (hn : ∀ (j : Nat) (u : Value), news[j]? = some u → w.cell? (a.add j) = some u) (h1 : ∀ u ∈ news, u.oneCell' = true) (hb : n + m ≤ 17179869184) (hz : lo ≤ w.heap.size) :
    ∃ v' w', (Builtin.append_ #[22, 22] 22 #[v, .slice (some a) m c]).run Tryd.prog w = .ok v' w' ∧ Rw lo 51 3 w' v' (n + m) (xs ++ news) ∧ Chg (fun k => v.ownBlock = some k) w w' ∧ (v'.ownBlock = v.ownBlock ∨ v'.ownBlock = some w.heap.size) := by
  obtain ⟨i0, hi0, hz0, hz1, hz2⟩ := info_R
  have hmx : (17179869184 : Nat) ≤ maxLen := of_decide_eq_true (by kernel_rfl)
  obtain ⟨v', w', hr, q2, q3, _, q5⟩ := run_append_own_at (P := Tryd.prog) w lo 22 22 51 i0 _ 3 40 Tryd.underlying22 hi0 hz0 hz1 hz2 rfl (by decide) v n xs h a m c news hl hn h1 (by omega) (by omega) hz
  exact ⟨v', w', hr, q2, ⟨q3.os, q3.tape, q3.output, q3.size, fun k hk hn => q3.block k hk (fun e => hn e.symm)⟩, q5⟩
/-- An arc whose weight is made small. -/
def mildA (x : Ar) : Ar := (x.1, x.2.1, bits .and .i64 x.2.2 1048575)
theorem land_ok (x : Int) : 0 ≤ bits .and .i64 x 1048575 ∧ bits .and .i64 x 1048575 ≤ 1048575 := by
  have h : (BitVec.ofInt 64 x &&& BitVec.ofInt 64 1048575).toNat ≤ 1048575 := by
    rw [BitVec.toNat_and]
    exact Nat.le_trans Nat.and_le_right (by decide)
  have e : bits .and .i64 x 1048575 = IntKind.i64.wrap ((BitVec.ofInt 64 x &&& BitVec.ofInt 64 1048575).toNat : Int) := rfl
  rw [e, IntKind.wrap_i64]
  generalize (BitVec.ofInt 64 x &&& BitVec.ofInt 64 1048575).toNat = n at h ⊢
  omega
def mildN (r : Nr) : Nr := ⟨r.id, r.arcs.map mildA, 0⟩
theorem mildA_ok {x : Ar} (h : Ar.ok x) : Ar.ok (mildA x) := by
  have := land_ok x.2.2
  exact ⟨h.1, h.2.1, by unfold mildA R64; simp only; omega⟩
def flR (L : List (Nr × Value)) : List Value := L.flatMap fun p => [I p.1.id, p.2, I p.1.code]
theorem flR_len (L : List (Nr × Value)) : (flR L).length = L.length * 3 := by
  induction L with
  | nil => rfl
  | cons a l ih => simp [flR] at ih ⊢; omega
theorem flR_get : ∀ (l : List (Nr × Value)) (i : Nat) (x : Nr × Value), l[i]? = some x → (flR l)[i * 3]? = some (I x.1.id) ∧ (flR l)[i * 3 + 1]? = some x.2 ∧ (flR l)[i * 3 + 2]? = some (I x.1.code)
  | [], i, x, h => by simp at h
  | a :: l, 0, x, h => by simp at h; subst h; simp [flR]
  | a :: l, i + 1, x, h => by
    have := flR_get l i x (by simpa using h)
    have e : flR (a :: l) = I a.1.id :: a.2 :: I a.1.code :: flR l := by simp [flR]
    rw [e, show (i + 1) * 3 = i * 3 + 1 + 1 + 1 by omega]
    simpa using this
/-- The rows with their arcs, each list in a block of its own. -/
structure Ro (lo : Nat) (w : World) (v : Value) (L : List (Nr × Value)) : Prop where
  row : Rw lo 51 3 w v L.length (flR L)
  each : ∀ p ∈ L, Rw lo 40 3 w p.2 p.1.arcs.length (flA p.1.arcs) ∧ (∀ a ∈ p.1.arcs, Ar.ok a) ∧ R64 p.1.id
theorem Ro.G {lo : Nat} {w w' : World} {v : Value} {L : List (Nr × Value)} (h : Ro lo w v L) (g : Go.Proofs.YtemkilffagjmcaaDoor.G w w') : Ro lo w' v L := ⟨Rw.G h.row g, fun p hp => ⟨Rw.G (h.each p hp).1 g, (h.each p hp).2⟩⟩
theorem Rw.arcs {lo : Nat} {w : World} {v : Value} {l : List Ar} (h : Rw lo 40 3 w v l.length (flA l)) (ok : ∀ a ∈ l, Ar.ok a) : Arcs w v l := by
  refine ⟨?_, ok⟩
  rcases h.2 with ⟨rfl, h0⟩ | ⟨g, cap, cur, rfl, hlo, hg, hc, hm, hs, ht⟩
  · have : l = [] := List.eq_nil_of_length_eq_zero h0
    subst this
    exact ⟨none, 0, rfl, fun _ => rfl, .inl rfl⟩
  · refine ⟨_, _, rfl, fun q => (by cases q), .inr ⟨g, 0, rfl, fun o ho => ?_⟩⟩
    have hb : Blk w g 40 cur.toList := ⟨hg⟩
    rw [Nat.zero_add, hb.cell, ← ht, List.getElem?_take_of_lt ho]
theorem Ro.nrs {lo : Nat} {w : World} {v : Value} {L : List (Nr × Value)} (h : Ro lo w v L) : Nrs w v (L.map (·.1)) := by
  by_cases h0 : 0 < L.length
  · obtain ⟨g, cap, e, -, hc, -⟩ := h.row.cell h0
    refine ⟨_, cap, by rw [e, List.length_map], .inr ⟨g, 0, rfl, fun i r hr => ?_⟩⟩
    rw [List.getElem?_map] at hr
    obtain ⟨p, hp, rfl⟩ := Option.map_eq_some_iff.1 hr
    have hi := (List.getElem?_eq_some_iff.1 hp).1
    obtain ⟨g1, g2, g3⟩ := flR_get L i p hp
    have he := h.each p (List.mem_of_getElem? hp)
    rw [Nat.zero_add]
    exact ⟨(hc _ (by omega)).trans g1, ⟨p.2, (hc _ (by omega)).trans g2, he.1.arcs he.2.1⟩, (hc _ (by omega)).trans g3, he.2.2⟩
  · have : L = [] := List.eq_nil_of_length_eq_zero (by omega)
    subst this
    obtain ⟨a, c, e⟩ := Rw.form h.row
    exact ⟨a, c, e, .inl rfl⟩
set_option maxRecDepth 100000 in
set_option maxHeartbeats 2000000 in
theorem mild_any (W : World) (rv : Value) (rs : List Nr) (h : Nrs W rv rs) (hrl : rs.length ≤ 1048576) (hal : ∀ r ∈ rs, r.arcs.length ≤ 1048576) :
    Calls Tryd.prog 6 #[rv] W fun e W' => ∃ (ov : Value) (L : List (Nr × Value)), e = .returned ov ∧ Ro W.heap.size W' ov L ∧ L.map (·.1) = rs.map mildN ∧ G W W' := by
  obtain ⟨a, cap, rfl, h1⟩ := h
  have H1 := hide h1
  have HAL := hide hal
  clear h1 hal
  go_enter Tryd.func6, Tryd.ntmps6
  go_wp2_with fail
  go_loopw [3, 4] (fun ov iv wr => ∃ (k : Nat) (L : List (Nr × Value)), iv = I k ∧ k ≤ rs.length ∧ Ro W.heap.size wr ov L ∧ L.map (·.1) = (rs.take k).map mildN ∧ G W wr) (fun _ iv _ => rs.length - (RowKit.intOf iv).toNat)
  case atStart => exact ⟨0, [], rfl, Nat.zero_le _, ⟨Rw.nil _ _ _ _, fun p hp => by simp at hp⟩, rfl, G.refl _⟩
  case round =>
    obtain ⟨k, L, rfl, hk, hro, hmp, hg⟩ := hrel
    obtain ⟨oa, oc, rfl⟩ := Rw.form hro.row
    have hlk : L.length = k := by have := congrArg List.length hmp; simpa [Nat.min_eq_left hk] using this
    have HRO := hide hro
    have HMP := hide hmp
    have HLK := hide hlk
    clear hro hmp hlk
    by_cases hkl : k < rs.length
    · have hkI : (k : Int) < rs.length := by omega
      obtain ⟨r, hrk⟩ : ∃ r, rs[k]? = some r := ⟨_, List.getElem?_eq_getElem hkl⟩
      obtain ⟨b, off, rfl, h2⟩ : ∃ b off, a = some ⟨b, off, none⟩ ∧ ∀ i r, rs[i]? = some r → W.cell? ⟨b, off + i * 3, none⟩ = some (I r.id) ∧ (∃ va, W.cell? ⟨b, off + i * 3 + 1, none⟩ = some va ∧ Arcs W va r.arcs) ∧ W.cell? ⟨b, off + i * 3 + 2, none⟩ = some (I r.code) ∧ R64 r.id := by
        rcases H1.out with rfl | q
        · simp at hrk
        · exact q
      obtain ⟨c1, ⟨va, c2, h3⟩, c3, h4⟩ := h2 k r hrk
      have hbl := cell_lt c1
      obtain ⟨aa, ac, rfl⟩ : ∃ aa ac, va = .slice aa r.arcs.length ac := by obtain ⟨q1, q2, q3, -⟩ := h3.at_; exact ⟨q1, q2, q3⟩
      have HC : Hid (∀ V, G W V → V.cell? ⟨b, off + k * 3, none⟩ = some (I r.id) ∧ V.cell? ⟨b, off + k * 3 + 1, none⟩ = some (.slice aa r.arcs.length ac) ∧ V.cell? ⟨b, off + k * 3 + 2, none⟩ = some (I r.code)) := fun V gV => ⟨(gV.cell hbl).trans c1, (gV.cell hbl).trans c2, (gV.cell hbl).trans c3⟩
      obtain ⟨d1, d2, d3⟩ := HC.out wr hg
      have HA := hide h3
      have HG := hide hg
      have HRK := hide hrk
      have HKL := hide hkl
      have HLR := hide (HAL.out r (List.mem_of_getElem? hrk))
      clear c1 c2 c3 h2 h3 hg hbl hrk hkl
      go_wp2_with fail
      have HG1 : Hid (G wr (wr.alloc (.cells #[I r.id, .slice none 0 0, I 0] 51))) := (G.refl wr).alloc _
      have HB1 := hide (Blk.new wr [I r.id, .slice none 0 0, I 0] 51)
      generalize hw1 : wr.alloc (.cells #[I r.id, .slice none 0 0, I 0] 51) = w1 at *
      obtain ⟨br, hbr⟩ : ∃ br, br = wr.heap.size := ⟨_, rfl⟩
      rw [← hbr] at HB1 ⊢
      have HBR := hide hbr
      obtain ⟨wr0, hwr0⟩ : ∃ wr0, wr0 = wr := ⟨_, rfl⟩
      rw [← hwr0] at HG1 HBR HG HRO
      clear hw1 hbr d1 d2 d3
      go_loopw [6] (fun jv wi => ∃ (j : Nat) (va2 : Value), jv = I j ∧ j ≤ r.arcs.length ∧ G wr0 wi ∧ Blk wi br 51 [I r.id, va2, I 0] ∧ Rw wr0.heap.size 40 3 wi va2 j (flA ((r.arcs.take j).map mildA))) (fun jv _ => r.arcs.length - (RowKit.intOf jv).toNat)
      case atStart => exact ⟨0, _, rfl, Nat.zero_le _, HG1.out, HB1.out, Rw.nil _ _ _ _⟩
      case round =>
        obtain ⟨j, va2, rfl, hj, hg2, hb2, hr2⟩ := hrel
        obtain ⟨d1, d2, d3⟩ := HC.out _ (HG.out.trans hg2)
        obtain ⟨a2, c2, rfl⟩ := Rw.form hr2
        have z2 := hb2.frozen
        have e2 := hb2.cell
        by_cases hjl : j < r.arcs.length
        · have hjI : (j : Int) < r.arcs.length := by omega
          obtain ⟨⟨xe, xt, xw⟩, hx⟩ : ∃ x, r.arcs[j]? = some x := ⟨_, List.getElem?_eq_getElem hjl⟩
          obtain ⟨-, ab, aoff, rfl, y1, y2, y3, hab⟩ := (HA.out.G (HG.out.trans hg2)).get hx
          simp only at y1 y2 y3
          have HX := hide hx
          have HG2 := hide hg2
          have HB2 := hide hb2
          have HR2 := hide hr2
          have HJL := hide hjl
          clear hx hg2 hb2 hr2 hjl
          have gA : G wr (wr.alloc (.cells #[I xe, I xt, I (bits .and .i64 xw 1048575)] 40)) := (G.refl wr).alloc _
          have gB : G wr ((wr.alloc (.cells #[I xe, I xt, I (bits .and .i64 xw 1048575)] 40)).alloc (.cells #[I xe, I xt, I (bits .and .i64 xw 1048575)] 40)) := gA.alloc _
          obtain ⟨v', w', q1, q2, q3, q4⟩ := app_A ((wr.alloc (.cells #[I xe, I xt, I (bits .and .i64 xw 1048575)] 40)).alloc (.cells #[I xe, I xt, I (bits .and .i64 xw 1048575)] 40)) _ (.slice a2 j c2) j (flA ((r.arcs.take j).map mildA)) (Rw.G HR2.out gB) ⟨wr.heap.size + 1, 0, none⟩ 1 1 [I xe, I xt, I (bits .and .i64 xw 1048575)] rfl (fun o u ho => by
            have hn := (Blk.new (wr.alloc (.cells #[I xe, I xt, I (bits .and .i64 xw 1048575)] 40)) [I xe, I xt, I (bits .and .i64 xw 1048575)] 40).cell
            rw [World.size_alloc] at hn
            rw [Addr.add_mid, Nat.zero_add, hn]; exact ho) (fun u hu => by simp at hu; rcases hu with rfl | rfl | rfl <;> rfl) (by have := HJL.out; have := HLR.out; omega) (Nat.le_trans HG2.out.size gB.size)
          obtain ⟨va, vc, rfl⟩ := Rw.form q2
          have hbA := HB2.out.G gA
          have hbB := HB2.out.G gB
          have hbC := hbB.chg q3 (Rw.offb (Rw.G HR2.out gB) hbB (by decide))
          have eA := hbA.cell
          have eC := hbC.cell
          have zC := hbC.frozen
          have HRUN := hide q1
          have HREL : Hid (∃ (j' : Nat) (va2 : Value), I ((j : Int) + 1) = I j' ∧ j' ≤ r.arcs.length ∧ G wr0 (w'.setCell ⟨br, 1, none⟩ (.slice va (j + 1) vc)) ∧ Blk (w'.setCell ⟨br, 1, none⟩ (.slice va (j + 1) vc)) br 51 [I r.id, va2, I 0] ∧ Rw wr0.heap.size 40 3 (w'.setCell ⟨br, 1, none⟩ (.slice va (j + 1) vc)) va2 j' (flA ((r.arcs.take j').map mildA))) := by
            refine ⟨j + 1, .slice va (j + 1) vc, by simp, HJL.out, ?_, hbC.set 1 _, ?_⟩
            · refine G.setCell ?_ (by rw [HBR.out]; exact Nat.le_refl _) _
              exact ((HG2.out.trans gB).chg (F := fun _ => False)).more q3 (fun i hi e => by have := ((Rw.G HR2.out gB).own e).1; omega) |>.G (fun _ q => q.elim)
            · have e1 : flA ((r.arcs.take (j + 1)).map mildA) = flA ((r.arcs.take j).map mildA) ++ [I xe, I xt, I (bits .and .i64 xw 1048575)] := by
                rw [List.take_add_one, HX.out]
                simp [flA, mildA]
              rw [e1]
              refine Rw.keep q2 (fun b hb => Below.heap_setCell _ _ _ _ (fun e => ?_))
              rw [e] at hb
              exact Rw.offb q2 hbC (by decide) hb
          have hw : wrap64 ((j : Int) + 1) = (j : Int) + 1 := by have := HJL.out; have := HLR.out; unfold wrap64; omega
          clear q1 q2 q3 q4 gA gB hbA hbB hbC
          go_wp2_with (first | (at_builtin; refine wpList_append_run rfl _ _ 37 rfl (.slice a2 j c2) (.slice (some ⟨wr.heap.size + 1, 0, none⟩) 1 1) rfl rfl HRUN.out ?_) | fail)
          go_roundw
          case rel => (try rw [hw]); exact HREL.out
          case measure => (try rw [hw]); simp only [RowKit.intOf]; exact ms2 HJL.out
        · have hjI : ¬ ((j : Int) < r.arcs.length) := by omega
          obtain rfl : j = r.arcs.length := by omega
          rw [List.take_length] at hr2
          have gA : G wr (wr.alloc (.cells #[I r.id, .slice a2 r.arcs.length c2, I 0] 51)) := (G.refl wr).alloc _
          have hroB := (HRO.out.G hg2).G gA
          obtain ⟨v', w', q1, q2, q3, q4⟩ := app_R (wr.alloc (.cells #[I r.id, .slice a2 r.arcs.length c2, I 0] 51)) _ (.slice oa L.length oc) L.length (flR L) hroB.row ⟨wr.heap.size, 0, none⟩ 1 1 [I r.id, .slice a2 r.arcs.length c2, I 0] rfl (fun o u ho => by rw [Addr.add_mid, Nat.zero_add, (Blk.new wr [I r.id, .slice a2 r.arcs.length c2, I 0] 51).cell]; exact ho) (fun u hu => by simp at hu; rcases hu with rfl | rfl | rfl <;> rfl) (by have := HLK.out; omega) (Nat.le_trans (HG.out.trans hg2).size gA.size)
          have HRUN := hide q1
          have HREL : Hid (∃ (k' : Nat) (L' : List (Nr × Value)), I ((k : Int) + 1) = I k' ∧ k' ≤ rs.length ∧ Ro W.heap.size w' v' L' ∧ L'.map (·.1) = (rs.take k').map mildN ∧ G W w') := by
            have hof : ∀ (x : Value) (n : Nat) xs, Rw W.heap.size 40 3 (wr.alloc (.cells #[I r.id, .slice a2 r.arcs.length c2, I 0] 51)) x n xs → Rw W.heap.size 40 3 w' x n xs := fun x n xs hx => hx.chg q3 (fun b hb e => by
              obtain ⟨_, _, ys, hy⟩ := Rw.own hx hb
              exact Rw.offb hroB.row hy (by decide) e)
            refine ⟨k + 1, L ++ [(mildN r, .slice a2 r.arcs.length c2)], by simp, HKL.out, ⟨?_, fun p hp => ?_⟩, ?_, ?_⟩
            · have e1 : flR (L ++ [(mildN r, .slice a2 r.arcs.length c2)]) = flR L ++ [I r.id, .slice a2 r.arcs.length c2, I 0] := by simp [flR, mildN]
              rw [e1, List.length_append]
              exact q2
            · rcases List.mem_append.1 hp with q | q
              · exact ⟨hof _ _ _ (hroB.each p q).1, (hroB.each p q).2⟩
              · rw [List.mem_singleton.1 q]
                refine ⟨?_, fun a ha => ?_, h4⟩
                · have := hof _ _ _ (Rw.base (Rw.G hr2 gA) HG.out.size)
                  simp only [mildN, List.length_map]
                  exact this
                · simp only [mildN] at ha
                  obtain ⟨a', ha', rfl⟩ := List.mem_map.1 ha
                  exact mildA_ok (HA.out.ok a' ha')
            · rw [List.map_append, HMP.out, List.take_add_one, HRK.out]
              simp
            · exact (((HG.out.trans hg2).trans gA).chg (F := fun _ => False)).more q3 (fun i hi e => by have := (Rw.own hroB.row e).1; omega) |>.G (fun _ q => q.elim)
          obtain ⟨va, vc, rfl⟩ := Rw.form q2
          have hw : wrap64 ((k : Int) + 1) = (k : Int) + 1 := by unfold wrap64; omega
          clear q1 q2 q3 q4 gA hroB hg2 hb2 hr2 hjl
          go_wp2_with (first | (at_builtin; refine wpList_append_run rfl _ _ 22 rfl (.slice oa L.length oc) (.slice (some ⟨wr.heap.size, 0, none⟩) 1 1) rfl rfl HRUN.out ?_) | fail)
          go_roundw
          case rel => (try rw [hw]); exact HREL.out
          case measure => (try rw [hw]); simp only [RowKit.intOf]; exact ms2 HKL.out
    · have hkI : ¬ ((k : Int) < rs.length) := by omega
      obtain rfl : k = rs.length := by omega
      have HG := hide hg
      have hmp := HMP.out
      rw [List.take_length] at hmp
      have HMP2 := hide hmp
      clear hg hkl hmp
      go_wp2_with fail
      go_ret
      first | exact ⟨_, L, rfl, HRO.out, HMP2.out, HG.out⟩ | exact ⟨_, rfl, L, HRO.out, HMP2.out, HG.out⟩
end Go.Proofs.YtemkilffagjmcaaDoor
