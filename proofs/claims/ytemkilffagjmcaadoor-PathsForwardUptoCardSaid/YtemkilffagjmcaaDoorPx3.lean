/- PathsForward: the walk. -/
import Derived.Test.YtemkilffagjmcaaDoorPm4
import Derived.Test.YtemkilffagjmcaaDoorPx2
namespace Go.Proofs.YtemkilffagjmcaaDoor
section
open Go.RowKit

theorem info_R : ∃ i, Tryd.prog.info? 51 = some i ∧ i.zero = some (.agg #[I 0, .slice none 0 0, I 0]) ∧ i.size = 3 ∧ i.bytes = 40 := info_parts (by kernel_rfl)
theorem app_R (w : World) (lo : Nat) (v : Value) (n : Nat) (xs : List Value) (h : Rw lo 51 3 w v n xs) (a : Addr) (m c : Nat) (news : List Value) (hl : news.length = m * 3) (hn : ∀ (j : Nat) (u : Value), news[j]? = some u → w.cell? (a.add j) = some u) (h1 : ∀ u ∈ news, u.oneCell' = true) (hb : n + m ≤ 17179869184) (hz : lo ≤ w.heap.size) :
    ∃ v' w', (Builtin.append_ #[22, 22] 22 #[v, .slice (some a) m c]).run Tryd.prog w = .ok v' w' ∧ Rw lo 51 3 w' v' (n + m) (xs ++ news) ∧ Chg (fun k => v.ownBlock = some k) w w' ∧ (v'.ownBlock = v.ownBlock ∨ v'.ownBlock = some w.heap.size) := by
  obtain ⟨i0, hi0, hz0, hz1, hz2⟩ := info_R
  have hmx : (17179869184 : Nat) ≤ maxLen := of_decide_eq_true (by kernel_rfl)
  obtain ⟨v', w', hr, q2, q3, _, q5⟩ := run_append_own_at (P := Tryd.prog) w lo 22 22 51 i0 _ 3 40 Tryd.underlying22 hi0 hz0 hz1 hz2 rfl (by decide) v n xs h a m c news hl hn h1 (by omega) (by omega) hz
  exact ⟨v', w', hr, q2, ⟨q3.os, q3.tape, q3.output, q3.size, fun k hk hn => q3.block k hk (fun e => hn e.symm)⟩, q5⟩
/-- An arc whose weight is made small. -/
def mildA (x : Ar) : Ar := (x.1, x.2.1, bits .and .i64 x.2.2 1048575)
theorem land_ok (x : Int) : 0 ≤ bits .and .i64 x 1048575 ∧ bits .and .i64 x 1048575 ≤ 1048575 := by
  have h : (BitVec.ofInt 64 x &&& BitVec.ofInt 64 1048575).toNat ≤ 1048575 := by
    rw [BitVec.toNat_and]
    exact Nat.le_trans Nat.and_le_right (by decide)
  have e : bits .and .i64 x 1048575 = IntKind.i64.wrap ((BitVec.ofInt 64 x &&& BitVec.ofInt 64 1048575).toNat : Int) := rfl
  rw [e, IntKind.wrap_i64]
  generalize (BitVec.ofInt 64 x &&& BitVec.ofInt 64 1048575).toNat = n at h ⊢
  omega
def mildN (r : Nr) : Nr := ⟨r.id, r.arcs.map mildA, 0⟩
theorem mildA_ok {x : Ar} (h : Ar.ok x) : Ar.ok (mildA x) := by
  have := land_ok x.2.2
  exact ⟨h.1, h.2.1, by unfold mildA R64; simp only; omega⟩
def flR (L : List (Nr × Value)) : List Value := L.flatMap fun p => [I p.1.id, p.2, I p.1.code]
theorem flR_len (L : List (Nr × Value)) : (flR L).length = L.length * 3 := by
  induction L with
  | nil => rfl
  | cons a l ih => simp [flR] at ih ⊢; omega
theorem flR_get : ∀ (l : List (Nr × Value)) (i : Nat) (x : Nr × Value), l[i]? = some x → (flR l)[i * 3]? = some (I x.1.id) ∧ (flR l)[i * 3 + 1]? = some x.2 ∧ (flR l)[i * 3 + 2]? = some (I x.1.code)
  | [], i, x, h => by simp at h
  | a :: l, 0, x, h => by simp at h; subst h; simp [flR]
  | a :: l, i + 1, x, h => by
    have := flR_get l i x (by simpa using h)
    have e : flR (a :: l) = I a.1.id :: a.2 :: I a.1.code :: flR l := by simp [flR]
    rw [e, show (i + 1) * 3 = i * 3 + 1 + 1 + 1 by omega]
    simpa using this
/-- The rows with their arcs, each list in a block of its own. -/
structure Ro (lo : Nat) (w : World) (v : Value) (L : List (Nr × Value)) : Prop where
  row : Rw lo 51 3 w v L.length (flR L)
  each : ∀ p ∈ L, Rw lo 40 3 w p.2 p.1.arcs.length (flA p.1.arcs) ∧ (∀ a ∈ p.1.arcs, Ar.ok a) ∧ R64 p.1.id
theorem Ro.G {lo : Nat} {w w' : World} {v : Value} {L : List (Nr × Value)} (h : Ro lo w v L) (g : Go.Proofs.YtemkilffagjmcaaDoor.G w w') : Ro lo w' v L := ⟨Rw.G h.row g, fun p hp => ⟨Rw.G (h.each p hp).1 g, (h.each p hp).2⟩⟩
theorem Rw.arcs {lo : Nat} {w : World} {v : Value} {l : List Ar} (h : Rw lo 40 3 w v l.length (flA l)) (ok : ∀ a ∈ l, Ar.ok a) : Arcs w v l := by
  refine ⟨?_, ok⟩
  rcases h.2 with ⟨rfl, h0⟩ | ⟨g, cap, cur, rfl, hlo, hg, hc, hm, hs, ht⟩
  · have : l = [] := List.eq_nil_of_length_eq_zero h0
    subst this
    exact ⟨none, 0, rfl, fun _ => rfl, .inl rfl⟩
  · refine ⟨_, _, rfl, fun q => (by cases q), .inr ⟨g, 0, rfl, fun o ho => ?_⟩⟩
    have hb : Blk w g 40 cur.toList := ⟨hg⟩
    rw [Nat.zero_add, hb.cell, ← ht, List.getElem?_take_of_lt ho]
theorem Ro.nrs {lo : Nat} {w : World} {v : Value} {L : List (Nr × Value)} (h : Ro lo w v L) : Nrs w v (L.map (·.1)) := by
  by_cases h0 : 0 < L.length
  · obtain ⟨g, cap, e, -, hc, -⟩ := h.row.cell h0
    refine ⟨_, cap, by rw [e, List.length_map], .inr ⟨g, 0, rfl, fun i r hr => ?_⟩⟩
    rw [List.getElem?_map] at hr
    obtain ⟨p, hp, rfl⟩ := Option.map_eq_some_iff.1 hr
    have hi := (List.getElem?_eq_some_iff.1 hp).1
    obtain ⟨g1, g2, g3⟩ := flR_get L i p hp
    have he := h.each p (List.mem_of_getElem? hp)
    rw [Nat.zero_add]
    exact ⟨(hc _ (by omega)).trans g1, ⟨p.2, (hc _ (by omega)).trans g2, he.1.arcs he.2.1⟩, (hc _ (by omega)).trans g3, he.2.2⟩
  · have : L = [] := List.eq_nil_of_length_eq_zero (by omega)
    subst this
    obtain ⟨a, c, e⟩ := Rw.form h.row
    exact ⟨a, c, e, .inl rfl⟩
set_option maxRecDepth 100000 in
set_option maxHeartbeats 2000000 in
theorem mild_any (W : World) (rv : Value) (rs : List Nr) (h : Nrs W rv rs) (hrl : rs.length ≤ 1048576) (hal : ∀ r ∈ rs, r.arcs.length ≤ 1048576) :
    Calls Tryd.prog 6 #[rv] W fun e W' => ∃ (ov : Value) (L : List (Nr × Value)), e = .returned ov ∧ Ro W.heap.size W' ov L ∧ L.map (·.1) = rs.map mildN ∧ G W W' := by
  obtain ⟨a, cap, rfl, h1⟩ := h
  have H1 := hide h1
  have HAL := hide hal
  clear h1 hal
  go_enter Tryd.func6, Tryd.ntmps6
  go_wp2_with fail
  go_loopw [3, 4] (fun ov iv wr => ∃ (k : Nat) (L : List (Nr × Value)), iv = I k ∧ k ≤ rs.length ∧ Ro W.heap.size wr ov L ∧ L.map (·.1) = (rs.take k).map mildN ∧ G W wr) (fun _ iv _ => rs.length - (RowKit.intOf iv).toNat)
  case atStart => exact ⟨0, [], rfl, Nat.zero_le _, ⟨Rw.nil _ _ _ _, fun p hp => by simp at hp⟩, rfl, G.refl _⟩
  case round =>
    obtain ⟨k, L, rfl, hk, hro, hmp, hg⟩ := hrel
    obtain ⟨oa, oc, rfl⟩ := Rw.form hro.row
    have hlk : L.length = k := by have := congrArg List.length hmp; simpa [Nat.min_eq_left hk] using this
    have HRO := hide hro
    have HMP := hide hmp
    have HLK := hide hlk
    clear hro hmp hlk
    by_cases hkl : k < rs.length
    · have hkI : (k : Int) < rs.length := by omega
      obtain ⟨r, hrk⟩ : ∃ r, rs[k]? = some r := ⟨_, List.getElem?_eq_getElem hkl⟩
      obtain ⟨b, off, rfl, h2⟩ : ∃ b off, a = some ⟨b, off, none⟩ ∧ ∀ i r, rs[i]? = some r → W.cell? ⟨b, off + i * 3, none⟩ = some (I r.id) ∧ (∃ va, W.cell? ⟨b, off + i * 3 + 1, none⟩ = some va ∧ Arcs W va r.arcs) ∧ W.cell? ⟨b, off + i * 3 + 2, none⟩ = some (I r.code) ∧ R64 r.id := by
        rcases H1.out with rfl | q
        · simp at hrk
        · exact q
      obtain ⟨c1, ⟨va, c2, h3⟩, c3, h4⟩ := h2 k r hrk
      have hbl := cell_lt c1
      obtain ⟨aa, ac, rfl⟩ : ∃ aa ac, va = .slice aa r.arcs.length ac := by obtain ⟨q1, q2, q3, -⟩ := h3.at_; exact ⟨q1, q2, q3⟩
      have HC : Hid (∀ V, G W V → V.cell? ⟨b, off + k * 3, none⟩ = some (I r.id) ∧ V.cell? ⟨b, off + k * 3 + 1, none⟩ = some (.slice aa r.arcs.length ac) ∧ V.cell? ⟨b, off + k * 3 + 2, none⟩ = some (I r.code)) := fun V gV => ⟨(gV.cell hbl).trans c1, (gV.cell hbl).trans c2, (gV.cell hbl).trans c3⟩
      obtain ⟨d1, d2, d3⟩ := HC.out wr hg
      have HA := hide h3
      have HG := hide hg
      have HRK := hide hrk
      have HKL := hide hkl
      have HLR := hide (HAL.out r (List.mem_of_getElem? hrk))
      clear c1 c2 c3 h2 h3 hg hbl hrk hkl
      go_wp2_with fail
      have HG1 : Hid (G wr (wr.alloc (.cells #[I r.id, .slice none 0 0, I 0] 51))) := (G.refl wr).alloc _
      have HB1 := hide (Blk.new wr [I r.id, .slice none 0 0, I 0] 51)
      generalize hw1 : wr.alloc (.cells #[I r.id, .slice none 0 0, I 0] 51) = w1 at *
      obtain ⟨br, hbr⟩ : ∃ br, br = wr.heap.size := ⟨_, rfl⟩
      rw [← hbr] at HB1 ⊢
      have HBR := hide hbr
      obtain ⟨wr0, hwr0⟩ : ∃ wr0, wr0 = wr := ⟨_, rfl⟩
      rw [← hwr0] at HG1 HBR HG HRO
      clear hw1 hbr d1 d2 d3
      go_loopw [6] (fun jv wi => ∃ (j : Nat) (va2 : Value), jv = I j ∧ j ≤ r.arcs.length ∧ G wr0 wi ∧ Blk wi br 51 [I r.id, va2, I 0] ∧ Rw wr0.heap.size 40 3 wi va2 j (flA ((r.arcs.take j).map mildA))) (fun jv _ => r.arcs.length - (RowKit.intOf jv).toNat)
      case atStart => exact ⟨0, _, rfl, Nat.zero_le _, HG1.out, HB1.out, Rw.nil _ _ _ _⟩
      case round =>
        obtain ⟨j, va2, rfl, hj, hg2, hb2, hr2⟩ := hrel
        obtain ⟨d1, d2, d3⟩ := HC.out _ (HG.out.trans hg2)
        obtain ⟨a2, c2, rfl⟩ := Rw.form hr2
        have z2 := hb2.frozen
        have e2 := hb2.cell
        by_cases hjl : j < r.arcs.length
        · have hjI : (j : Int) < r.arcs.length := by omega
          obtain ⟨⟨xe, xt, xw⟩, hx⟩ : ∃ x, r.arcs[j]? = some x := ⟨_, List.getElem?_eq_getElem hjl⟩
          obtain ⟨-, ab, aoff, rfl, y1, y2, y3, hab⟩ := (HA.out.G (HG.out.trans hg2)).get hx
          simp only at y1 y2 y3
          have HX := hide hx
          have HG2 := hide hg2
          have HB2 := hide hb2
          have HR2 := hide hr2
          have HJL := hide hjl
          clear hx hg2 hb2 hr2 hjl
          have gA : G wr (wr.alloc (.cells #[I xe, I xt, I (bits .and .i64 xw 1048575)] 40)) := (G.refl wr).alloc _
          have gB : G wr ((wr.alloc (.cells #[I xe, I xt, I (bits .and .i64 xw 1048575)] 40)).alloc (.cells #[I xe, I xt, I (bits .and .i64 xw 1048575)] 40)) := gA.alloc _
          obtain ⟨v', w', q1, q2, q3, q4⟩ := app_A ((wr.alloc (.cells #[I xe, I xt, I (bits .and .i64 xw 1048575)] 40)).alloc (.cells #[I xe, I xt, I (bits .and .i64 xw 1048575)] 40)) _ (.slice a2 j c2) j (flA ((r.arcs.take j).map mildA)) (Rw.G HR2.out gB) ⟨wr.heap.size + 1, 0, none⟩ 1 1 [I xe, I xt, I (bits .and .i64 xw 1048575)] rfl (fun o u ho => by
            have hn := (Blk.new (wr.alloc (.cells #[I xe, I xt, I (bits .and .i64 xw 1048575)] 40)) [I xe, I xt, I (bits .and .i64 xw 1048575)] 40).cell
            rw [World.size_alloc] at hn
            rw [Addr.add_mid, Nat.zero_add, hn]; exact ho) (fun u hu => by simp at hu; rcases hu with rfl | rfl | rfl <;> rfl) (by have := HJL.out; have := HLR.out; omega) (Nat.le_trans HG2.out.size gB.size)
          obtain ⟨va, vc, rfl⟩ := Rw.form q2
          have hbA := HB2.out.G gA
          have hbB := HB2.out.G gB
          have hbC := hbB.chg q3 (Rw.offb (Rw.G HR2.out gB) hbB (by decide))
          have eA := hbA.cell
          have eC := hbC.cell
          have zC := hbC.frozen
          have HRUN := hide q1
          have HREL : Hid (∃ (j' : Nat) (va2 : Value), I ((j : Int) + 1) = I j' ∧ j' ≤ r.arcs.length ∧ G wr0 (w'.setCell ⟨br, 1, none⟩ (.slice va (j + 1) vc)) ∧ Blk (w'.setCell ⟨br, 1, none⟩ (.slice va (j + 1) vc)) br 51 [I r.id, va2, I 0] ∧ Rw wr0.heap.size 40 3 (w'.setCell ⟨br, 1, none⟩ (.slice va (j + 1) vc)) va2 j' (flA ((r.arcs.take j').map mildA))) := by
            refine ⟨j + 1, .slice va (j + 1) vc, by simp, HJL.out, ?_, hbC.set 1 _, ?_⟩
            · refine G.setCell ?_ (by rw [HBR.out]; exact Nat.le_refl _) _
              exact ((HG2.out.trans gB).chg (F := fun _ => False)).more q3 (fun i hi e => by have := ((Rw.G HR2.out gB).own e).1; omega) |>.G (fun _ q => q.elim)
            · have e1 : flA ((r.arcs.take (j + 1)).map mildA) = flA ((r.arcs.take j).map mildA) ++ [I xe, I xt, I (bits .and .i64 xw 1048575)] := by
                rw [List.take_add_one, HX.out]
                simp [flA, mildA]
              rw [e1]
              refine Rw.keep q2 (fun b hb => Below.heap_setCell _ _ _ _ (fun e => ?_))
              rw [e] at hb
              exact Rw.offb q2 hbC (by decide) hb
          have hw : wrap64 ((j : Int) + 1) = (j : Int) + 1 := by have := HJL.out; have := HLR.out; unfold wrap64; omega
          clear q1 q2 q3 q4 gA gB hbA hbB hbC
          go_wp2_with (first | (at_builtin; refine wpList_append_run rfl _ _ 37 rfl (.slice a2 j c2) (.slice (some ⟨wr.heap.size + 1, 0, none⟩) 1 1) rfl rfl HRUN.out ?_) | fail)
          go_roundw
          case rel => (try rw [hw]); exact HREL.out
          case measure => (try rw [hw]); simp only [RowKit.intOf]; exact ms2 HJL.out
        · have hjI : ¬ ((j : Int) < r.arcs.length) := by omega
          obtain rfl : j = r.arcs.length := by omega
          rw [List.take_length] at hr2
          have gA : G wr (wr.alloc (.cells #[I r.id, .slice a2 r.arcs.length c2, I 0] 51)) := (G.refl wr).alloc _
          have hroB := (HRO.out.G hg2).G gA
          obtain ⟨v', w', q1, q2, q3, q4⟩ := app_R (wr.alloc (.cells #[I r.id, .slice a2 r.arcs.length c2, I 0] 51)) _ (.slice oa L.length oc) L.length (flR L) hroB.row ⟨wr.heap.size, 0, none⟩ 1 1 [I r.id, .slice a2 r.arcs.length c2, I 0] rfl (fun o u ho => by rw [Addr.add_mid, Nat.zero_add, (Blk.new wr [I r.id, .slice a2 r.arcs.length c2, I 0] 51).cell]; exact ho) (fun u hu => by simp at hu; rcases hu with rfl | rfl | rfl <;> rfl) (by have := HLK.out; omega) (Nat.le_trans (HG.out.trans hg2).size gA.size)
          have HRUN := hide q1
          have HREL : Hid (∃ (k' : Nat) (L' : List (Nr × Value)), I ((k : Int) + 1) = I k' ∧ k' ≤ rs.length ∧ Ro W.heap.size w' v' L' ∧ L'.map (·.1) = (rs.take k').map mildN ∧ G W w') := by
            have hof : ∀ (x : Value) (n : Nat) xs, Rw W.heap.size 40 3 (wr.alloc (.cells #[I r.id, .slice a2 r.arcs.length c2, I 0] 51)) x n xs → Rw W.heap.size 40 3 w' x n xs := fun x n xs hx => hx.chg q3 (fun b hb e => by
              obtain ⟨_, _, ys, hy⟩ := Rw.own hx hb
              exact Rw.offb hroB.row hy (by decide) e)
            refine ⟨k + 1, L ++ [(mildN r, .slice a2 r.arcs.length c2)], by simp, HKL.out, ⟨?_, fun p hp => ?_⟩, ?_, ?_⟩
            · have e1 : flR (L ++ [(mildN r, .slice a2 r.arcs.length c2)]) = flR L ++ [I r.id, .slice a2 r.arcs.length c2, I 0] := by simp [flR, mildN]
              rw [e1, List.length_append]
              exact q2
            · rcases List.mem_append.1 hp with q | q
              · exact ⟨hof _ _ _ (hroB.each p q).1, (hroB.each p q).2⟩
              · rw [List.mem_singleton.1 q]
                refine ⟨?_, fun a ha => ?_, h4⟩
                · have := hof _ _ _ (Rw.base (Rw.G hr2 gA) HG.out.size)
                  simp only [mildN, List.length_map]
                  exact this
                · simp only [mildN] at ha
                  obtain ⟨a', ha', rfl⟩ := List.mem_map.1 ha
                  exact mildA_ok (HA.out.ok a' ha')
            · rw [List.map_append, HMP.out, List.take_add_one, HRK.out]
              simp
            · exact (((HG.out.trans hg2).trans gA).chg (F := fun _ => False)).more q3 (fun i hi e => by have := (Rw.own hroB.row e).1; omega) |>.G (fun _ q => q.elim)
          obtain ⟨va, vc, rfl⟩ := Rw.form q2
          have hw : wrap64 ((k : Int) + 1) = (k : Int) + 1 := by unfold wrap64; omega
          clear q1 q2 q3 q4 gA hroB hg2 hb2 hr2 hjl
          go_wp2_with (first | (at_builtin; refine wpList_append_run rfl _ _ 22 rfl (.slice oa L.length oc) (.slice (some ⟨wr.heap.size, 0, none⟩) 1 1) rfl rfl HRUN.out ?_) | fail)
          go_roundw
          case rel => (try rw [hw]); exact HREL.out
          case measure => (try rw [hw]); simp only [RowKit.intOf]; exact ms2 HKL.out
    · have hkI : ¬ ((k : Int) < rs.length) := by omega
      obtain rfl : k = rs.length := by omega
      have HG := hide hg
      have hmp := HMP.out
      rw [List.take_length] at hmp
      have HMP2 := hide hmp
      clear hg hkl hmp
      go_wp2_with fail
      go_ret
      first | exact ⟨_, L, rfl, HRO.out, HMP2.out, HG.out⟩ | exact ⟨_, rfl, L, HRO.out, HMP2.out, HG.out⟩
end
open Go.RowKit

theorem mild_code {rs : List Nr} (id : Int) : (netOf (rs.map mildN) false id).2 = 0 := by
  unfold netOf
  split
  · rename_i r hr
    obtain ⟨q, _, e⟩ := List.mem_map.1 (List.mem_of_find?_eq_some hr)
    have e0 : r.code = 0 := by rw [← e]; rfl
    rw [if_pos e0]
  · rfl
theorem count_one {l : List Int} (h : l.Nodup) {x : Int} (hx : x ∈ l) : l.count x = 1 := by
  have h1 : l.count x ≤ 1 := List.nodup_iff_count.1 h x
  have h2 : 0 < l.count x := List.count_pos_iff.2 hx
  omega
theorem count_take {l : List Int} {k : Nat} {y x : Int} (h : l[k]? = some y) : (l.take (k + 1)).count x = (l.take k).count x + if y = x then 1 else 0 := by
  rw [List.take_add_one, h, List.count_append]
  congr 1
  simp [List.count_cons]
theorem count_le {l : List Int} (k : Nat) (x : Int) (h : l.length ≤ 1048576) : (l.take k).count x ≤ 1048576 := by
  have := List.count_le_length (a := x) (l := l.take k)
  rw [List.length_take] at this
  omega
set_option maxRecDepth 100000 in
set_option maxHeartbeats 4000000 in
theorem forward_law (W : World) (rv : Value) (rs0 : List Nr) (la : Option Addr) (lc : Nat) (nodes : List Int) (hN : Nrs W rv rs0) (hM : Mk W) (hrl : rs0.length ≤ 1048576) (hal : ∀ r ∈ rs0, r.arcs.length ≤ 1048576) (hI : Ids W (.slice la nodes.length lc) nodes) (hnl : nodes.length ≤ 1048576) :
    Calls Tryd.prog 3 #[rv, .slice la nodes.length lc] W fun e W' => e = .returned (.bool true) ∧ G W W' := by
  obtain ⟨rva, rvc, hrv⟩ : ∃ a c, rv = .slice a rs0.length c := by obtain ⟨a, c, e, _⟩ := hN; exact ⟨a, c, e⟩
  have HMI := hide (mild_any W rv rs0 hN hrl hal)
  subst hrv
  have HM := hide hM
  have HI := hide hI
  have HNL := hide hnl
  have hal2 : ∀ r ∈ rs0.map mildN, r.arcs.length ≤ 1048576 := fun r hr => by
    obtain ⟨q, hq, rfl⟩ := List.mem_map.1 hr
    have := hal q hq
    simpa [mildN] using this
  have HRL : Hid ((rs0.map mildN).length ≤ 1048576) := by show _ ≤ _; rw [List.length_map]; exact hrl
  have HC0 : Hid (∀ id, (netOf (rs0.map mildN) false id).2 = 0) := mild_code
  clear hM hN hal hrl hI hnl
  generalize hrs : rs0.map mildN = rs at *
  have HAL : Hid (∀ id, (netOf rs false id).1.length ≤ 1048576) := fun id => by
    unfold netOf
    split
    · rename_i r hr
      split
      · exact hal2 r (List.mem_of_find?_eq_some hr)
      · simp
    · simp
  clear hal2 hrs
  go_enter Tryd.func3, Tryd.ntmps3
  go_wp2_with fail
  refine HMI.out.mono ?_
  rintro e w1 ⟨mv, L, rfl, hro, hmp, hg1⟩
  have hll : L.length = rs.length := by rw [← hmp, List.length_map]
  obtain ⟨ma, mc, hmv⟩ := Rw.form hro.row
  rw [hll] at hmv
  subst hmv
  have hnr := hro.nrs
  rw [hmp] at hnr
  have HNR := hide hnr
  have HG1 := hide hg1
  have hbn := Blk.new w1 [.slice ma rs.length mc, .bool false] 26
  have gN : G w1 (w1.alloc (.cells #[.slice ma rs.length mc, .bool false] 26)) := (G.refl w1).alloc _
  have HGN := hide gN
  have HBN := hide hbn
  have c2 := hbn.cell
  clear hro hmp hg1 hnr HMI hll gN hbn
  by_cases he1 : 400 < nodes.length
  · have he2 : (400 : Int) < nodes.length := by omega
    have he3 : decide ((400 : Int) < nodes.length) = true := decide_eq_true he2
    clear he1
    go_wp2_with fail
    go_ret
    exact ⟨rfl, HG1.out.trans HGN.out⟩
  · have he2 : ¬ ((400 : Int) < nodes.length) := by omega
    have he3 : decide ((400 : Int) < nodes.length) = false := decide_eq_false he2
    have HE1 : Hid (nodes.length ≤ 400) := Nat.le_of_not_lt he1
    clear he1
    have gC : G (w1.alloc (.cells #[.slice ma rs.length mc, .bool false] 26)) ((w1.alloc (.cells #[.slice ma rs.length mc, .bool false] 26)).alloc (.cells #[.slice ma rs.length mc, .bool false, .slice none 0 0, .slice none 0 0] 30)) := (G.refl _).alloc _
    have hbs := Blk.new (w1.alloc (.cells #[.slice ma rs.length mc, .bool false] 26)) [.slice ma rs.length mc, .bool false, .slice none 0 0, .slice none 0 0] 30
    rw [World.size_alloc] at hbs
    have HG3 := hide (HGN.out.trans gC)
    have HB3 := hide (HBN.out.G gC)
    have HBS := hide hbs
    have HCP := hide (copy_any ((w1.alloc (.cells #[.slice ma rs.length mc, .bool false] 26)).alloc (.cells #[.slice ma rs.length mc, .bool false, .slice none 0 0, .slice none 0 0] 30)) _ nodes (HI.out.G (HG1.out.trans (HGN.out.trans gC))) (by have := HNL.out; omega))
    clear gC hbs
    go_wp2_with fail
    clear c2
    generalize (w1.alloc (.cells #[.slice ma rs.length mc, .bool false] 26)).alloc (.cells #[.slice ma rs.length mc, .bool false, .slice none 0 0, .slice none 0 0] 30) = w3 at *
    obtain ⟨bn, hbn⟩ : ∃ bn, bn = w1.heap.size := ⟨_, rfl⟩
    have HBL : Hid (w1.heap.size ≤ bn + 1) := by rw [hbn]; exact Nat.le_succ _
    rw [← hbn] at HB3 HBS ⊢
    clear hbn HBN HGN
    refine HCP.out.mono ?_
    rintro e w4 ⟨cv, rfl, hrc, hg4⟩
    obtain ⟨ca, cc, rfl⟩ := Rw.form hrc
    have hsn : Shn w1 w4 (bn + 1) (.slice ma rs.length mc) rs false (.slice none 0 0) (.slice none 0 0) [] [] :=
      ⟨HG3.out.trans hg4, HBS.out.G hg4, Rw.nil _ _ _ _, Rw.nil _ _ _ _, rfl, fun i id v h => by simp at h, HNR.out, HBL.out, HM.out.G HG1.out⟩
    have HOR := hide (ordp_any w1 w4 (bn + 1) (.slice ma rs.length mc) rs false _ _ [] [] (by simp) hsn HRL.out HAL.out _ nodes (Rw.ids hrc HI.out.ok) HNL.out (eachL nodes) (eachL_up nodes) (fun _ => eachL_mem))
    have HB4 := hide (HB3.out.G hg4)
    clear hrc hg4 hsn HCP HB3 HBS HG3
    go_wp2_with fail
    refine HOR.out.mono ?_
    rintro e w5 ⟨out, ok, code, asked, av5, gv5, gl5, nv5, hR, rfl, hr5, hsn5, hmv5, -, -⟩
    obtain ⟨rfl, hyes, hno⟩ := hR.says (eachL_up nodes) (Nat.le_trans (eachL_len nodes) (Nat.le_trans HE1.out (by decide))) HC0.out
    have HG5 := hide hsn5.g
    have HB5 := hide (HB4.out.mv hmv5 (by decide))
    have HR5 := hide hr5
    obtain ⟨na, nc, rfl⟩ := Rw.form hr5
    clear hR hr5 hsn5 hmv5 HOR HB4
    cases ok with
    | false =>
      obtain ⟨rfl, U, hU, hUn, hUe⟩ := hno rfl
      have c5 := HB5.out.cell
      have HRI := hide (ring_any w5 (.slice ma rs.length mc) rs false (HNR.out.G HG5.out) HRL.out HAL.out (.slice la nodes.length lc) nodes (HI.out.G (HG1.out.trans HG5.out)) HNL.out U hU (fun u hu => eachL_mem.1 (hUn u hu)) hUe)
      clear hyes hno hU hUn hUe
      go_wp2_with fail
      refine HRI.out.mono ?_
      rintro e w6 ⟨rfl, hg6⟩
      go_wp2_with fail
      go_ret
      exact ⟨rfl, HG1.out.trans (HG5.out.trans hg6)⟩
    | true =>
      obtain ⟨hnd, hmem, hfw⟩ := hyes rfl
      have HND := hide hnd
      have HMEM : Hid (∀ x, x ∈ out ↔ x ∈ nodes) := fun x => (hmem x).trans eachL_mem
      have HFW := hide hfw
      have hol : out.length ≤ 1048576 := by
        have := hnd.length_le_of_subset (l₂ := nodes) (fun x hx => (HMEM.out x).1 hx)
        have := HNL.out
        omega
      have HOL := hide hol
      have HCN : Hid (∀ V, G w5 V → ∀ (o : Nat) x, nodes[o]? = some x → ∃ lb lo, la = some ⟨lb, lo, none⟩ ∧ V.cell? ⟨lb, lo + o, none⟩ = some (I x)) := fun V gV o x ho => by
        obtain ⟨lb, lo, e, c⟩ := (HI.out.G (HG1.out.trans (HG5.out.trans gV))).cellAt ho
        exact ⟨lb, lo, e, c⟩
      have HCO : Hid (∀ V, G w5 V → ∀ (o : Nat) x, out[o]? = some x → ∃ g, na = some ⟨g, 0, none⟩ ∧ V.cell? ⟨g, o, none⟩ = some (I x)) := fun V gV o x ho => by
        have hop := (List.getElem?_eq_some_iff.1 ho).1
        obtain ⟨g2, cap2, he, -, hc, -⟩ := (Rw.G HR5.out gV).cell (Nat.zero_lt_of_lt hop)
        refine ⟨g2, by simp at he; exact he.1, ?_⟩
        rw [hc o (by rw [Nat.mul_one]; exact hop), List.getElem?_map, ho]
        rfl
      clear hyes hno hnd hmem hfw hol
      go_wp2_with fail
      go_loopw [10] (fun iv wr => ∃ i : Nat, iv = I i ∧ i ≤ nodes.length ∧ G w5 wr) (fun iv _ => nodes.length - (RowKit.intOf iv).toNat)
      case atStart => exact ⟨0, rfl, Nat.zero_le _, G.refl _⟩
      case round =>
        obtain ⟨i, rfl, hi, hg⟩ := hrel
        by_cases hil : i < nodes.length
        · have hiI : (i : Int) < nodes.length := Int.ofNat_lt.2 hil
          obtain ⟨x, hx⟩ : ∃ x, nodes[i]? = some x := ⟨_, List.getElem?_eq_getElem hil⟩
          have hwi : wrap64 ((i : Int) + 1) = (i : Int) + 1 := wone6 i (Nat.le_trans (Nat.le_of_lt hil) HNL.out)
          have HX := hide hx
          have HIL := hide hil
          have HG := hide hg
          have HONE := hide (count_one HND.out ((HMEM.out x).2 (List.mem_of_getElem? hx)))
          clear hi hg hil hx
          go_wp2_with fail
          go_loopw [11, 12] (fun cv kv w6 => ∃ k : Nat, cv = I (((out.take k).count x : Nat) : Int) ∧ kv = I k ∧ k ≤ out.length ∧ G w5 w6) (fun _ kv _ => out.length - (RowKit.intOf kv).toNat)
          case atStart => exact ⟨0, by simp, rfl, Nat.zero_le _, HG.out⟩
          case round =>
            obtain ⟨k, rfl, rfl, hk, hg6⟩ := hrel
            by_cases hkl : k < out.length
            · have hkI : (k : Int) < out.length := Int.ofNat_lt.2 hkl
              obtain ⟨y, hy⟩ : ∃ y, out[k]? = some y := ⟨_, List.getElem?_eq_getElem hkl⟩
              have hwk : wrap64 ((k : Int) + 1) = (k : Int) + 1 := wone6 k (Nat.le_trans (Nat.le_of_lt hkl) HOL.out)
              obtain ⟨lb, lo, rfl, cx⟩ := HCN.out wr hg6 i x HX.out
              obtain ⟨g, rfl, cy⟩ := HCO.out wr hg6 k y hy
              have hct := count_take (x := x) hy
              have hcb := count_le (l := out) k x HOL.out
              obtain ⟨n, hn⟩ : ∃ n, n = (out.take k).count x := ⟨_, rfl⟩
              rw [← hn] at hct hcb ⊢
              have hwn : wrap64 ((n : Int) + 1) = (n : Int) + 1 := wone6 n hcb
              have HCT := hide hct
              have HG6 := hide hg6
              have HKL := hide hkl
              clear hk hg6 hkl hy hct hcb hn
              by_cases hyx : y = x
              · have hyb : (y == x) = true := by simpa using hyx
                have HC2 : Hid ((out.take (k + 1)).count x = n + 1) := by show _ = _; rw [HCT.out, if_pos hyx]
                clear hyx
                go_wp2_with fail
                go_quiet (fail)
                go_wp2_with fail
                go_roundw
                case rel => (try rw [hwk]); (try rw [hwn]); exact ⟨k + 1, by rw [HC2.out]; simp, by simp, HKL.out, HG6.out.trans (g_drewN _ _)⟩
                case measure => (try rw [hwk]); simp only [RowKit.intOf]; exact ms5 HKL.out
              · have hyb : (y == x) = false := beq_eq_false_iff_ne.2 hyx
                have HC2 : Hid ((out.take (k + 1)).count x = n) := by show _ = _; rw [HCT.out, if_neg hyx]; rfl
                clear hyx
                go_wp2_with fail
                go_quiet (fail)
                go_wp2_with fail
                go_roundw
                case rel => (try rw [hwk]); exact ⟨k + 1, by rw [HC2.out], by simp, HKL.out, HG6.out.trans (g_drewN _ _)⟩
                case measure => (try rw [hwk]); simp only [RowKit.intOf]; exact ms5 HKL.out
            · have hkI : ¬ ((k : Int) < out.length) := fun h => hkl (Int.ofNat_lt.1 h)
              obtain rfl : k = out.length := Nat.le_antisymm hk (Nat.le_of_not_lt hkl)
              rw [List.take_length, HONE.out]
              have HG6 := hide hg6
              clear hk hg6 hkl
              go_wp2_with fail
              go_roundw
              case rel => (try rw [hwi]); exact ⟨i + 1, by simp, HIL.out, HG6.out⟩
              case measure => (try rw [hwi]); simp only [RowKit.intOf]; exact ms5 HIL.out
        · have hiI : ¬ ((i : Int) < nodes.length) := fun h => hil (Int.ofNat_lt.1 h)
          have HG := hide hg
          clear hi hg hil
          go_wp2_with fail
          go_loopw [13] (fun iv wr => ∃ i : Nat, iv = I i ∧ i ≤ out.length ∧ G w5 wr) (fun iv _ => out.length - (RowKit.intOf iv).toNat)
          case atStart => exact ⟨0, rfl, Nat.zero_le _, HG.out⟩
          case round =>
            obtain ⟨i, rfl, hi, hg⟩ := hrel
            by_cases hil : i < out.length
            · have hiI : (i : Int) < out.length := Int.ofNat_lt.2 hil
              obtain ⟨y, hy⟩ : ∃ y, out[i]? = some y := ⟨_, List.getElem?_eq_getElem hil⟩
              have hwi : wrap64 ((i : Int) + 1) = (i : Int) + 1 := wone6 i (Nat.le_trans (Nat.le_of_lt hil) HOL.out)
              have hym : y ∈ nodes := (HMEM.out y).1 (List.mem_of_getElem? hy)
              obtain ⟨g, rfl, -⟩ := HCO.out wr hg i y hy
              have HYM := hide hym
              have HY := hide hy
              have HIL := hide hil
              have HG := hide hg
              clear hi hg hil hy hym
              go_wp2_with fail
              go_loopw [14, 15] (fun bv kv w6 => ∃ k : Nat, kv = I k ∧ bv = .bool (decide (y ∈ nodes.take k)) ∧ k ≤ nodes.length ∧ G w5 w6) (fun _ kv _ => nodes.length - (RowKit.intOf kv).toNat)
              case atStart => exact ⟨0, rfl, by simp, Nat.zero_le _, HG.out⟩
              case round =>
                obtain ⟨k, rfl, rfl, hk, hg6⟩ := hrel
                by_cases hkl : k < nodes.length
                · have hkI : (k : Int) < nodes.length := Int.ofNat_lt.2 hkl
                  obtain ⟨x, hx⟩ : ∃ x, nodes[k]? = some x := ⟨_, List.getElem?_eq_getElem hkl⟩
                  have hwk : wrap64 ((k : Int) + 1) = (k : Int) + 1 := wone6 k (Nat.le_trans (Nat.le_of_lt hkl) HNL.out)
                  obtain ⟨lb, lo, rfl, cx⟩ := HCN.out wr hg6 k x hx
                  obtain ⟨g', eg, cy⟩ := HCO.out wr hg6 i y HY.out
                  have : g = g' := by simp at eg; exact eg
                  subst this
                  have HNX : Hid (decide (y ∈ nodes.take (k + 1)) = (decide (y ∈ nodes.take k) || (x == y))) := by
                    show _ = _
                    rw [List.take_add_one, hx]
                    simp [eq_comm, Bool.beq_eq_decide_eq]
                  have HG6 := hide hg6
                  have HKL := hide hkl
                  obtain ⟨bb, hbb⟩ : ∃ bb, bb = decide (y ∈ nodes.take k) := ⟨_, rfl⟩
                  rw [← hbb] at HNX ⊢
                  clear hbb hg6 hkl hx hk eg
                  cases bb with
                  | true =>
                    have HN2 := HNX.out
                    rw [Bool.true_or] at HN2
                    have HN3 := hide HN2
                    clear HN2 HNX
                    go_wp2_with fail
                    go_quiet (fail)
                    go_wp2_with fail
                    go_roundw
                    case rel => (try rw [hwk]); exact ⟨k + 1, by simp, by rw [HN3.out], HKL.out, HG6.out.trans (g_drewN _ _)⟩
                    case measure => (try rw [hwk]); simp only [RowKit.intOf]; exact ms5 HKL.out
                  | false =>
                    have HN2 := HNX.out
                    rw [Bool.false_or] at HN2
                    have HN3 := hide HN2
                    clear HN2 HNX
                    obtain ⟨q, hq⟩ : ∃ q, q = (x == y) := ⟨_, rfl⟩
                    have hq2 := hq.symm
                    rw [← hq] at HN3
                    clear hq
                    cases q with
                    | true =>
                      go_wp2_with fail
                      go_quiet (fail)
                      go_wp2_with fail
                      go_roundw
                      case rel => (try rw [hwk]); exact ⟨k + 1, by simp, by rw [HN3.out], HKL.out, HG6.out.trans (g_drewN _ _)⟩
                      case measure => (try rw [hwk]); simp only [RowKit.intOf]; exact ms5 HKL.out
                    | false =>
                      go_wp2_with fail
                      go_quiet (fail)
                      go_wp2_with fail
                      go_roundw
                      case rel => (try rw [hwk]); exact ⟨k + 1, by simp, by rw [HN3.out], HKL.out, HG6.out.trans (g_drewN _ _)⟩
                      case measure => (try rw [hwk]); simp only [RowKit.intOf]; exact ms5 HKL.out
                · have hkI : ¬ ((k : Int) < nodes.length) := fun h => hkl (Int.ofNat_lt.1 h)
                  obtain rfl : k = nodes.length := Nat.le_antisymm hk (Nat.le_of_not_lt hkl)
                  rw [List.take_length, decide_eq_true HYM.out]
                  obtain ⟨M, hM⟩ : ∃ M, M = (netOf rs false y).1 := ⟨_, rfl⟩
                  have HML : Hid (M.length ≤ 1048576) := by rw [hM]; exact HAL.out y
                  have HOF := hide (of_any w1 wr.drew (.slice ma rs.length mc) rs false y HNR.out ((HG5.out.trans hg6).trans (G.drew (G.refl _))) (HI.out.ok y HYM.out) HRL.out)
                  have HF2 : Hid (∀ (a : Nat) x, a ≤ i → out[a]? = some x → ∀ r ∈ M, r.2.1 ≠ x) := fun a x ha hx r hr => by
                    rw [hM] at hr
                    exact HFW.out a i x y ha hx HY.out r hr
                  rw [← hM] at HOF
                  have HALL : Hid (∀ V, G wr V → (fun V => (∀ o, V.cell? ⟨bn, o, none⟩ = ([.slice ma rs.length mc, .bool false] : List Value)[o]?) ∧ V.cell? ⟨g, i, none⟩ = some (I y)) V) := fun V gV => ⟨(HB5.out.G (hg6.trans gV)).cell, by
                    obtain ⟨g', eg, cy⟩ := HCO.out V (hg6.trans gV) i y HY.out
                    have : g = g' := by simp at eg; exact eg
                    subst this
                    exact cy⟩
                  have HGW3 := hide (HG5.out.trans hg6)
                  have HG6 := hide hg6
                  obtain ⟨code, hcode⟩ : ∃ code, code = (netOf rs false y).2 := ⟨_, rfl⟩
                  rw [← hcode] at HOF
                  clear hk hg6 hkl hM hcode
                  go_wp2_with fail
                  refine wp_region_noPanic ?_
                  refine wp_region_held_drew (S := (fun V => (∀ o, V.cell? ⟨bn, o, none⟩ = ([.slice ma rs.length mc, .bool false] : List Value)[o]?) ∧ V.cell? ⟨g, i, none⟩ = some (I y))) (by kernel_rfl) (HALL.out _ (G.drew (G.refl _))) (fun hHeld => ?_)
                  refine wpAnyH_take (i := 0) (v := ?_) rfl (by kernel_rfl) (by kernel_rfl) (by kernel_rfl) (fun _ _ _ h => h) (Or.inl ⟨by rfl, ?_⟩) hHeld ?_
                  rotate_left 1
                  · (intro w hSw; obtain ⟨q1, q2⟩ := hSw; go_simp; try with_reducible rfl)
                  try simp only [Act.put, List.getElem_toArray, List.getElem_cons_zero, List.setIfInBounds_toArray, List.set_cons_zero, List.set_cons_succ]
                  refine wpAnyH_take (i := 1) (v := ?_) rfl (by kernel_rfl) (by kernel_rfl) (by kernel_rfl) (fun _ _ _ h => h) (Or.inl ⟨by rfl, ?_⟩) hHeld ?_
                  rotate_left 1
                  · (intro w hSw; obtain ⟨q1, q2⟩ := hSw; go_simp; try with_reducible rfl)
                  try simp only [Act.put, List.getElem_toArray, List.getElem_cons_zero, List.getElem_cons_succ, List.setIfInBounds_toArray, List.set_cons_zero, List.set_cons_succ]
                  refine wpAnyH_take (i := 2) (v := ?_) rfl (by kernel_rfl) (by kernel_rfl) (by kernel_rfl) (fun _ _ _ h => h) (Or.inl ⟨by rfl, ?_⟩) hHeld ?_
                  rotate_left 1
                  · (intro w hSw; obtain ⟨q1, q2⟩ := hSw; go_simp; try with_reducible rfl)
                  try simp only [Act.put, List.getElem_toArray, List.getElem_cons_zero, List.getElem_cons_succ, List.setIfInBounds_toArray, List.set_cons_zero, List.set_cons_succ]
                  refine wpAnyH_take (i := 3) (v := ?_) rfl (by kernel_rfl) (by kernel_rfl) (by kernel_rfl) (fun _ _ _ h => h) (Or.inl ⟨by rfl, ?_⟩) hHeld ?_
                  rotate_left 1
                  · (intro w hSw; obtain ⟨q1, q2⟩ := hSw; go_simp; try with_reducible rfl)
                  try simp only [Act.put, List.getElem_toArray, List.getElem_cons_zero, List.getElem_cons_succ, List.setIfInBounds_toArray, List.set_cons_zero, List.set_cons_succ]
                  refine wpAnyH_take (i := 4) (v := ?_) rfl (by kernel_rfl) (by kernel_rfl) (by kernel_rfl) (fun _ _ _ h => h) (Or.inl ⟨by rfl, ?_⟩) hHeld ?_
                  rotate_left 1
                  · (intro w hSw; obtain ⟨q1, q2⟩ := hSw; go_simp; try with_reducible rfl)
                  try simp only [Act.put, List.getElem_toArray, List.getElem_cons_zero, List.getElem_cons_succ, List.setIfInBounds_toArray, List.set_cons_zero, List.set_cons_succ]
                  refine wpAnyH_ready (rs := [5]) (by kernel_rfl) (by simp) (AllReadyH.cons rfl (fun K hK => ?_) AllReadyH.nil)
                  clear hHeld
                  go_simp
                  refine HOF.out.mono ?_
                  rintro e w7 ⟨lv, rfl, hax, hg7⟩
                  have HG7 := hide (G.trans (G.drew (G.refl wr)) hg7)
                  have har := hax.arcs ((HGW3.out.trans (G.drew (G.refl wr))).trans hg7)
                  obtain ⟨la5, lc5, rfl⟩ : ∃ la lc, lv = .slice la M.length lc := by obtain ⟨q1, q2, q3, -⟩ := har.at_; exact ⟨q1, q2, q3⟩
                  have HA5 := hide har
                  clear hax hg7 har
                  go_wp2_with fail
                  refine hK.out _ _ (HALL.out _ HG7.out) (fun hHeld => ?_)
                  clear hK K
                  try simp only [Act.put, List.getElem_toArray, List.getElem_cons_zero, List.getElem_cons_succ, List.setIfInBounds_toArray, List.set_cons_zero, List.set_cons_succ]
                  refine wpAnyH_take (i := 6) (v := ?_) rfl (by kernel_rfl) (by kernel_rfl) (by kernel_rfl) (fun _ _ _ h => h) (Or.inl ⟨by rfl, ?_⟩) hHeld ?_
                  rotate_left 1
                  · (intro w hSw; (try dsimp only at hSw); go_simp; try with_reducible rfl)
                  try simp only [Act.put, List.getElem_toArray, List.getElem_cons_zero, List.getElem_cons_succ, List.setIfInBounds_toArray, List.set_cons_zero, List.set_cons_succ]
                  refine wpAnyH_take (i := 7) (v := ?_) rfl (by kernel_rfl) (by kernel_rfl) (by kernel_rfl) (fun _ _ _ h => h) (Or.inl ⟨by rfl, ?_⟩) hHeld ?_
                  rotate_left 1
                  · (intro w hSw; (try dsimp only at hSw); go_simp; try with_reducible rfl)
                  try simp only [Act.put, List.getElem_toArray, List.getElem_cons_zero, List.getElem_cons_succ, List.setIfInBounds_toArray, List.set_cons_zero, List.set_cons_succ]
                  refine wpAnyH_take (i := 8) (v := ?_) rfl (by kernel_rfl) (by kernel_rfl) (by kernel_rfl) (fun _ _ _ h => h) (Or.inl ⟨by rfl, ?_⟩) hHeld ?_
                  rotate_left 1
                  · (intro w hSw; (try dsimp only at hSw); go_simp; try with_reducible rfl)
                  try simp only [Act.put, List.getElem_toArray, List.getElem_cons_zero, List.getElem_cons_succ, List.setIfInBounds_toArray, List.set_cons_zero, List.set_cons_succ]
                  refine wpAnyH_take (i := 9) (v := ?_) rfl (by kernel_rfl) (by kernel_rfl) (by kernel_rfl) (fun _ _ _ h => h) (Or.inl ⟨by rfl, ?_⟩) hHeld ?_
                  rotate_left 1
                  · (intro w hSw; (try dsimp only at hSw); go_simp; try with_reducible rfl)
                  try simp only [Act.put, List.getElem_toArray, List.getElem_cons_zero, List.getElem_cons_succ, List.setIfInBounds_toArray, List.set_cons_zero, List.set_cons_succ]
                  refine wpAnyH_take (i := 10) (v := ?_) rfl (by kernel_rfl) (by kernel_rfl) (by kernel_rfl) (fun _ _ _ h => h) (Or.inl ⟨by rfl, ?_⟩) hHeld ?_
                  rotate_left 1
                  · (intro w hSw; (try dsimp only at hSw); go_simp; try with_reducible rfl)
                  try simp only [Act.put, List.getElem_toArray, List.getElem_cons_zero, List.getElem_cons_succ, List.setIfInBounds_toArray, List.set_cons_zero, List.set_cons_succ]
                  refine wpAnyH_done (by kernel_rfl) ?_ _
                  refine NoPanic.normal ?_
                  clear HOF HALL
                  have HG8 := hide (HG6.out.trans HG7.out)
                  clear HG6 HG7 HGW3
                  go_wp2_with fail
                  obtain ⟨wj, rfl⟩ : ∃ wj, wj = w7 := ⟨_, rfl⟩
                  go_loopw [18] (fun jv w8 => ∃ j : Nat, jv = I j ∧ j ≤ M.length ∧ G wj w8) (fun jv _ => M.length - (RowKit.intOf jv).toNat)
                  case atStart => exact ⟨0, rfl, Nat.zero_le _, by first | exact G.refl _ | exact g_drewN _ _⟩
                  case round =>
                    obtain ⟨j, rfl, hj, hg8⟩ := hrel
                    by_cases hjl : j < M.length
                    · have hjI : (j : Int) < M.length := Int.ofNat_lt.2 hjl
                      obtain ⟨⟨ye, yt, yw⟩, hz⟩ : ∃ z, M[j]? = some z := ⟨_, List.getElem?_eq_getElem hjl⟩
                      have hwj : wrap64 ((j : Int) + 1) = (j : Int) + 1 := wone6 j (Nat.le_trans (Nat.le_of_lt hjl) HML.out)
                      have HZ := hide hz
                      have HJL := hide hjl
                      have HG9 := hide hg8
                      have HNE : Hid (∀ (a : Nat) x, a ≤ i → out[a]? = some x → yt ≠ x) := fun a x ha hx => HF2.out a x ha hx _ (List.mem_of_getElem? hz)
                      clear hj hg8 hjl hz
                      go_wp2_with fail
                      go_loopw [19] (fun kv w9 => ∃ k : Nat, kv = I k ∧ k ≤ i + 1 ∧ G wj w9) (fun kv _ => i + 1 - (RowKit.intOf kv).toNat)
                      case atStart => exact ⟨0, rfl, Nat.zero_le _, HG9.out⟩
                      case round =>
                        obtain ⟨k, rfl, hk, hg9⟩ := hrel
                        by_cases hkl : k ≤ i
                        · have hkI : (k : Int) ≤ i := Int.ofNat_le.2 hkl
                          have hkid : decide ((k : Int) ≤ i) = true := decide_eq_true hkI
                          have hko : k < out.length := Nat.lt_of_le_of_lt hkl HIL.out
                          have hkoI : (k : Int) < out.length := Int.ofNat_lt.2 hko
                          have hjI2 : (j : Int) < M.length := Int.ofNat_lt.2 HJL.out
                          obtain ⟨x, hx⟩ : ∃ x, out[k]? = some x := ⟨_, List.getElem?_eq_getElem hko⟩
                          have hwk : wrap64 ((k : Int) + 1) = (k : Int) + 1 := wone6 k (Nat.le_trans (Nat.le_of_lt hko) HOL.out)
                          obtain ⟨-, ab, aoff, rfl, -, y2, -, -⟩ := (HA5.out.G hg9).get HZ.out
                          simp only at y2
                          obtain ⟨g', eg, cy⟩ := HCO.out wr (HG8.out.trans hg9) k x hx
                          have : g = g' := by simp at eg; exact eg
                          subst this
                          have hyb : (yt == x) = false := beq_eq_false_iff_ne.2 (HNE.out k x hkl hx)
                          have HG10 := hide hg9
                          have HKL : Hid (k < i + 1) := Nat.lt_succ_of_le hkl
                          clear hk hg9 hkl hko hx eg
                          go_wp2_with fail
                          go_quiet (fail)
                          go_wp2_with fail
                          go_roundw
                          case rel => (try rw [hwk]); exact ⟨k + 1, by simp, HKL.out, HG10.out.trans (g_drewN _ _)⟩
                          case measure => (try rw [hwk]); simp only [RowKit.intOf]; exact ms5 HKL.out
                        · have hkI : ¬ ((k : Int) ≤ i) := fun h => hkl (Int.ofNat_le.1 h)
                          have hkid : decide ((k : Int) ≤ i) = false := decide_eq_false hkI
                          have HG10 := hide hg9
                          clear hk hg9 hkl
                          go_wp2_with fail
                          go_roundw
                          case rel => (try rw [hwj]); exact ⟨j + 1, by simp, HJL.out, HG10.out⟩
                          case measure => (try rw [hwj]); simp only [RowKit.intOf]; exact ms5 HJL.out
                    · have hjI : ¬ ((j : Int) < M.length) := fun h => hjl (Int.ofNat_lt.1 h)
                      have HG9 := hide (HG8.out.trans hg8)
                      clear hj hg8 hjl
                      go_wp2_with fail
                      go_roundw
                      case rel => (try rw [hwi]); exact ⟨i + 1, by simp, HIL.out, HG9.out⟩
                      case measure => (try rw [hwi]); simp only [RowKit.intOf]; exact ms5 HIL.out
            · have hiI : ¬ ((i : Int) < out.length) := fun h => hil (Int.ofNat_lt.1 h)
              have HG := hide hg
              clear hi hg hil
              go_wp2_with fail
              go_ret
              exact ⟨rfl, HG1.out.trans (HG5.out.trans HG.out)⟩
end Go.Proofs.YtemkilffagjmcaaDoor
