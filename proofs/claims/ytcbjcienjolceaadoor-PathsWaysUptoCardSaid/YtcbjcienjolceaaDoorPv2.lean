/- Paths: the document's arcTo. -/
import Derived.Test.YtcbjcienjolceaaDoorPv1
import Derived.Test.YtcbjcienjolceaaDoorPk1
import Derived.Test.YtcbjcienjolceaaDoorPm4
namespace Go.Proofs.YtcbjcienjolceaaDoor
open Go.RowKit

theorem netok {w : World} {v : Value} {rs : List Nr} (h : Nrs w v rs) (tail : Bool) (id : Int) {a : Ar} (ha : a ∈ (netOf rs tail id).1) : R64 a.2.1 := by
  unfold netOf at ha
  split at ha
  · rename_i r hr
    split at ha
    · obtain ⟨x, cap, rfl, rfl | ⟨b, off, rfl, h2⟩⟩ := h
      · simp at hr
      · obtain ⟨i, hi, e⟩ := List.getElem_of_mem (List.mem_of_find?_eq_some hr)
        subst e
        obtain ⟨-, ⟨va, -, har⟩, -⟩ := h2 i _ (List.getElem?_eq_getElem hi)
        exact (har.ok a ha).2.1
    · simp at ha
  · split at ha
    · simp at ha
      subst ha
      exact r64_wrap _
    · simp at ha
theorem wadd2 (s w : Int) (h1 : 0 ≤ s ∧ s ≤ 1099511627776) (h2 : 0 ≤ w ∧ w ≤ 1099511627776 - s) : wrap64 (s + w) = s + w := by unfold wrap64; omega
theorem wone2 (i : Nat) (h : i ≤ 1048576) : wrap64 ((i : Int) + 1) = (i : Int) + 1 := by unfold wrap64; omega
set_option maxRecDepth 100000 in
set_option maxHeartbeats 2000000 in
theorem arcto_any (Wb W : World) (rv : Value) (rs : List Nr) (tail : Bool) (hN : Nrs Wb rv rs) (hG : G Wb W) (hrl : rs.length ≤ 1048576) (hal : ∀ id, (netOf rs tail id).1.length ≤ 1048576) (sv av : Value) (code : Int) (hit : Bool) (lo : Nat) (st : List Sn) (hs : Sr lo W sv st) (k q : Nat) (x : Sn) (hx : st[k]? = some x) (a : Ar) (hstp : Stp rs tail st k q x.1 x.2 a)
    (hr : ∀ (i : Nat) p, i < k → st[i]? = some p → R64 p.1 ∧ (netOf rs tail p.1).2 = 0 ∧ 0 ≤ p.2 ∧ p.2 ≤ 1099511627776 ∧ ∀ a ∈ (netOf rs tail p.1).1, 0 ≤ a.2.2 ∧ a.2.2 ≤ 1099511627776 - p.2) (hkb : st.length ≤ 1048576) :
    Calls Tryd.prog 35 #[.agg #[rv, .bool tail], .agg #[sv, av, I code, .bool hit], I k] W fun e W' => e = .returned (.tuple #[I q, .agg #[I a.1, I a.2.1, I a.2.2]]) ∧ G W W' := by
  obtain ⟨rva, rvc, hrv⟩ : ∃ a c, rv = .slice a rs.length c := by obtain ⟨a, c, e, _⟩ := hN; exact ⟨a, c, e⟩
  subst hrv
  have hkl := (List.getElem?_eq_some_iff.1 hx).1
  obtain ⟨g, cap, hsv, -, -, -⟩ := sr_at hs hx
  subst hsv
  obtain ⟨hqk, r, pq, hpq, har, hn, hsum, hld⟩ := hstp
  have HCS : Hid (∀ V, G W V → ∀ (i : Nat) p, st[i]? = some p → V.cell? ⟨g, i * 2, none⟩ = some (I p.1) ∧ V.cell? ⟨g, i * 2 + 1, none⟩ = some (I p.2)) := fun V gV i p hp => by
    obtain ⟨g2, cap2, e2, -, c1, c2⟩ := sr_at (Rw.G hs gV) hp
    have : g = g2 := by simp at e2; exact e2.1
    subst this
    exact ⟨c1, c2⟩
  obtain ⟨w0, hw0⟩ : ∃ w0, w0 = (((W.alloc (.cells #[.slice rva rs.length rvc, .bool tail] 25)).alloc (.cells #[.slice (some ⟨g, 0, none⟩) st.length cap, av, I code, .bool hit] 86)).alloc (.cells #[I 0, I 0, I 0] 47)) := ⟨_, rfl⟩
  obtain ⟨b3, hb3⟩ : ∃ b3, b3 = W.heap.size := ⟨_, rfl⟩
  obtain ⟨b4, hb4⟩ : ∃ b4, b4 = W.heap.size + 1 := ⟨_, rfl⟩
  obtain ⟨b7, hb7⟩ : ∃ b7, b7 = W.heap.size + 2 := ⟨_, rfl⟩
  have HG0 : Hid (G W w0) := by rw [hw0]; exact (((G.refl W).alloc _).alloc _).alloc _
  have HB3 : Hid (Blk w0 b3 25 [.slice rva rs.length rvc, .bool tail]) := by rw [hw0, hb3]; exact (Blk.new W [.slice rva rs.length rvc, .bool tail] 25).G (((G.refl _).alloc _).alloc _)
  have HB4 : Hid (Blk w0 b4 86 [.slice (some ⟨g, 0, none⟩) st.length cap, av, I code, .bool hit]) := by
    have := (Blk.new (W.alloc (.cells #[.slice rva rs.length rvc, .bool tail] 25)) [.slice (some ⟨g, 0, none⟩) st.length cap, av, I code, .bool hit] 86).G ((G.refl _).alloc (.cells #[I 0, I 0, I 0] 47))
    rw [World.size_alloc] at this
    rw [hw0, hb4]
    exact this
  have HB70 : Hid (Blk w0 b7 47 [I 0, I 0, I 0]) := by
    have := Blk.new ((W.alloc (.cells #[.slice rva rs.length rvc, .bool tail] 25)).alloc (.cells #[.slice (some ⟨g, 0, none⟩) st.length cap, av, I code, .bool hit] 86)) [I 0, I 0, I 0] 47
    rw [World.size_alloc, World.size_alloc] at this
    rw [hw0, hb7]
    exact this
  have HLO : Hid (W.heap.size ≤ b7) := by show _ ≤ _; omega
  have HX := hide hx
  have HQK := hide hqk
  have HPQ := hide hpq
  have HAR := hide har
  have HNE := hide hn
  have HSUM := hide hsum
  have HLD := hide hld
  have HR := hide hr
  have HKL := hide hkl
  have HKB := hide hkb
  have HGB := hide hG
  have HNR := hide hN
  have HAL := hide hal
  clear hs hx hqk hpq har hn hsum hld hr hkl hkb hG hN hal
  go_enter Tryd.func35, Tryd.ntmps35
  go_wp2_with fail
  rw [← hw0, ← hb7, ← hb4, ← hb3]
  clear hw0 hb3 hb4 hb7
  go_loopw [8] (fun iv wr => ∃ i : Nat, iv = I i ∧ i ≤ q ∧ G w0 wr) (fun iv _ => k - (RowKit.intOf iv).toNat)
  case atStart => exact ⟨0, rfl, Nat.zero_le _, G.refl _⟩
  case round =>
    obtain ⟨i, rfl, hi, hg⟩ := hrel
    have hik : i < k := Nat.lt_of_le_of_lt hi HQK.out
    have hiI : (i : Int) < k := Int.ofNat_lt.2 hik
    have hil : i < st.length := Nat.lt_trans hik HKL.out
    have hilI : (i : Int) < st.length := Int.ofNat_lt.2 hil
    have hklI : (k : Int) < st.length := Int.ofNat_lt.2 HKL.out
    obtain ⟨p, hp⟩ : ∃ p, st[i]? = some p := ⟨_, List.getElem?_eq_getElem hil⟩
    obtain ⟨hr1, hr2, hr3, hr4, hr5⟩ := HR.out i p hik hp
    have HGW := hide ((HGB.out.trans HG0.out).trans hg)
    obtain ⟨l, hl⟩ : ∃ l, l = (netOf rs tail p.1).1 := ⟨_, rfl⟩
    have HOF := hide (of_any Wb wr.drew (.slice rva rs.length rvc) rs tail p.1 HNR.out (HGW.out.trans (G.drew (G.refl _))) hr1 hrl)
    rw [← hl, hr2] at HOF
    rw [← hl] at hr5
    have HLL : Hid (l.length ≤ 1048576) := by rw [hl]; exact HAL.out p.1
    have HALL : Hid (∀ V, G wr V → (fun V => (∀ o, V.cell? ⟨b3, o, none⟩ = ([.slice rva rs.length rvc, .bool tail] : List Value)[o]?) ∧ (∀ o, V.cell? ⟨b4, o, none⟩ = ([.slice (some ⟨g, 0, none⟩) st.length cap, av, I code, .bool hit] : List Value)[o]?) ∧ V.cell? ⟨g, i * 2, none⟩ = some (I p.1)) V) := fun V gV => ⟨(HB3.out.G (hg.trans gV)).cell, (HB4.out.G (hg.trans gV)).cell, (HCS.out V ((HG0.out.trans hg).trans gV) i p hp).1⟩
    have HW5 := hide hr5
    have HS3 : Hid (0 ≤ p.2 ∧ p.2 ≤ 1099511627776) := ⟨hr3, hr4⟩
    have HP := hide hp
    have HL := hide hl
    have HG := hide hg
    have HI := hide hi
    have HIK := hide hik
    have hwi : wrap64 ((i : Int) + 1) = (i : Int) + 1 := wone2 i (Nat.le_trans (Nat.le_of_lt hil) HKB.out)
    clear hr1 hr2 hr3 hr4 hr5 hp hl hg hi hik hil
    go_wp2_with fail
    refine wp_region_noPanic ?_
    refine wp_region_held_drew (S := (fun V => (∀ o, V.cell? ⟨b3, o, none⟩ = ([.slice rva rs.length rvc, .bool tail] : List Value)[o]?) ∧ (∀ o, V.cell? ⟨b4, o, none⟩ = ([.slice (some ⟨g, 0, none⟩) st.length cap, av, I code, .bool hit] : List Value)[o]?) ∧ V.cell? ⟨g, i * 2, none⟩ = some (I p.1))) (by kernel_rfl) (HALL.out _ (G.drew (G.refl _))) (fun hHeld => ?_)
    refine wpAnyH_take (i := 0) (v := ?_) rfl (by kernel_rfl) (by kernel_rfl) (by kernel_rfl) (fun _ _ _ h => h) (Or.inl ⟨by rfl, ?_⟩) hHeld ?_
    rotate_left 1
    · (intro w hSw; obtain ⟨q1, q2, q3⟩ := hSw; go_simp; try with_reducible rfl)
    try simp only [Act.put, List.getElem_toArray, List.getElem_cons_zero, List.setIfInBounds_toArray, List.set_cons_zero, List.set_cons_succ]
    refine wpAnyH_take (i := 1) (v := ?_) rfl (by kernel_rfl) (by kernel_rfl) (by kernel_rfl) (fun _ _ _ h => h) (Or.inl ⟨by rfl, ?_⟩) hHeld ?_
    rotate_left 1
    · (intro w hSw; obtain ⟨q1, q2, q3⟩ := hSw; go_simp; try with_reducible rfl)
    try simp only [Act.put, List.getElem_toArray, List.getElem_cons_zero, List.getElem_cons_succ, List.setIfInBounds_toArray, List.set_cons_zero, List.set_cons_succ]
    refine wpAnyH_take (i := 2) (v := ?_) rfl (by kernel_rfl) (by kernel_rfl) (by kernel_rfl) (fun _ _ _ h => h) (Or.inl ⟨by rfl, ?_⟩) hHeld ?_
    rotate_left 1
    · (intro w hSw; obtain ⟨q1, q2, q3⟩ := hSw; go_simp; try with_reducible rfl)
    try simp only [Act.put, List.getElem_toArray, List.getElem_cons_zero, List.getElem_cons_succ, List.setIfInBounds_toArray, List.set_cons_zero, List.set_cons_succ]
    refine wpAnyH_take (i := 3) (v := ?_) rfl (by kernel_rfl) (by kernel_rfl) (by kernel_rfl) (fun _ _ _ h => h) (Or.inl ⟨by rfl, ?_⟩) hHeld ?_
    rotate_left 1
    · (intro w hSw; obtain ⟨q1, q2, q3⟩ := hSw; go_simp; try with_reducible rfl)
    try simp only [Act.put, List.getElem_toArray, List.getElem_cons_zero, List.getElem_cons_succ, List.setIfInBounds_toArray, List.set_cons_zero, List.set_cons_succ]
    refine wpAnyH_take (i := 4) (v := ?_) rfl (by kernel_rfl) (by kernel_rfl) (by kernel_rfl) (fun _ _ _ h => h) (Or.inl ⟨by rfl, ?_⟩) hHeld ?_
    rotate_left 1
    · (intro w hSw; obtain ⟨q1, q2, q3⟩ := hSw; go_simp; try with_reducible rfl)
    try simp only [Act.put, List.getElem_toArray, List.getElem_cons_zero, List.getElem_cons_succ, List.setIfInBounds_toArray, List.set_cons_zero, List.set_cons_succ]
    refine wpAnyH_take (i := 5) (v := ?_) rfl (by kernel_rfl) (by kernel_rfl) (by kernel_rfl) (fun _ _ _ h => h) (Or.inl ⟨by rfl, ?_⟩) hHeld ?_
    rotate_left 1
    · (intro w hSw; obtain ⟨q1, q2, q3⟩ := hSw; go_simp; try with_reducible rfl)
    try simp only [Act.put, List.getElem_toArray, List.getElem_cons_zero, List.getElem_cons_succ, List.setIfInBounds_toArray, List.set_cons_zero, List.set_cons_succ]
    refine wpAnyH_take (i := 6) (v := ?_) rfl (by kernel_rfl) (by kernel_rfl) (by kernel_rfl) (fun _ _ _ h => h) (Or.inl ⟨by rfl, ?_⟩) hHeld ?_
    rotate_left 1
    · (intro w hSw; obtain ⟨q1, q2, q3⟩ := hSw; go_simp; try with_reducible rfl)
    try simp only [Act.put, List.getElem_toArray, List.getElem_cons_zero, List.getElem_cons_succ, List.setIfInBounds_toArray, List.set_cons_zero, List.set_cons_succ]
    refine wpAnyH_ready (rs := [7]) (by kernel_rfl) (by simp) (AllReadyH.cons rfl (fun K hK => ?_) AllReadyH.nil)
    clear hHeld
    go_simp
    refine HOF.out.mono ?_
    rintro e w8 ⟨lv, rfl, hax, hg8⟩
    have HG8 := hide (G.trans (G.drew (G.refl wr)) hg8)
    have har := hax.arcs ((HGW.out.trans (G.drew (G.refl wr))).trans hg8)
    obtain ⟨la, lc, rfl⟩ : ∃ la lc, lv = .slice la l.length lc := by obtain ⟨q1, q2, q3, -⟩ := har.at_; exact ⟨q1, q2, q3⟩
    have HA := hide har
    clear hax hg8 har
    go_wp2_with fail
    refine hK.out _ _ (HALL.out _ HG8.out) (fun hHeld => ?_)
    clear hK K
    try simp only [Act.put, List.getElem_toArray, List.getElem_cons_zero, List.getElem_cons_succ, List.setIfInBounds_toArray, List.set_cons_zero, List.set_cons_succ]
    refine wpAnyH_take (i := 8) (v := ?_) rfl (by kernel_rfl) (by kernel_rfl) (by kernel_rfl) (fun _ _ _ h => h) (Or.inl ⟨by rfl, ?_⟩) hHeld ?_
    rotate_left 1
    · (intro w hSw; (try dsimp only at hSw); go_simp; try with_reducible rfl)
    try simp only [Act.put, List.getElem_toArray, List.getElem_cons_zero, List.getElem_cons_succ, List.setIfInBounds_toArray, List.set_cons_zero, List.set_cons_succ]
    refine wpAnyH_take (i := 9) (v := ?_) rfl (by kernel_rfl) (by kernel_rfl) (by kernel_rfl) (fun _ _ _ h => h) (Or.inl ⟨by rfl, ?_⟩) hHeld ?_
    rotate_left 1
    · (intro w hSw; (try dsimp only at hSw); go_simp; try with_reducible rfl)
    try simp only [Act.put, List.getElem_toArray, List.getElem_cons_zero, List.getElem_cons_succ, List.setIfInBounds_toArray, List.set_cons_zero, List.set_cons_succ]
    refine wpAnyH_take (i := 10) (v := ?_) rfl (by kernel_rfl) (by kernel_rfl) (by kernel_rfl) (fun _ _ _ h => h) (Or.inl ⟨by rfl, ?_⟩) hHeld ?_
    rotate_left 1
    · (intro w hSw; (try dsimp only at hSw); go_simp; try with_reducible rfl)
    try simp only [Act.put, List.getElem_toArray, List.getElem_cons_zero, List.getElem_cons_succ, List.setIfInBounds_toArray, List.set_cons_zero, List.set_cons_succ]
    refine wpAnyH_take (i := 11) (v := ?_) rfl (by kernel_rfl) (by kernel_rfl) (by kernel_rfl) (fun _ _ _ h => h) (Or.inl ⟨by rfl, ?_⟩) hHeld ?_
    rotate_left 1
    · (intro w hSw; (try dsimp only at hSw); go_simp; try with_reducible rfl)
    try simp only [Act.put, List.getElem_toArray, List.getElem_cons_zero, List.getElem_cons_succ, List.setIfInBounds_toArray, List.set_cons_zero, List.set_cons_succ]
    refine wpAnyH_take (i := 12) (v := ?_) rfl (by kernel_rfl) (by kernel_rfl) (by kernel_rfl) (fun _ _ _ h => h) (Or.inl ⟨by rfl, ?_⟩) hHeld ?_
    rotate_left 1
    · (intro w hSw; (try dsimp only at hSw); go_simp; try with_reducible rfl)
    try simp only [Act.put, List.getElem_toArray, List.getElem_cons_zero, List.getElem_cons_succ, List.setIfInBounds_toArray, List.set_cons_zero, List.set_cons_succ]
    refine wpAnyH_done (by kernel_rfl) ?_ _
    refine NoPanic.normal ?_
    clear HOF
    go_wp2_with fail
    obtain ⟨wo, rfl⟩ : ∃ wo, wo = wr := ⟨_, rfl⟩
    go_loopw [11] (fun jv w9 => ∃ j : Nat, jv = I j ∧ j ≤ l.length ∧ G w8 w9 ∧ (i = q → j ≤ r)) (fun jv _ => l.length - (RowKit.intOf jv).toNat)
    case atStart => exact ⟨0, rfl, Nat.zero_le _, by first | exact G.refl _ | exact g_drewN _ _, fun _ => Nat.zero_le _⟩
    case round =>
      obtain ⟨j, rfl, hj, hg9, hjr⟩ := hrel
      by_cases hjl : j < l.length
      · have hjI : (j : Int) < l.length := Int.ofNat_lt.2 hjl
        obtain ⟨⟨ye, yt, yw⟩, hy⟩ : ∃ y, l[j]? = some y := ⟨_, List.getElem?_eq_getElem hjl⟩
        obtain ⟨-, ab, aoff, rfl, -, -, -, -⟩ := (HA.out.G hg9).get hy
        have HY : Hid (∀ V, G wr V → (fun V => (V.cell? ⟨ab, aoff + j * 3, none⟩ = some (I ye) ∧ V.cell? ⟨ab, aoff + j * 3 + 1, none⟩ = some (I yt) ∧ V.cell? ⟨ab, aoff + j * 3 + 2, none⟩ = some (I yw))) V) := fun V gV => by
          obtain ⟨-, ab', aoff', e, y1, y2, y3, -⟩ := ((HA.out.G hg9).G gV).get hy
          simp only [Option.some.injEq, Addr.mk.injEq, and_true] at e
          obtain ⟨rfl, rfl⟩ := e
          exact ⟨y1, y2, y3⟩
        have hgA : G W wr := (HG0.out.trans HG.out).trans (HG8.out.trans hg9)
        have hf := (HB4.out.G (HG.out.trans (HG8.out.trans hg9))).cell
        obtain ⟨k1, k2⟩ := HCS.out _ hgA k x HX.out
        obtain ⟨-, p2⟩ := HCS.out _ hgA i p HP.out
        obtain ⟨y1, y2, y3⟩ := HY.out _ (G.refl _)
        have hwt := HW5.out _ (List.mem_of_getElem? hy)
        have wsw : wrap64 (p.2 + yw) = p.2 + yw := wadd2 _ _ HS3.out hwt
        have hwj : wrap64 ((j : Int) + 1) = (j : Int) + 1 := wone2 j (Nat.le_trans (Nat.le_of_lt hjl) HLL.out)
        have HJL := hide hjl
        have HG9 := hide hg9
        by_cases hm : i = q ∧ j = r
        · obtain ⟨e1, e2⟩ := hm
          have hpe : pq = p := by
            have := HPQ.out
            rw [← e1, HP.out] at this
            exact (Option.some.inj this).symm
          have hye : a = (ye, yt, yw) := by
            have := HAR.out
            rw [hpe, ← HL.out, ← e2, hy] at this
            exact (Option.some.inj this).symm
          have m1 : (yt == x.1) = true := by
            have := HNE.out
            rw [hye] at this
            simpa using this
          have m2 : (p.2 + yw == x.2) = true := by
            have := HSUM.out
            rw [hye, hpe] at this
            simpa using this
          have HEI := hide e1
          have HYE := hide hye
          have HGF := hide hgA
          have HB7 := hide (HB70.out.G (HG.out.trans (HG8.out.trans hg9)))
          clear hjr hj hg9 hy hwt hpe hye e1 e2 hjl hgA
          go_wp2_with fail
          go_quiet (fail)
          go_wp2_with fail
          generalize hw11 : World.drewN wr _ = w11
          have HG11 : Hid (G wr w11) := by rw [← hw11]; exact g_drewN _ _
          clear hw11 y1 y2 y3 k1 k2 p2 hf
          have hb := HB7.out.G HG11.out
          have HBD := hide hb
          have c7 := (((hb.set 0 (I ye)).set 1 (I yt)).set 2 (I yw)).cell
          simp only [List.set_cons_zero, List.set_cons_succ] at c7
          have HGE : Hid (G W (((w11.setCell ⟨b7, 0, none⟩ (I ye)).setCell ⟨b7, 1, none⟩ (I yt)).setCell ⟨b7, 2, none⟩ (I yw)).drew) := ((((HGF.out.trans HG11.out).setCell (p := ⟨b7, 0, none⟩) HLO.out _).setCell (p := ⟨b7, 1, none⟩) HLO.out _).setCell (p := ⟨b7, 2, none⟩) HLO.out _).drew
          clear hb
          refine wp_region_noPanic ?_
          refine wp_region_L (S := (fun V => (V.cell? ⟨ab, aoff + j * 3, none⟩ = some (I ye) ∧ V.cell? ⟨ab, aoff + j * 3 + 1, none⟩ = some (I yt) ∧ V.cell? ⟨ab, aoff + j * 3 + 2, none⟩ = some (I yw)))) 6 (by kernel_rfl) (HY.out _ (HG11.out.drew)) (fun hHeld => ?_)
          refine wpAnyL_take (i := 0) (v := ?_) rfl (by kernel_rfl) (by kernel_rfl) (by kernel_rfl) (by kernel_rfl) (fun _ _ _ h => h) (Or.inl ⟨by rfl, ?_⟩) hHeld ?_
          rotate_left 1
          · (intro w hSw; (try dsimp only at hSw); go_simp; try with_reducible rfl)
          try simp only [Act.put, List.getElem_toArray, List.getElem_cons_zero, List.setIfInBounds_toArray, List.set_cons_zero, List.set_cons_succ]
          refine wpAnyL_take (i := 1) (v := ?_) rfl (by kernel_rfl) (by kernel_rfl) (by kernel_rfl) (by kernel_rfl) (fun _ _ _ h => h) (Or.inl ⟨by rfl, ?_⟩) hHeld ?_
          rotate_left 1
          · (intro w hSw; (try dsimp only at hSw); go_simp; try with_reducible rfl)
          try simp only [Act.put, List.getElem_toArray, List.getElem_cons_zero, List.getElem_cons_succ, List.setIfInBounds_toArray, List.set_cons_zero, List.set_cons_succ]
          refine wpAnyL_take (i := 2) (v := ?_) rfl (by kernel_rfl) (by kernel_rfl) (by kernel_rfl) (by kernel_rfl) (fun _ _ _ h => h) (Or.inl ⟨by rfl, ?_⟩) hHeld ?_
          rotate_left 1
          · (intro w hSw; (try dsimp only at hSw); go_simp; try with_reducible rfl)
          try simp only [Act.put, List.getElem_toArray, List.getElem_cons_zero, List.getElem_cons_succ, List.setIfInBounds_toArray, List.set_cons_zero, List.set_cons_succ]
          refine wpAnyL_take (i := 3) (v := ?_) rfl (by kernel_rfl) (by kernel_rfl) (by kernel_rfl) (by kernel_rfl) (fun _ _ _ h => h) (Or.inl ⟨by rfl, ?_⟩) hHeld ?_
          rotate_left 1
          · (intro w hSw; obtain ⟨q1, q2, q3⟩ := hSw; go_simp; try with_reducible rfl)
          try simp only [Act.put, List.getElem_toArray, List.getElem_cons_zero, List.getElem_cons_succ, List.setIfInBounds_toArray, List.set_cons_zero, List.set_cons_succ]
          refine wpAnyL_take (i := 4) (v := ?_) rfl (by kernel_rfl) (by kernel_rfl) (by kernel_rfl) (by kernel_rfl) (fun _ _ _ h => h) (Or.inl ⟨by rfl, ?_⟩) hHeld ?_
          rotate_left 1
          · (intro w hSw; obtain ⟨q1, q2, q3⟩ := hSw; go_simp; try with_reducible rfl)
          try simp only [Act.put, List.getElem_toArray, List.getElem_cons_zero, List.getElem_cons_succ, List.setIfInBounds_toArray, List.set_cons_zero, List.set_cons_succ]
          refine wpAnyL_take (i := 5) (v := ?_) rfl (by kernel_rfl) (by kernel_rfl) (by kernel_rfl) (by kernel_rfl) (fun _ _ _ h => h) (Or.inl ⟨by rfl, ?_⟩) hHeld ?_
          rotate_left 1
          · (intro w hSw; (try dsimp only at hSw); go_simp; try with_reducible rfl)
          try simp only [Act.put, List.getElem_toArray, List.getElem_cons_zero, List.getElem_cons_succ, List.setIfInBounds_toArray, List.set_cons_zero, List.set_cons_succ]
          refine wpAnyL_last (by kernel_rfl) rfl (by kernel_rfl) (fun K hK => ?_)
          clear hHeld
          have hc7 := HBD.out.cell
          have hz7 := HBD.out.frozen
          go_simp
          refine hK.out _ _ ?_
          clear hK K
          refine NoPanic.normal ?_
          have hye := HYE.out
          subst hye
          have hiq := HEI.out
          subst hiq
          go_wp2_with fail
          exact bodyPost_ret (v := .tuple #[I i, .agg #[I ye, I yt, I yw]]) (by simp [results, Tryd.results35, go_sem, c7]) rfl ⟨rfl, HGE.out⟩
        · have hno : yt = x.1 → x.2 < p.2 + yw := fun e => by
            rcases Nat.lt_or_ge i q with h1 | h1
            · exact HLD.out.1 i p h1 HP.out _ (by rw [← HL.out]; exact List.mem_of_getElem? hy) e
            · have e1 : i = q := Nat.le_antisymm HI.out h1
              have hjr' : j < r := Nat.lt_of_le_of_ne (hjr e1) (fun e2 => hm ⟨e1, e2⟩)
              exact HLD.out.2 p (by rw [← e1]; exact HP.out) j _ hjr' (by rw [← HL.out]; exact hy) e
          have HNX : Hid (i = q → j + 1 ≤ r) := fun e1 => Nat.lt_of_le_of_ne (hjr e1) (fun e2 => hm ⟨e1, e2⟩)
          clear hjr hj hg9 hy hwt hjl hgA hm
          by_cases ht : yt = x.1
          · have m1 : (yt == x.1) = true := by simpa using ht
            have m2 : (p.2 + yw == x.2) = false := beq_eq_false_iff_ne.2 (fun e => by have := hno ht; omega)
            clear hno ht
            go_wp2_with fail
            go_quiet (fail)
            go_wp2_with fail
            go_roundw
            case rel => (try rw [hwj]); exact ⟨j + 1, by simp, HJL.out, HG9.out.trans (g_drewN _ _), HNX.out⟩
            case measure => (try rw [hwj]); simp only [RowKit.intOf]; exact ms2 HJL.out
          · have m1 : (yt == x.1) = false := beq_eq_false_iff_ne.2 ht
            clear hno ht
            go_wp2_with fail
            go_quiet (fail)
            go_wp2_with fail
            go_roundw
            case rel => (try rw [hwj]); exact ⟨j + 1, by simp, HJL.out, HG9.out.trans (g_drewN _ _), HNX.out⟩
            case measure => (try rw [hwj]); simp only [RowKit.intOf]; exact ms2 HJL.out
      · have hjI : ¬ ((j : Int) < l.length) := fun h => hjl (Int.ofNat_lt.1 h)
        have hjd : decide ((j : Int) < l.length) = false := decide_eq_false hjI
        have hiq : i < q := by
          rcases Nat.lt_or_ge i q with h1 | h1
          · exact h1
          · have e1 : i = q := Nat.le_antisymm HI.out h1
            have := hjr e1
            have hpe : pq = p := by
              have := HPQ.out
              rw [← e1, HP.out] at this
              exact (Option.some.inj this).symm
            have h3 := HAR.out
            rw [hpe, ← HL.out] at h3
            have := (List.getElem?_eq_some_iff.1 h3).1
            exact absurd (Nat.lt_of_le_of_lt (hjr e1) this) hjl
        have HRI : Hid (∃ i' : Nat, I ((i : Int) + 1) = I i' ∧ i' ≤ q ∧ G w0 wr) := ⟨i + 1, by simp, hiq, HG.out.trans (HG8.out.trans hg9)⟩
        clear hjr hj hg9 hjl hiq
        go_wp2_with fail
        go_roundw
        case rel => (try rw [hwi]); exact HRI.out
        case measure => (try rw [hwi]); simp only [RowKit.intOf]; exact ms2 HIK.out
end Go.Proofs.YtcbjcienjolceaaDoor
