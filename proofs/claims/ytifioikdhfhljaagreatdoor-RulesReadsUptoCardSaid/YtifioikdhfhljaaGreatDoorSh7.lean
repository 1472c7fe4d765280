/- Graphs: fans. -/
import Derived.Test.YtifioikdhfhljaaGreatDoorSh6
namespace Go.Proofs.YtifioikdhfhljaaGreatDoor
open Go.RowKit Go.Maps

set_option maxRecDepth 100000 in
set_option maxHeartbeats 4000000 in
theorem fansOf_any (es : List Ed) (c : Int) (idv : Value) (m lo : Nat) (g : Int → Option Value) (W : World) (hi : Sw eI 2 W idv (es.map (·.id))) (hm : TbM lo W m es g) (hr : ∀ x ∈ es, R64 x.id ∧ R64 x.fr ∧ R64 x.to) (hL : es.length ≤ 2199023255552) :
    Calls Tryz.prog 33 #[.agg #[I c, idv, .map (some m)]] W fun e W' => ∃ b1 b2 g1 g2, e = .returned (.tuple #[.map (some b1), .map (some b2)]) ∧ FanG W.heap.size W' b1 b2 g1 g2 (fanF (fun y => y.fr) es) (fanF (fun y => y.to) es) ∧ G W W' := by
  have hmm := @run_makeMap Tryz.prog
  have hv := hi.form
  rw [List.length_map] at hv
  obtain ⟨da, dc, rfl⟩ := hv
  obtain ⟨dn, hdn⟩ : ∃ dn, dn = es.length := ⟨_, rfl⟩
  rw [← hdn] at hi ⊢
  obtain ⟨w2, hw2⟩ : ∃ w2, w2 = ((W.alloc (.cells #[I c, .slice da dn dc, .map (some m)] 76)).alloc (.map #[] 0)).alloc (.map #[] 0) := ⟨_, rfl⟩
  have hg2 : G W w2 := by rw [hw2]; exact (((G.refl W).alloc _).alloc _).alloc _
  have hB2 : Blk w2 W.heap.size 76 [I c, .slice da dn dc, .map (some m)] := by rw [hw2]; exact (Blk.new W [I c, .slice da dn dc, .map (some m)] 76).G (((G.refl _).alloc _).alloc _)
  obtain ⟨b1, hb1⟩ : ∃ b1, b1 = W.heap.size + 1 := ⟨_, rfl⟩
  obtain ⟨b2, hb2⟩ : ∃ b2, b2 = W.heap.size + 1 + 1 := ⟨_, rfl⟩
  have hF2 : FanG W.heap.size w2 b1 b2 (fun _ => none) (fun _ => none) (fun _ => []) (fun _ => []) := by
    have s1 := FanS.nil W.heap.size (W.alloc (.cells #[I c, .slice da dn dc, .map (some m)] 76)) (by simp)
    have s2 := FanS.nil W.heap.size ((W.alloc (.cells #[I c, .slice da dn dc, .map (some m)] 76)).alloc (.map #[] 0)) (by simp; omega)
    rw [World.size_alloc] at s1
    rw [World.size_alloc, World.size_alloc] at s2
    rw [hw2, hb1, hb2]
    exact ⟨s1.keepLo fun k _ hk => ((G.refl _).alloc _).block k hk, s2, by omega, fun a a' k e => by simp [Value.ownBlock] at e⟩
  have HI := hide hi; have HM := hide hm; have HR := hide hr; have HL := hide hL; have HG2 := hide hg2; have HB2 := hide hB2; have HF2 := hide hF2
  have HEW : Hid (((W.alloc (.cells #[I c, .slice da dn dc, .map (some m)] 76)).alloc (.map #[] 0)).alloc (.map #[] 0) = w2) := hw2.symm
  have HE1 : Hid (W.heap.size + 1 = b1) := hb1.symm
  have HE2 : Hid (W.heap.size + 1 + 1 = b2) := hb2.symm
  have HLL : Hid ((es.map fun y => y.fr).length < maxLen ∧ (es.map fun y => y.to).length < maxLen) := by
    have hmx : (4000000000001 : Nat) ≤ maxLen := of_decide_eq_true (by kernel_rfl)
    refine ⟨?_, ?_⟩ <;> (rw [List.length_map]; omega)
  have HDN := hide hdn
  have hc2 := hB2.cell
  have hc2a := hc2
  rw [← HEW.out] at hc2a
  clear hi hm hr hL hg2 hB2 hF2 hw2 hb1 hb2 hdn
  go_enter Tryz.func33, Tryz.ntmps33
  go_wp2_with fail
  rw [HEW.out]
  try rw [HE2.out]
  try rw [HE1.out]
  clear hmm hc2a
  go_loopw [12, 5, 6] (fun iv _ _ wr => ∃ (i : Nat) (g1 g2 : Int → Option Value), iv = I i ∧ i ≤ es.length ∧ FanG W.heap.size wr b1 b2 g1 g2 (fanF (fun y => y.fr) (es.take i)) (fanF (fun y => y.to) (es.take i)) ∧ G W wr ∧ Blk wr W.heap.size 76 [I c, .slice da dn dc, .map (some m)]) (fun iv _ _ _ => es.length - (RowKit.intOf iv).toNat)
  case atStart => exact ⟨0, _, _, rfl, Nat.zero_le _, HF2.out, HG2.out, HB2.out⟩
  case round =>
    obtain ⟨i, g1, g2, rfl, hik, hfan, hgW, htb⟩ := hrel
    have hdn := HDN.out
    by_cases hil : i < es.length
    · obtain ⟨x, hx⟩ : ∃ x, es[i]? = some x := ⟨_, List.getElem?_eq_getElem hil⟩
      have HIL := hide hil; have HX := hide hx; have HFAN := hide hfan
      have hxm := List.mem_of_getElem? hx
      have hxi : (es.map (·.id))[i]? = some x.id := by rw [List.getElem?_map, hx]; rfl
      obtain ⟨gI, oI, cI, qI⟩ := HI.out.toRow.addr (by rw [List.length_map]; omega)
      injection qI with q1 q2 q3
      subst q1
      have x1 : wr.cell? ⟨gI, oI + i, none⟩ = some (I x.id) := by
        have := ((HI.out.G hgW).toRow).one hxi 0 (u := I x.id) rfl
        simpa using this
      obtain ⟨u, hu, vv, rfl, hsv, hlv⟩ := (HM.out.G hgW).th x hxm
      obtain ⟨pa, pc, rfl⟩ := hsv.form
      obtain ⟨pn, hpn⟩ : ∃ pn, pn = x.ps.length := ⟨_, rfl⟩
      rw [← hpn] at hu
      have HR64 : Hid (R64 x.fr ∧ R64 x.to) := (HR.out x hxm).2
      have hlk := (HM.out.G hgW).mp.look kyI Tryz.underlying74 (Tryz.zeroValue83 _) (kyI_ok.2 (HR.out x hxm).1)
      rw [hu, Option.getD_some] at hlk
      have i1 : (i : Int) < dn := by omega
      have HW : Hid (wrap64 ((i : Int) + 1) = (i : Int) + 1) := by show _ = _; have := HL.out; unfold wrap64; omega
      obtain ⟨wb, hwb⟩ : ∃ wb, wb = wr.alloc (.cells #[.string x.ty, I x.fr, I x.to, .slice pa pn pc] 83) := ⟨_, rfl⟩
      obtain ⟨B6, hB6⟩ : ∃ B6, B6 = wr.heap.size := ⟨_, rfl⟩
      have HEB : Hid (wr.alloc (.cells #[.string x.ty, I x.fr, I x.to, .slice pa pn pc] 83) = wb) := hwb.symm
      have HE6 : Hid (wr.heap.size = B6) := hB6.symm
      have hga : G wr wb := by rw [hwb]; exact (G.refl wr).alloc _
      have HBX : Hid (Blk wb B6 83 [.string x.ty, I x.fr, I x.to, .slice pa pn pc]) := by show Blk _ _ _ _; rw [hwb, hB6]; exact Blk.new wr [.string x.ty, I x.fr, I x.to, .slice pa pn pc] 83
      have HFAN5 := hide (HFAN.out.G hga)
      have HGB5 := hide (hgW.trans hga)
      have hcb := htb.cell
      have HTB := hide (htb.G hga)
      clear hik hil hfan htb hx hxm hgW hxi q2 q3 hu hsv hlv hpn hwb hB6 hga hdn
      go_wp2_with fail
      rw [HEB.out]
      try rw [HE6.out]
      clear x1 hlk i1 hcb HEB HE6
      obtain ⟨oa5, oc5, a5, c5, w5, hv, hr5, hg5, hm5, hx5, hnext⟩ := ((HFAN5.out.G (G.refl _).drew)).push (HGB5.out.drew) x.fr x.id (by have h1 := fanF_len (fun y => y.fr) (es.take i) x.fr; have h2 := List.length_take_le' i es; have := HL.out; omega)
      have HKEY5 : Hid (∀ a, g1 a ≠ none → a ∈ es.map fun y => y.fr) := fun a ha => by
        have h1 := fanF_mem (HFAN5.out.s1.key a ha)
        obtain ⟨y, hy, e⟩ := List.mem_map.1 h1
        exact List.mem_map.2 ⟨y, List.mem_of_mem_take hy, e⟩
      have HMP5 := hide HFAN5.out.s1.mp
      obtain ⟨on5, hon⟩ : ∃ on, on = ((fanF (fun y => y.fr) (es.take i)) x.fr).length := ⟨_, rfl⟩
      rw [← hon] at hv hr5 hnext
      have HV5 : Hid ((g1 x.fr).getD (.slice none 0 0) = .slice oa5 on5 oc5) := hv
      have HRR5 : Hid ((Builtin.append_ #[73, 73] 73 #[.slice oa5 on5 oc5, .slice (some ⟨wb.heap.size, 0, none⟩) 1 1]).run Tryz.prog (wb.alloc (.cells #[I x.id] 2)).drew = .ok (.slice a5 (on5 + 1) c5) w5) := hr5
      have HM5 := hide hm5
      have HX5 : Hid (Fx [2] [] wb w5) := (Fx.of_G (G.refl _).drew).trans hx5
      have HNX5 := hide hnext
      clear hv hr5 hg5 hm5 hx5 hnext hon
      refine wp_region_noPanic ?_
      refine wp_region_L (S := (fun V => Blk V B6 83 [.string x.ty, I x.fr, I x.to, .slice pa pn pc] ∧ Mp (fun n : Int => I n) 2 V b1 g1)) 10 (by kernel_rfl) (⟨HBX.out.drew, HMP5.out.G (G.refl _).drew⟩) (fun hHeld => ?_)
      refine wpAnyL_take (i := 0) (v := ?_) rfl (by kernel_rfl) (by kernel_rfl) (by kernel_rfl) (by kernel_rfl) (fun _ _ _ h => h) (Or.inl ⟨by rfl, ?_⟩) hHeld ?_
      rotate_left 1
      · (intro w hSw; (try dsimp only at hSw); go_simp; try with_reducible rfl)
      try simp only [Act.put, List.getElem_toArray, List.getElem_cons_zero, List.setIfInBounds_toArray, List.set_cons_zero, List.set_cons_succ]
      refine wpAnyL_take (i := 1) (v := ?_) rfl (by kernel_rfl) (by kernel_rfl) (by kernel_rfl) (by kernel_rfl) (fun _ _ _ h => h) (Or.inl ⟨by rfl, ?_⟩) hHeld ?_
      rotate_left 1
      · (intro w hSw; have q1 := hSw.1.cell; go_simp; try with_reducible rfl)
      try simp only [Act.put, List.getElem_toArray, List.getElem_cons_zero, List.getElem_cons_succ, List.setIfInBounds_toArray, List.set_cons_zero, List.set_cons_succ]
      refine wpAnyL_take (i := 2) (v := ?_) rfl (by kernel_rfl) (by kernel_rfl) (by kernel_rfl) (by kernel_rfl) (fun _ _ _ h => h) (Or.inl ⟨by rfl, ?_⟩) hHeld ?_
      rotate_left 1
      · (intro w hSw; have q1 := hSw.1.cell; go_simp; try with_reducible rfl)
      try simp only [Act.put, List.getElem_toArray, List.getElem_cons_zero, List.getElem_cons_succ, List.setIfInBounds_toArray, List.set_cons_zero, List.set_cons_succ]
      refine wpAnyL_take (i := 3) (v := ?_) rfl (by kernel_rfl) (by kernel_rfl) (by kernel_rfl) (by kernel_rfl) (fun _ _ _ h => h) (Or.inl ⟨by rfl, ?_⟩) hHeld ?_
      rotate_left 1
      · (intro w hSw; (try dsimp only at hSw); go_simp; try with_reducible rfl)
      try simp only [Act.put, List.getElem_toArray, List.getElem_cons_zero, List.getElem_cons_succ, List.setIfInBounds_toArray, List.set_cons_zero, List.set_cons_succ]
      refine wpAnyL_take (i := 4) (v := ?_) rfl (by kernel_rfl) (by kernel_rfl) (by kernel_rfl) (by kernel_rfl) (fun _ _ _ h => h) (Or.inl ⟨by rfl, ?_⟩) hHeld ?_
      rotate_left 1
      · (intro w hSw; have q1 := hSw.1.cell; go_simp; try with_reducible rfl)
      try simp only [Act.put, List.getElem_toArray, List.getElem_cons_zero, List.getElem_cons_succ, List.setIfInBounds_toArray, List.set_cons_zero, List.set_cons_succ]
      refine wpAnyL_take (i := 5) (v := ?_) rfl (by kernel_rfl) (by kernel_rfl) (by kernel_rfl) (by kernel_rfl) (fun _ _ _ h => h) (Or.inl ⟨by rfl, ?_⟩) hHeld ?_
      rotate_left 1
      · (intro w hSw; have q1 := hSw.1.cell; go_simp; try with_reducible rfl)
      try simp only [Act.put, List.getElem_toArray, List.getElem_cons_zero, List.getElem_cons_succ, List.setIfInBounds_toArray, List.set_cons_zero, List.set_cons_succ]
      refine wpAnyL_take (i := 6) (v := ?_) rfl (by kernel_rfl) (by kernel_rfl) (by kernel_rfl) (by kernel_rfl) (fun _ _ _ h => h) (Or.inl ⟨by rfl, ?_⟩) hHeld ?_
      rotate_left 1
      · (intro w hSw; have q1 := hSw.2.look kyI Tryz.underlying79 (Tryz.zeroValue73 _) (kyI_ok.2 HR64.out.1); rw [HV5.out] at q1; go_simp; try with_reducible rfl)
      try simp only [Act.put, List.getElem_toArray, List.getElem_cons_zero, List.getElem_cons_succ, List.setIfInBounds_toArray, List.set_cons_zero, List.set_cons_succ]
      refine wpAnyL_take (i := 7) (v := ?_) rfl (by kernel_rfl) (by kernel_rfl) (by kernel_rfl) (by kernel_rfl) (fun _ _ _ h => h) (Or.inl ⟨by rfl, ?_⟩) hHeld ?_
      rotate_left 1
      · (intro w hSw; (try dsimp only at hSw); go_simp; try with_reducible rfl)
      try simp only [Act.put, List.getElem_toArray, List.getElem_cons_zero, List.getElem_cons_succ, List.setIfInBounds_toArray, List.set_cons_zero, List.set_cons_succ]
      refine wpAnyL_one (i := 8) (by kernel_rfl) rfl (by kernel_rfl) (fun K hK => ?_)
      clear hHeld
      go_simp
      have HX3 : Hid (Fx [2] [] wb (wb.alloc (.cells #[I x.id] 2)).drew) := Fx.of_G (((G.refl wb).alloc _).drew)
      generalize (wb.alloc (.cells #[I x.id] 2)).drew = w3 at HRR5 HX3 ⊢
      refine hK.out _ _ (⟨HBX.out.fx HX3.out (by decide), HMP5.out.fx HX3.out (by simp)⟩) (fun hHeld => ?_)
      clear hK K
      try simp only [Act.put, List.getElem_toArray, List.getElem_cons_zero, List.getElem_cons_succ, List.setIfInBounds_toArray, List.set_cons_zero, List.set_cons_succ]
      refine wpAnyL_one (i := 9) (by kernel_rfl) rfl (by kernel_rfl) (fun K hK => ?_)
      clear hHeld
      refine (if_pos rfl).mpr ?_
      refine wp_of_exec (exec_append _ _ 73 rfl (.slice oa5 on5 oc5) (.slice (some ⟨wb.heap.size, 0, none⟩) 1 1) rfl rfl 73 rfl HRR5.out) ?_
      refine hK.out _ _ (⟨HBX.out.fx HX5.out (by decide), HM5.out⟩) (fun hHeld => ?_)
      clear hK K
      try simp only [Act.put, List.getElem_toArray, List.getElem_cons_zero, List.getElem_cons_succ, List.setIfInBounds_toArray, List.set_cons_zero, List.set_cons_succ]
      refine wpAnyL_last (by kernel_rfl) rfl (by kernel_rfl) (fun K hK => ?_)
      clear hHeld
      refine wp_put _ _ _ 79 rfl HM5.out rfl kyI (es.map fun y => y.fr) (fun a _ ha => HKEY5.out a ha) HLL.out.1 Tryz.underlying79 x.fr rfl (kyI_ok.2 HR64.out.1) _ rfl (fun v5 hm9 hch9 hsz9 => ?_)
      refine hK.out _ _ ?_
      clear hK K
      refine NoPanic.normal ?_
      obtain ⟨hf9, hg9⟩ := HNX5.out v5 hm9 hch9
      have HBX : Hid (Blk v5 B6 83 [.string x.ty, I x.fr, I x.to, .slice pa pn pc]) := (HBX.out.fx HX5.out (by decide)).chg hch9 (fun e => (HM5.out).ne (HBX.out.fx HX5.out (by decide)) e.symm)
      have HTB := hide ((HTB.out.fx HX5.out (by decide)).chg hch9 (fun e => (HM5.out).ne (HTB.out.fx HX5.out (by decide)) e.symm))
      have HGB6 := hide hg9
      have HFAN6 : Hid (FanG W.heap.size v5 b1 b2 (upd g1 x.fr (some (.slice a5 (on5 + 1) c5))) g2 (fanF (fun y => y.fr) (es.take (i + 1))) (fanF (fun y => y.to) (es.take i))) := by
        rw [List.take_add_one, HX.out, show (some x).toList = [x] from rfl, fanF_snoc]
        exact hf9
      clear hf9 hg9 HNX5 hm9 hch9 hsz9 HM5 HX5 HRR5 HV5 HMP5 HKEY5
      obtain ⟨oa6, oc6, a6, c6, w6, hv, hr5, hg5, hm5, hx5, hnext⟩ := ((HFAN6.out.G (G.refl _).drew).swap).push (HGB6.out.drew) x.to x.id (by have h1 := fanF_len (fun y => y.to) (es.take i) x.to; have h2 := List.length_take_le' i es; have := HL.out; omega)
      have HKEY6 : Hid (∀ a, g2 a ≠ none → a ∈ es.map fun y => y.to) := fun a ha => by
        have h1 := fanF_mem (HFAN6.out.s2.key a ha)
        obtain ⟨y, hy, e⟩ := List.mem_map.1 h1
        exact List.mem_map.2 ⟨y, List.mem_of_mem_take hy, e⟩
      have HMP6 := hide HFAN6.out.s2.mp
      obtain ⟨on6, hon⟩ : ∃ on, on = ((fanF (fun y => y.to) (es.take i)) x.to).length := ⟨_, rfl⟩
      rw [← hon] at hv hr5 hnext
      have HV6 : Hid ((g2 x.to).getD (.slice none 0 0) = .slice oa6 on6 oc6) := hv
      have HRR6 : Hid ((Builtin.append_ #[73, 73] 73 #[.slice oa6 on6 oc6, .slice (some ⟨v5.heap.size, 0, none⟩) 1 1]).run Tryz.prog (v5.alloc (.cells #[I x.id] 2)).drew = .ok (.slice a6 (on6 + 1) c6) w6) := hr5
      have HM6 := hide hm5
      have HX6 : Hid (Fx [2] [] v5 w6) := (Fx.of_G (G.refl _).drew).trans hx5
      have HNX6 := hide hnext
      clear hv hr5 hg5 hm5 hx5 hnext hon
      go_wp2_with fail
      refine wp_region_noPanic ?_
      refine wp_region_L (S := (fun V => Blk V B6 83 [.string x.ty, I x.fr, I x.to, .slice pa pn pc] ∧ Mp (fun n : Int => I n) 2 V b2 g2)) 10 (by kernel_rfl) (⟨HBX.out.drew, HMP6.out.G (G.refl _).drew⟩) (fun hHeld => ?_)
      refine wpAnyL_take (i := 0) (v := ?_) rfl (by kernel_rfl) (by kernel_rfl) (by kernel_rfl) (by kernel_rfl) (fun _ _ _ h => h) (Or.inl ⟨by rfl, ?_⟩) hHeld ?_
      rotate_left 1
      · (intro w hSw; (try dsimp only at hSw); go_simp; try with_reducible rfl)
      try simp only [Act.put, List.getElem_toArray, List.getElem_cons_zero, List.setIfInBounds_toArray]
      refine wpAnyL_take (i := 1) (v := ?_) rfl (by kernel_rfl) (by kernel_rfl) (by kernel_rfl) (by kernel_rfl) (fun _ _ _ h => h) (Or.inl ⟨by rfl, ?_⟩) hHeld ?_
      rotate_left 1
      · (intro w hSw; have q1 := hSw.1.cell; go_simp; try with_reducible rfl)
      try simp only [Act.put, List.getElem_toArray, List.getElem_cons_zero, List.getElem_cons_succ, List.setIfInBounds_toArray, List.set_cons_zero, List.set_cons_succ]
      refine wpAnyL_take (i := 2) (v := ?_) rfl (by kernel_rfl) (by kernel_rfl) (by kernel_rfl) (by kernel_rfl) (fun _ _ _ h => h) (Or.inl ⟨by rfl, ?_⟩) hHeld ?_
      rotate_left 1
      · (intro w hSw; have q1 := hSw.1.cell; go_simp; try with_reducible rfl)
      try simp only [Act.put, List.getElem_toArray, List.getElem_cons_zero, List.getElem_cons_succ, List.setIfInBounds_toArray, List.set_cons_zero, List.set_cons_succ]
      refine wpAnyL_take (i := 3) (v := ?_) rfl (by kernel_rfl) (by kernel_rfl) (by kernel_rfl) (by kernel_rfl) (fun _ _ _ h => h) (Or.inl ⟨by rfl, ?_⟩) hHeld ?_
      rotate_left 1
      · (intro w hSw; (try dsimp only at hSw); go_simp; try with_reducible rfl)
      try simp only [Act.put, List.getElem_toArray, List.getElem_cons_zero, List.getElem_cons_succ, List.setIfInBounds_toArray, List.set_cons_zero, List.set_cons_succ]
      refine wpAnyL_take (i := 4) (v := ?_) rfl (by kernel_rfl) (by kernel_rfl) (by kernel_rfl) (by kernel_rfl) (fun _ _ _ h => h) (Or.inl ⟨by rfl, ?_⟩) hHeld ?_
      rotate_left 1
      · (intro w hSw; have q1 := hSw.1.cell; go_simp; try with_reducible rfl)
      try simp only [Act.put, List.getElem_toArray, List.getElem_cons_zero, List.getElem_cons_succ, List.setIfInBounds_toArray, List.set_cons_zero, List.set_cons_succ]
      refine wpAnyL_take (i := 5) (v := ?_) rfl (by kernel_rfl) (by kernel_rfl) (by kernel_rfl) (by kernel_rfl) (fun _ _ _ h => h) (Or.inl ⟨by rfl, ?_⟩) hHeld ?_
      rotate_left 1
      · (intro w hSw; have q1 := hSw.1.cell; go_simp; try with_reducible rfl)
      try simp only [Act.put, List.getElem_toArray, List.getElem_cons_zero, List.getElem_cons_succ, List.setIfInBounds_toArray, List.set_cons_zero, List.set_cons_succ]
      refine wpAnyL_take (i := 6) (v := ?_) rfl (by kernel_rfl) (by kernel_rfl) (by kernel_rfl) (by kernel_rfl) (fun _ _ _ h => h) (Or.inl ⟨by rfl, ?_⟩) hHeld ?_
      rotate_left 1
      · (intro w hSw; have q1 := hSw.2.look kyI Tryz.underlying79 (Tryz.zeroValue73 _) (kyI_ok.2 HR64.out.2); rw [HV6.out] at q1; go_simp; try with_reducible rfl)
      try simp only [Act.put, List.getElem_toArray, List.getElem_cons_zero, List.getElem_cons_succ, List.setIfInBounds_toArray, List.set_cons_zero, List.set_cons_succ]
      refine wpAnyL_take (i := 7) (v := ?_) rfl (by kernel_rfl) (by kernel_rfl) (by kernel_rfl) (by kernel_rfl) (fun _ _ _ h => h) (Or.inl ⟨by rfl, ?_⟩) hHeld ?_
      rotate_left 1
      · (intro w hSw; (try dsimp only at hSw); go_simp; try with_reducible rfl)
      try simp only [Act.put, List.getElem_toArray, List.getElem_cons_zero, List.getElem_cons_succ, List.setIfInBounds_toArray, List.set_cons_zero, List.set_cons_succ]
      refine wpAnyL_one (i := 8) (by kernel_rfl) rfl (by kernel_rfl) (fun K hK => ?_)
      clear hHeld
      go_simp
      have HX3 : Hid (Fx [2] [] v5 (v5.alloc (.cells #[I x.id] 2)).drew) := Fx.of_G (((G.refl v5).alloc _).drew)
      generalize (v5.alloc (.cells #[I x.id] 2)).drew = w3 at HRR6 HX3 ⊢
      refine hK.out _ _ (⟨HBX.out.fx HX3.out (by decide), HMP6.out.fx HX3.out (by simp)⟩) (fun hHeld => ?_)
      clear hK K
      try simp only [Act.put, List.getElem_toArray, List.getElem_cons_zero, List.getElem_cons_succ, List.setIfInBounds_toArray, List.set_cons_zero, List.set_cons_succ]
      refine wpAnyL_one (i := 9) (by kernel_rfl) rfl (by kernel_rfl) (fun K hK => ?_)
      clear hHeld
      refine (if_pos rfl).mpr ?_
      refine wp_of_exec (exec_append _ _ 73 rfl (.slice oa6 on6 oc6) (.slice (some ⟨v5.heap.size, 0, none⟩) 1 1) rfl rfl 73 rfl HRR6.out) ?_
      refine hK.out _ _ (⟨HBX.out.fx HX6.out (by decide), HM6.out⟩) (fun hHeld => ?_)
      clear hK K
      try simp only [Act.put, List.getElem_toArray, List.getElem_cons_zero, List.getElem_cons_succ, List.setIfInBounds_toArray, List.set_cons_zero, List.set_cons_succ]
      refine wpAnyL_last (by kernel_rfl) rfl (by kernel_rfl) (fun K hK => ?_)
      clear hHeld
      refine wp_put _ _ _ 79 rfl HM6.out rfl kyI (es.map fun y => y.to) (fun a _ ha => HKEY6.out a ha) HLL.out.2 Tryz.underlying79 x.to rfl (kyI_ok.2 HR64.out.2) _ rfl (fun v6 hm9 hch9 hsz9 => ?_)
      refine hK.out _ _ ?_
      clear hK K
      refine NoPanic.normal ?_
      obtain ⟨hf9, hg9⟩ := HNX6.out v6 hm9 hch9
      have HBX : Hid (Blk v6 B6 83 [.string x.ty, I x.fr, I x.to, .slice pa pn pc]) := (HBX.out.fx HX6.out (by decide)).chg hch9 (fun e => (HM6.out).ne (HBX.out.fx HX6.out (by decide)) e.symm)
      have HTB := hide ((HTB.out.fx HX6.out (by decide)).chg hch9 (fun e => (HM6.out).ne (HTB.out.fx HX6.out (by decide)) e.symm))
      have HGB7 := hide hg9
      have HFAN7 : Hid (FanG W.heap.size v6 b1 b2 (upd g1 x.fr (some (.slice a5 (on5 + 1) c5))) (upd g2 x.to (some (.slice a6 (on6 + 1) c6))) (fanF (fun y => y.fr) (es.take (i + 1))) (fanF (fun y => y.to) (es.take (i + 1)))) := by
        have e : fanF (fun y => y.to) (es.take (i + 1)) = upd (fanF (fun y => y.to) (es.take i)) x.to (fanF (fun y => y.to) (es.take i) x.to ++ [x.id]) := by
          rw [List.take_add_one, HX.out, show (some x).toList = [x] from rfl, fanF_snoc]
        rw [e]
        exact hf9.swap
      clear hf9 hg9 HNX6 hm9 hch9 hsz9 HM6 HX6 HRR6 HV6 HMP6 HKEY6
      go_wp2_with fail
      exact ⟨⟨i + 1, _, _, by rw [HW.out]; exact srl i, HIL.out, HFAN7.out, HGB7.out, HTB.out⟩, by rw [HW.out]; exact sms HIL.out⟩
    · have i1 : ¬ (i : Int) < dn := by omega
      have HF : Hid (FanG W.heap.size wr b1 b2 g1 g2 (fanF (fun y => y.fr) es) (fanF (fun y => y.to) es) ∧ G W wr) := by
        rw [List.take_of_length_le (by omega)] at hfan
        exact ⟨hfan, hgW⟩
      clear hik hil hfan hgW htb hdn
      go_wp2_with fail
      go_ret2
      exact ⟨b1, b2, rfl, ⟨g1, g2, HF.out.1⟩, HF.out.2⟩
end Go.Proofs.YtifioikdhfhljaaGreatDoor
