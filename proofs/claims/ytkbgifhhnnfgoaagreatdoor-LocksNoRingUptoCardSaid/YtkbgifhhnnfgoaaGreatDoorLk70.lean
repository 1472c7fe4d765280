/- Locks: the book and the table, and what is older than both. -/
import Derived.Test.YtkbgifhhnnfgoaaGreatDoorLk64
import Derived.PlainAid
namespace Go.Proofs.YtkbgifhhnnfgoaaGreatDoor
section
section
section
section
section
open Go.RowKit

theorem fin_list (Q : Int → Prop) : ∀ L : List Int, ∃ l : List Int, l.Nodup ∧ (∀ a, a ∈ l ↔ a ∈ L ∧ Q a) ∧ l.length ≤ L.length
  | [] => ⟨[], List.nodup_nil, by simp, Nat.le_refl _⟩
  | x :: L => by
    obtain ⟨l, h1, h2, h3⟩ := fin_list Q L
    by_cases hx : Q x ∧ x ∉ l
    · refine ⟨x :: l, List.nodup_cons.2 ⟨hx.2, h1⟩, fun a => ?_, Nat.succ_le_succ h3⟩
      rw [List.mem_cons, List.mem_cons, h2 a]
      constructor
      · rintro (rfl | ⟨k1, k2⟩)
        · exact ⟨.inl rfl, hx.1⟩
        · exact ⟨.inr k1, k2⟩
      · rintro ⟨rfl | k1, k2⟩
        · exact .inl rfl
        · exact .inr ⟨k1, k2⟩
    · refine ⟨l, h1, fun a => ?_, Nat.le_succ_of_le h3⟩
      rw [List.mem_cons, h2 a]
      constructor
      · rintro ⟨k1, k2⟩; exact ⟨.inr k1, k2⟩
      · rintro ⟨rfl | k1, k2⟩
        · refine (h2 a).1 ?_
          exact Decidable.byContradiction fun hn => hx ⟨k2, hn⟩
        · exact ⟨k1, k2⟩
theorem wounders_t {w : World} {t : Nat} {s : Gs} {m : Ms} {L : List Int} {LR : List Rs} {x : Int} {pm : Pm} (h : GT w t s m L LR) (hL : L.length < 2000000000000) (hp : m.lv x = some pm) : ∃ ids : List Int, ids.Pairwise (· < ·) ∧ (∀ a, a ∈ ids ↔ pm.wd a = true) ∧ ids.length < 2000000000000 ∧ ∀ W, G w W → Calls Tryz.prog 65 #[ptr t, I x] W fun e w' => ∃ v, e = .returned (.tuple #[v, I 0]) ∧ w'.ownsRow W.heap.size 3 1 v ids.length (ids.map fun z => I z) ∧ G W w' := by
  have hi := h.iv.lv x pm hp
  obtain ⟨l, l1, l2, l3⟩ := fin_list (fun a => pm.wd a = true) L
  obtain ⟨p, hq, rfl⟩ := h.ab.of hp
  have hm : ∀ a, a ∈ srt l ↔ p.wd a = true := fun a => by
    rw [(srt_perm l).mem_iff, l2 a]
    exact ⟨fun hh => hh.2, fun hh => ⟨(hi.wd a hh).2, hh⟩⟩
  have hle : (srt l).length < 2000000000000 := by rw [srt_len]; omega
  refine ⟨srt l, srt_lt l1, hm, hle, fun W gW => ?_⟩
  exact wounders_any t s x p (srt l) W (h.tt.G gW) hi.xr hq (srt_lt l1) (fun a => by rw [hm a]; exact ⟨fun hh => ⟨(hi.wd a hh).1, hh⟩, fun hh => hh.2⟩) (by omega)
/-- A row of whole numbers. -/
theorem int_at {w : World} {lo : Nat} {va : Option Addr} {vn vc : Nat} {ls : List Int} (h : w.ownsRow lo 3 1 (.slice va vn vc) ls.length (ls.map fun z => I z)) {n : Nat} {a : Int} (ha : ls[n]? = some a) : ∃ ga, va = some ⟨ga, 0, none⟩ ∧ w.cell? ⟨ga, n, none⟩ = some (I a) := by
  have hlt := (List.getElem?_eq_some_iff.1 ha).1
  rcases h.2 with ⟨e, e2⟩ | ⟨ga, cap, cur, e, -⟩
  · omega
  · have e3 : va = some ⟨ga, 0, none⟩ := by cases e; rfl
    rw [e] at h
    refine ⟨ga, e3, ?_⟩
    rw [h.cellAt _ (by omega), List.getElem?_map, ha]; rfl
theorem stampL_bk {m : Ms} {live : List (Int × Int)} (h : Bk m live) {x : Int} {p : Pm} (hp : m.lv x = some p) : stampL live x = p.stamp := by
  have hm := (h.mem x p.stamp).2 ⟨p, hp, rfl⟩
  obtain ⟨n, hn⟩ := List.mem_iff_getElem?.1 hm
  refine stampL_at (n := n) (fun b hb e => ?_) hn rfl
  obtain ⟨j, hj⟩ := List.mem_iff_getElem?.1 hb
  rw [List.getElem?_take] at hj
  by_cases hjn : j < n
  · rw [if_pos hjn] at hj
    have hj2 : live[j]? = some (x, b.2) := by rw [hj, ← e]
    have := nodup_at h.nd hj2 hn
    omega
  · rw [if_neg hjn] at hj; cases hj
set_option maxRecDepth 100000 in
set_option maxHeartbeats 2000000 in
theorem wounds_any (b t : Nat) (s : Gs) (m : Ms) (L : List Int) (LR : List Rs) (va vr : Value) (lo : Nat) (live : List (Int × Int)) (w : World) (h : GT w t s m L LR) (hL : L.length < 2000000000000) (hb : Blk w b 31 [ptr t, va, vr]) (hl : Lf w lo va live) (hbk : Bk m live) (lv hv : Value) (lo2 lo3 : Nat) (ls hs : List Int) (hlr : w.ownsRow lo2 3 1 lv ls.length (ls.map fun z => I z)) (hhr : w.ownsRow lo3 3 1 hv hs.length (hs.map fun z => I z)) (hn1 : ls.length < 2000000000000) (hn2 : hs.length < 2000000000000) (first : Int) (H1 : ∀ y ∈ ls, y ∉ hs) (H2 : ∀ y ∈ ls, ∃ p, m.lv y = some p ∧ p.hurt = true ∧ first < p.stamp ∧ ∀ z, p.wd z = true → stampL live z < p.stamp) (H3 : ls.Pairwise (· < ·)) :
    Calls Tryz.prog 42 #[ptr b, lv, hv, I first] w fun e w' => e = .returned (.bool true) ∧ G w w' := by
  obtain ⟨la, lc, rfl⟩ := row_form hlr
  obtain ⟨ha, hc, rfl⟩ := row_form hhr
  have HB := hide hb; have HL := hide hl; have HT := hide h; have HBK := hide hbk; have HLR := hide hlr; have HHR := hide hhr; have HN1 := hide hn1; have HN2 := hide hn2; have HH1 := hide H1; have HH2 := hide H2; have HH3 := hide H3; have HLL := hide hL
  clear hb hl h hbk hlr hhr hn1 hn2 H1 H2 H3 hL
  go_enter Tryz.func42, Tryz.ntmps42
  go_wp2
  go_loopw [9] (fun i wr => ∃ n : Nat, n ≤ ls.length ∧ i = I (n : Int) ∧ G w wr) (fun i _ => ls.length - (RowKit.intOf i).toNat)
  case atStart => exact ⟨0, Nat.zero_le _, rfl, G.refl _⟩
  case round =>
    obtain ⟨n, hn, rfl, hgw⟩ := hrel
    by_cases hlt : n < ls.length
    · obtain ⟨y, hy⟩ : ∃ a, ls[n]? = some a := ⟨_, List.getElem?_eq_getElem hlt⟩
      obtain ⟨p, hp, hph, hfs, hws⟩ := HH2.out y (List.mem_of_getElem? hy)
      have hnI : (n : Int) < (ls.length : Int) := by omega
      have hwn : wrap64 ((n : Int) + 1) = (n : Int) + 1 := by have := HN1.out; unfold wrap64; omega
      have HWN := hide hwn
      obtain ⟨ga, hga, -⟩ := int_at HLR.out hy
      subst hga
      have HK : Hid (∀ V, G w V → V.cell? ⟨ga, n, none⟩ = some (I y)) := fun V gV => by
        obtain ⟨gb, hgb, k⟩ := int_at (own_G HLR.out gV) hy
        have e : ga = gb := by simpa using hgb
        rw [e]; exact k
      have HNY : Hid (y ∉ hs) := HH1.out y (List.mem_of_getElem? hy)
      have HY := hide hy; have HP := hide hp; have HPH := hide hph; have HFS := hide hfs; have HWS := hide hws; have HLT := hide hlt; have HGW := hide hgw
      clear hy hp hph hfs hws hlt hgw hn hwn
      go_wp2
      go_loopw [10, 11] (fun tv iv wi => ∃ j : Nat, j ≤ hs.length ∧ tv = .bool false ∧ iv = I (j : Int) ∧ G w wi) (fun _ iv _ => hs.length - (RowKit.intOf iv).toNat)
      case atStart => exact ⟨0, Nat.zero_le _, rfl, rfl, HGW.out⟩
      case round =>
        obtain ⟨j, hj, rfl, rfl, hgi⟩ := hrel
        by_cases hjl : j < hs.length
        · obtain ⟨z, hz⟩ : ∃ a, hs[j]? = some a := ⟨_, List.getElem?_eq_getElem hjl⟩
          have hzy : ¬ z = y := fun e => HNY.out (by rw [← e]; exact List.mem_of_getElem? hz)
          have hjI : (j : Int) < (hs.length : Int) := by omega
          have hwj : wrap64 ((j : Int) + 1) = (j : Int) + 1 := by have := HN2.out; unfold wrap64; omega
          have HWJ := hide hwj
          obtain ⟨gh, hgh, kh⟩ := int_at (own_G HHR.out hgi) hz
          subst hgh
          have ky := HK.out _ hgi
          have d3 : decide (z = y) = false := by simp [hzy]
          have d4 : (z == y) = false := by simp [hzy]
          have HJL := hide hjl; have HGI := hide hgi
          clear hz hzy hjl hgi hj hwj
          go_wp2
          go_quiet (fail)
          generalize hV : World.drewN wr _ = V
          have HGV : Hid (G wr V) := by rw [← hV]; exact (G.refl wr).drewN _
          clear hV kh ky
          go_wp2
          exact ⟨⟨j + 1, HJL.out, by first | rfl | trivial, by rw [HWJ.out]; exact rl1 j, HGI.out.trans HGV.out⟩, by rw [HWJ.out]; exact ms_end HJL.out⟩
        · have hne : j = hs.length := by omega
          subst hne
          have hjI : ¬ ((hs.length : Int) < (hs.length : Int)) := by omega
          have HGI := hide hgi
          have hbc := (HB.out.G HGI.out).cell
          have ky := HK.out _ HGI.out
          have KW : Hid (∀ k, Calls Tryz.prog 15 #[ptr t, I y] (wr.drewN k) fun e w' => e = .returned (.tuple #[.bool true, I 0]) ∧ w' = wr.drewN k) := fun k => by
            have := wounded_t (HT.out.G (HGI.out.drewN k)) HP.out
            rw [HPH.out] at this
            exact this
          clear hj hjl hgi
          go_wp2
          go_quiet (first | (go_at_call 15; with_reducible refine Calls.quiet_of_same (KW.out _)))
          generalize hV : World.drewN wr _ = V
          have HGV : Hid (G w V) := by rw [← hV]; exact HGI.out.drewN _
          clear hV hbc ky KW HGI
          go_wp2
          have hbV := (HB.out.G HGV.out).cell
          have kV := HK.out V HGV.out
          obtain ⟨ids, i1, i2, i3, i4⟩ := wounders_t (HT.out.G HGV.out) HLL.out HP.out
          have HCC : Hid (∀ U, G V U → (∀ o, U.cell? ⟨b, o, none⟩ = ([ptr t, va, vr] : List Value)[o]?) ∧ U.cell? ⟨ga, n, none⟩ = some (I y)) := fun U gU => ⟨(HB.out.G (HGV.out.trans gU)).cell, HK.out U (HGV.out.trans gU)⟩
          have KWS := hide i4; have HI2 := hide i2; have HI3 := hide i3
          clear i1 i2 i3 i4 hbV kV
          refine wp_region_noPanic ?_
          refine wp_region_held_drew (S := (fun U => G V U)) (by kernel_rfl) ((G.refl V).drew) (fun hHeld => ?_)
          refine wpAnyH_take (i := 0) (v := ?_) rfl (by kernel_rfl) (by kernel_rfl) (by kernel_rfl) (fun _ _ _ h => h) (Or.inl ⟨by rfl, ?_⟩) hHeld ?_
          rotate_left 1
          · (intro w hSw; obtain ⟨q1, q2⟩ := HCC.out _ hSw; go_simp; try with_reducible rfl)
          try simp only [Act.put, List.getElem_toArray, List.getElem_cons_zero, List.setIfInBounds_toArray, List.set_cons_zero, List.set_cons_succ]
          refine wpAnyH_take (i := 1) (v := ?_) rfl (by kernel_rfl) (by kernel_rfl) (by kernel_rfl) (fun _ _ _ h => h) (Or.inl ⟨by rfl, ?_⟩) hHeld ?_
          rotate_left 1
          · (intro w hSw; obtain ⟨q1, q2⟩ := HCC.out _ hSw; go_simp; try with_reducible rfl)
          try simp only [Act.put, List.getElem_toArray, List.getElem_cons_zero, List.getElem_cons_succ, List.setIfInBounds_toArray, List.set_cons_zero, List.set_cons_succ]
          refine wpAnyH_take (i := 2) (v := ?_) rfl (by kernel_rfl) (by kernel_rfl) (by kernel_rfl) (fun _ _ _ h => h) (Or.inl ⟨by rfl, ?_⟩) hHeld ?_
          rotate_left 1
          · (intro w hSw; obtain ⟨q1, q2⟩ := HCC.out _ hSw; go_simp; try with_reducible rfl)
          try simp only [Act.put, List.getElem_toArray, List.getElem_cons_zero, List.getElem_cons_succ, List.setIfInBounds_toArray, List.set_cons_zero, List.set_cons_succ]
          refine wpAnyH_take (i := 3) (v := ?_) rfl (by kernel_rfl) (by kernel_rfl) (by kernel_rfl) (fun _ _ _ h => h) (Or.inl ⟨by rfl, ?_⟩) hHeld ?_
          rotate_left 1
          · (intro w hSw; obtain ⟨q1, q2⟩ := HCC.out _ hSw; go_simp; try with_reducible rfl)
          try simp only [Act.put, List.getElem_toArray, List.getElem_cons_zero, List.getElem_cons_succ, List.setIfInBounds_toArray, List.set_cons_zero, List.set_cons_succ]
          refine wpAnyH_take (i := 4) (v := ?_) rfl (by kernel_rfl) (by kernel_rfl) (by kernel_rfl) (fun _ _ _ h => h) (Or.inl ⟨by rfl, ?_⟩) hHeld ?_
          rotate_left 1
          · (intro w hSw; obtain ⟨q1, q2⟩ := HCC.out _ hSw; go_simp; try with_reducible rfl)
          try simp only [Act.put, List.getElem_toArray, List.getElem_cons_zero, List.getElem_cons_succ, List.setIfInBounds_toArray, List.set_cons_zero, List.set_cons_succ]
          refine wpAnyH_take (i := 5) (v := ?_) rfl (by kernel_rfl) (by kernel_rfl) (by kernel_rfl) (fun _ _ _ h => h) (Or.inl ⟨by rfl, ?_⟩) hHeld ?_
          rotate_left 1
          · (intro w hSw; obtain ⟨q1, q2⟩ := HCC.out _ hSw; go_simp; try with_reducible rfl)
          try simp only [Act.put, List.getElem_toArray, List.getElem_cons_zero, List.getElem_cons_succ, List.setIfInBounds_toArray, List.set_cons_zero, List.set_cons_succ]
          refine wpAnyH_take (i := 6) (v := ?_) rfl (by kernel_rfl) (by kernel_rfl) (by kernel_rfl) (fun _ _ _ h => h) (Or.inl ⟨by rfl, ?_⟩) hHeld ?_
          rotate_left 1
          · (intro w hSw; obtain ⟨q1, q2⟩ := HCC.out _ hSw; go_simp; try with_reducible rfl)
          try simp only [Act.put, List.getElem_toArray, List.getElem_cons_zero, List.getElem_cons_succ, List.setIfInBounds_toArray, List.set_cons_zero, List.set_cons_succ]
          refine wpAnyH_take (i := 7) (v := ?_) rfl (by kernel_rfl) (by kernel_rfl) (by kernel_rfl) (fun _ _ _ h => h) (Or.inl ⟨by rfl, ?_⟩) hHeld ?_
          rotate_left 1
          · (intro w hSw; obtain ⟨q1, q2⟩ := HCC.out _ hSw; go_simp; try with_reducible rfl)
          try simp only [Act.put, List.getElem_toArray, List.getElem_cons_zero, List.getElem_cons_succ, List.setIfInBounds_toArray, List.set_cons_zero, List.set_cons_succ]
          refine wpAnyH_ready (rs := [8]) (by kernel_rfl) (by simp) (AllReadyH.cons rfl (fun K hK => ?_) AllReadyH.nil)
          have hgc := hHeld
          clear hHeld
          go_simp
          with_reducible refine (KWS.out _ hgc).mono ?_
          rintro e w5 ⟨v5, rfl, hrow5, hg5⟩
          obtain ⟨a5, c5, rfl⟩ := row_form hrow5
          have HROW5 := hide hrow5
          have HG5 := hide (hgc.trans hg5)
          clear hrow5 hg5 hgc
          go_wp2_with fail
          refine hK.out _ _ (HG5.out) (fun hHeld => ?_)
          clear hK K
          try simp only [Act.put, List.getElem_toArray, List.getElem_cons_zero, List.getElem_cons_succ, List.setIfInBounds_toArray, List.set_cons_zero, List.set_cons_succ]
          refine wpAnyH_take (i := 9) (v := ?_) rfl (by kernel_rfl) (by kernel_rfl) (by kernel_rfl) (fun _ _ _ h => h) (Or.inl ⟨by rfl, ?_⟩) hHeld ?_
          rotate_left 1
          · (intro w hSw; (try dsimp only at hSw); go_simp; try with_reducible rfl)
          try simp only [Act.put, List.getElem_toArray, List.getElem_cons_zero, List.getElem_cons_succ, List.setIfInBounds_toArray, List.set_cons_zero, List.set_cons_succ]
          refine wpAnyH_take (i := 10) (v := ?_) rfl (by kernel_rfl) (by kernel_rfl) (by kernel_rfl) (fun _ _ _ h => h) (Or.inl ⟨by rfl, ?_⟩) hHeld ?_
          rotate_left 1
          · (intro w hSw; (try dsimp only at hSw); go_simp; try with_reducible rfl)
          try simp only [Act.put, List.getElem_toArray, List.getElem_cons_zero, List.getElem_cons_succ, List.setIfInBounds_toArray, List.set_cons_zero, List.set_cons_succ]
          refine wpAnyH_take (i := 11) (v := ?_) rfl (by kernel_rfl) (by kernel_rfl) (by kernel_rfl) (fun _ _ _ h => h) (Or.inl ⟨by rfl, ?_⟩) hHeld ?_
          rotate_left 1
          · (intro w hSw; (try dsimp only at hSw); go_simp; try with_reducible rfl)
          try simp only [Act.put, List.getElem_toArray, List.getElem_cons_zero, List.getElem_cons_succ, List.setIfInBounds_toArray, List.set_cons_zero, List.set_cons_succ]
          refine wpAnyH_take (i := 12) (v := ?_) rfl (by kernel_rfl) (by kernel_rfl) (by kernel_rfl) (fun _ _ _ h => h) (Or.inl ⟨by rfl, ?_⟩) hHeld ?_
          rotate_left 1
          · (intro w hSw; (try dsimp only at hSw); go_simp; try with_reducible rfl)
          try simp only [Act.put, List.getElem_toArray, List.getElem_cons_zero, List.getElem_cons_succ, List.setIfInBounds_toArray, List.set_cons_zero, List.set_cons_succ]
          refine wpAnyH_take (i := 13) (v := ?_) rfl (by kernel_rfl) (by kernel_rfl) (by kernel_rfl) (fun _ _ _ h => h) (Or.inl ⟨by rfl, ?_⟩) hHeld ?_
          rotate_left 1
          · (intro w hSw; (try dsimp only at hSw); go_simp; try with_reducible rfl)
          try simp only [Act.put, List.getElem_toArray, List.getElem_cons_zero, List.getElem_cons_succ, List.setIfInBounds_toArray, List.set_cons_zero, List.set_cons_succ]
          refine wpAnyH_done (by kernel_rfl) ?_ _
          refine NoPanic.normal ?_
          go_wp2
          have hidn : ¬ ((ids.length : Int) = 0) := fun e => by
            obtain ⟨z, hz⟩ := Pm.hurt_iff.1 HPH.out
            have h1 := (HI2.out z).2 hz
            have h2 : ids = [] := List.eq_nil_of_length_eq_zero (by omega)
            rw [h2] at h1; cases h1
          have d5 : decide ((ids.length : Int) = 0) = false := by simp only [decide_eq_false_iff_not]; exact hidn
          have d6 : ((ids.length : Int) == 0) = false := by simp only [beq_eq_false_iff_ne]; exact hidn
          have hfs := HFS.out
          have d7 : decide (p.stamp ≤ first) = false := by simp; omega
          have d8 : ¬ p.stamp ≤ first := by omega
          have ky := HK.out _ (HGV.out.trans HG5.out)
          have KS : Hid (∀ k, Calls Tryz.prog 27 #[ptr b, I y] (w5.drewN k) fun e w' => e = .returned (I p.stamp) ∧ w' = w5.drewN k) := fun k => by
            rw [← stampL_bk HBK.out HP.out]
            exact stamp_any b _ va vr lo live y _ (HB.out.G ((HGV.out.trans HG5.out).drewN k)) ⟨own_G HL.out.1 ((HGV.out.trans HG5.out).drewN k), HL.out.2⟩
          clear hidn hfs
          by_cases hn0 : 0 < n
          · have hn1 : decide ((0 : Int) < (n : Int)) = true := by simp; omega
            have hn2 : (0 : Int) < (n : Int) := by omega
            obtain ⟨n', hn'⟩ : ∃ n', n = n' + 1 := ⟨n - 1, by omega⟩
            have hwm : wrap64 ((n : Int) - 1) = (n' : Int) := by have := HN1.out; have := HLT.out; unfold wrap64; omega
            obtain ⟨y0, hy0⟩ : ∃ a, ls[n']? = some a := ⟨_, List.getElem?_eq_getElem (by have := HLT.out; omega)⟩
            have hyy : y0 < y := by
              have h1 := HH3.out
              obtain ⟨l1, e1⟩ := List.getElem?_eq_some_iff.1 hy0
              obtain ⟨l2, e2⟩ := List.getElem?_eq_some_iff.1 HY.out
              have := List.pairwise_iff_getElem.1 h1 n' n l1 l2 (by omega)
              rw [e1, e2] at this; exact this
            obtain ⟨gb, hgb, ky0⟩ := int_at (own_G HLR.out (HGV.out.trans HG5.out)) hy0
            have e : ga = gb := by simpa using hgb
            subst e
            have hnI' : (n' : Int) < (ls.length : Int) := by have := HLT.out; omega
            have d9 : decide (y ≤ y0) = false := by simp; omega
            have d10 : ¬ y ≤ y0 := by omega
            have hn3 : decide (0 < n) = true := by simp; omega
            clear hn' hy0 hyy hgb
            go_quiet (first | (go_at_call 27; with_reducible refine Calls.quiet_of_same (KS.out _)))
            generalize hV6 : World.drewN w5 _ = V6
            have HGV6 : Hid (G w5 V6) := by rw [← hV6]; exact (G.refl w5).drewN _
            have HG6 := hide ((HGV.out.trans HG5.out).trans HGV6.out)
            have HROW6 := hide (own_G HROW5.out HGV6.out)
            clear hV6
            go_wp2
            go_loopw [16] (fun iv wi => ∃ j : Nat, j ≤ ids.length ∧ iv = I (j : Int) ∧ G V6 wi) (fun iv _ => ids.length - (RowKit.intOf iv).toNat)
            case atStart => exact ⟨0, Nat.zero_le _, rfl, G.refl _⟩
            case round =>
              obtain ⟨j, hj, rfl, hgj⟩ := hrel
              by_cases hjl : j < ids.length
              · obtain ⟨z, hz⟩ : ∃ a, ids[j]? = some a := ⟨_, List.getElem?_eq_getElem hjl⟩
                have hzs := HWS.out z ((HI2.out z).1 (List.mem_of_getElem? hz))
                have hjI : (j : Int) < (ids.length : Int) := by omega
                have hwj : wrap64 ((j : Int) + 1) = (j : Int) + 1 := by have := HI3.out; unfold wrap64; omega
                have HWJ := hide hwj
                obtain ⟨gh, hgh, kh⟩ := int_at (own_G HROW6.out hgj) hz
                subst hgh
                have ky := HK.out _ (HG6.out.trans hgj)
                have HGJ := hide hgj
                have KS1 : Hid (∀ k, Calls Tryz.prog 27 #[ptr b, I z] (wr.drewN k) fun e w' => e = .returned (I (stampL live z)) ∧ w' = wr.drewN k) := fun k => stamp_any b _ va vr lo live z _ (HB.out.G ((HG6.out.trans HGJ.out).drewN k)) ⟨own_G HL.out.1 ((HG6.out.trans HGJ.out).drewN k), HL.out.2⟩
                have KS2 : Hid (∀ k, Calls Tryz.prog 27 #[ptr b, I y] (wr.drewN k) fun e w' => e = .returned (I p.stamp) ∧ w' = wr.drewN k) := fun k => by
                  rw [← stampL_bk HBK.out HP.out]
                  exact stamp_any b _ va vr lo live y _ (HB.out.G ((HG6.out.trans HGJ.out).drewN k)) ⟨own_G HL.out.1 ((HG6.out.trans HGJ.out).drewN k), HL.out.2⟩
                generalize stampL live z = sz at hzs KS1
                have d1 : decide (p.stamp ≤ sz) = false := by simp; omega
                have d2 : ¬ p.stamp ≤ sz := by omega
                have HJL := hide hjl
                clear hz hzs hjl hgj hj hwj
                go_wp2
                go_quiet (first | (go_at_call 27; with_reducible refine Calls.quiet_of_same (KS1.out _)) | (go_at_call 27; with_reducible refine Calls.quiet_of_same (KS2.out _)))
                generalize hV7 : World.drewN wr _ = V7
                have HGV7 : Hid (G wr V7) := by rw [← hV7]; exact (G.refl wr).drewN _
                clear hV7 kh ky KS1 KS2
                go_wp2
                exact ⟨⟨j + 1, HJL.out, by rw [HWJ.out]; exact rl1 j, HGJ.out.trans HGV7.out⟩, by rw [HWJ.out]; exact ms_end HJL.out⟩
              · have hne : j = ids.length := by omega
                subst hne
                have hjI : ¬ ((ids.length : Int) < (ids.length : Int)) := by omega
                have HGJ := hide hgj
                clear hj hjl hgj
                go_wp2
                exact ⟨⟨n + 1, HLT.out, by (try rw [HWN.out]); exact rl1 n, HG6.out.trans HGJ.out⟩, by (try rw [HWN.out]); exact ms_end HLT.out⟩
          · have hn1 : decide ((0 : Int) < (n : Int)) = false := by simp; omega
            have hn2 : ¬ (0 : Int) < (n : Int) := by omega
            have hn3 : decide (0 < n) = false := by simp; omega
            go_quiet (first | (go_at_call 27; with_reducible refine Calls.quiet_of_same (KS.out _)))
            generalize hV6 : World.drewN w5 _ = V6
            have HGV6 : Hid (G w5 V6) := by rw [← hV6]; exact (G.refl w5).drewN _
            have HG6 := hide ((HGV.out.trans HG5.out).trans HGV6.out)
            have HROW6 := hide (own_G HROW5.out HGV6.out)
            clear hV6
            go_wp2
            go_loopw [16] (fun iv wi => ∃ j : Nat, j ≤ ids.length ∧ iv = I (j : Int) ∧ G V6 wi) (fun iv _ => ids.length - (RowKit.intOf iv).toNat)
            case atStart => exact ⟨0, Nat.zero_le _, rfl, G.refl _⟩
            case round =>
              obtain ⟨j, hj, rfl, hgj⟩ := hrel
              by_cases hjl : j < ids.length
              · obtain ⟨z, hz⟩ : ∃ a, ids[j]? = some a := ⟨_, List.getElem?_eq_getElem hjl⟩
                have hzs := HWS.out z ((HI2.out z).1 (List.mem_of_getElem? hz))
                have hjI : (j : Int) < (ids.length : Int) := by omega
                have hwj : wrap64 ((j : Int) + 1) = (j : Int) + 1 := by have := HI3.out; unfold wrap64; omega
                have HWJ := hide hwj
                obtain ⟨gh, hgh, kh⟩ := int_at (own_G HROW6.out hgj) hz
                subst hgh
                have ky := HK.out _ (HG6.out.trans hgj)
                have HGJ := hide hgj
                have KS1 : Hid (∀ k, Calls Tryz.prog 27 #[ptr b, I z] (wr.drewN k) fun e w' => e = .returned (I (stampL live z)) ∧ w' = wr.drewN k) := fun k => stamp_any b _ va vr lo live z _ (HB.out.G ((HG6.out.trans HGJ.out).drewN k)) ⟨own_G HL.out.1 ((HG6.out.trans HGJ.out).drewN k), HL.out.2⟩
                have KS2 : Hid (∀ k, Calls Tryz.prog 27 #[ptr b, I y] (wr.drewN k) fun e w' => e = .returned (I p.stamp) ∧ w' = wr.drewN k) := fun k => by
                  rw [← stampL_bk HBK.out HP.out]
                  exact stamp_any b _ va vr lo live y _ (HB.out.G ((HG6.out.trans HGJ.out).drewN k)) ⟨own_G HL.out.1 ((HG6.out.trans HGJ.out).drewN k), HL.out.2⟩
                generalize stampL live z = sz at hzs KS1
                have d1 : decide (p.stamp ≤ sz) = false := by simp; omega
                have d2 : ¬ p.stamp ≤ sz := by omega
                have HJL := hide hjl
                clear hz hzs hjl hgj hj hwj
                go_wp2
                go_quiet (first | (go_at_call 27; with_reducible refine Calls.quiet_of_same (KS1.out _)) | (go_at_call 27; with_reducible refine Calls.quiet_of_same (KS2.out _)))
                generalize hV7 : World.drewN wr _ = V7
                have HGV7 : Hid (G wr V7) := by rw [← hV7]; exact (G.refl wr).drewN _
                clear hV7 kh ky KS1 KS2
                go_wp2
                exact ⟨⟨j + 1, HJL.out, by rw [HWJ.out]; exact rl1 j, HGJ.out.trans HGV7.out⟩, by rw [HWJ.out]; exact ms_end HJL.out⟩
              · have hne : j = ids.length := by omega
                subst hne
                have hjI : ¬ ((ids.length : Int) < (ids.length : Int)) := by omega
                have HGJ := hide hgj
                clear hj hjl hgj
                go_wp2
                exact ⟨⟨n + 1, HLT.out, by (try rw [HWN.out]); exact rl1 n, HG6.out.trans HGJ.out⟩, by (try rw [HWN.out]); exact ms_end HLT.out⟩
    · have hne : n = ls.length := by omega
      subst hne
      have hnI : ¬ ((ls.length : Int) < (ls.length : Int)) := by omega
      have HGW := hide hgw
      clear hn hlt hgw
      go_wp2
      go_ret
      exact ⟨rfl, HGW.out⟩
end
open Go.RowKit

section
variable {m m' : Ms} {live : List (Int × Int)} {L : List Int} {LR : List Rs} {x : Int}
/-- Who is live, with which stamp, is all that a book knows. -/
theorem Bk.same (h : Bk m live) (hs : ∀ y, (m'.lv y).map Pm.stamp = (m.lv y).map Pm.stamp) : Bk m' live := by
  refine ⟨h.nd, fun y st => ?_⟩
  rw [h.mem y st]
  have := hs y
  constructor
  · rintro ⟨p, hp, he⟩
    rw [hp] at this
    cases e : m'.lv y with
    | none => rw [e] at this; cases this
    | some q => rw [e] at this; exact ⟨q, rfl, (by simpa using this : q.stamp = p.stamp).trans he⟩
  · rintro ⟨p, hp, he⟩
    rw [hp] at this
    cases e : m.lv y with
    | none => rw [e] at this; cases this
    | some q => rw [e] at this; exact ⟨q, rfl, (by simpa using this.symm : q.stamp = p.stamp).trans he⟩
theorem grant_stamps {p : Pm} (hp : m.lv x = some p) (r : Rs) (g : Int) (a : Nat) (y : Int) : ((mGrant m x p r g a).lv y).map Pm.stamp = (m.lv y).map Pm.stamp := by
  by_cases e : y = x
  · subst e; rw [mGrant_x, hp]; rfl
  · rw [mGrant_y e]
theorem wait_stamps {p : Pm} (hp : m.lv x = some p) (r : Rs) (g : Int) (a : Nat) (y : Int) : ((mWait m x p r g a).lv y).map Pm.stamp = (m.lv y).map Pm.stamp := by
  by_cases e : y = x
  · subst e; rw [mWait_x, hp]; rfl
  · rw [mWait_y e]
    cases m.lv y with
    | none => rfl
    | some b => simp only [Option.map_some]; rw [(hitIf_same _ x b).1]
theorem AskK.bk {p : Pm} (hp : m.lv x = some p) {r : Rs} {mode k : Int} {l : List Int} {c : Int} (h : AskK m x p r mode k l c m') (hb : Bk m live) : Bk m' live := by
  rcases h with ⟨-, -, -, -, rfl⟩ | ⟨-, -, ⟨-, -, -, rfl⟩ | ⟨-, ⟨-, -, rfl⟩ | ⟨-, -, rfl⟩, -⟩⟩
  · exact hb
  · exact hb
  · exact hb.same (grant_stamps hp _ _ _)
  · exact hb.same (wait_stamps hp _ _ _)
theorem EndK.bk {p : Pm} {out : List Int} (h : EndK m x p out m') (hb : Bk m live) : Bk m' (noX x live) := by
  obtain ⟨rs, -, -, -, -, -, -, hl, -⟩ := h
  refine ⟨hb.nd.sublist (List.filter_sublist.map _), fun y st => ?_⟩
  rw [noX_mem, hb.mem y st, hl y]
  have hg : (∃ p, (if y ∈ out then ((mDel m x).lv y).map Pm.got else (mDel m x).lv y) = some p ∧ p.stamp = st) ↔ ∃ p, (mDel m x).lv y = some p ∧ p.stamp = st := by
    by_cases e : y ∈ out
    · rw [if_pos e]
      cases (mDel m x).lv y with
      | none => simp
      | some b => simp [Pm.got]
    · rw [if_neg e]
  rw [hg]
  constructor
  · rintro ⟨⟨p, h1, h2⟩, h3⟩; exact ⟨p, mDel_lv.2 ⟨h3, h1⟩, h2⟩
  · rintro ⟨p, h1, h2⟩; exact ⟨⟨p, (mDel_lv.1 h1).2, h2⟩, (mDel_lv.1 h1).1⟩
theorem new_bk {st : Int} (ht : ¬ takenM m x st) (hb : Bk m live) : Bk (mNew m x st) (live ++ [(x, st)]) := by
  have hn : m.lv x = none := by
    cases e : m.lv x with
    | none => rfl
    | some b => exact absurd ⟨x, b, e, .inl rfl⟩ ht
  refine ⟨?_, fun y s => ?_⟩
  · rw [List.map_append, List.nodup_append]
    refine ⟨hb.nd, by simp, fun a ha c hc e => ?_⟩
    simp at hc
    obtain ⟨⟨u, v⟩, hu, rfl⟩ := List.mem_map.1 ha
    obtain ⟨p, hp, -⟩ := (hb.mem u v).1 hu
    have : u = x := by rw [← hc]; exact e
    rw [this, hn] at hp; cases hp
  · rw [List.mem_append, hb.mem y s, List.mem_singleton]
    by_cases e : y = x
    · subst e
      have h1 : (mNew m y st).lv y = some ⟨st, fun _ => 0, r0, 0, fun _ => false⟩ := upd_same _ _ _
      rw [h1, hn]
      constructor
      · rintro (⟨p, hp, -⟩ | h2)
        · cases hp
        · cases h2; exact ⟨_, rfl, rfl⟩
      · rintro ⟨p, hp, hs⟩
        cases hp
        have hs : st = s := hs
        rw [hs]; exact .inr rfl
    · have h1 : (mNew m x st).lv y = m.lv y := upd_other e
      rw [h1]
      constructor
      · rintro (h2 | h2)
        · exact h2
        · cases h2; exact absurd rfl e
      · exact .inl
theorem oldL_le : ∀ (live : List (Int × Int)) (z : Int), (∀ a ∈ live, 1 ≤ a.2) → (z = 0 ∨ 1 ≤ z) → (z ≠ 0 → oldL z live ≤ z) ∧ ∀ a ∈ live, oldL z live ≤ a.2
  | [], z, _, _ => ⟨fun _ => Int.le_refl _, fun a ha => by cases ha⟩
  | c :: live, z, h1, hz => by
    have hc := h1 c (List.mem_cons_self ..)
    have e : oldL z (c :: live) = oldL (oldS z c) live := rfl
    have hs : oldS z c ≤ c.2 ∧ (z ≠ 0 → oldS z c ≤ z) ∧ 1 ≤ oldS z c := by
      unfold oldS
      split
      · rename_i hh
        refine ⟨Int.le_refl _, fun h0 => ?_, hc⟩
        rcases hh with hh | hh <;> omega
      · rename_i hh
        rw [not_or] at hh
        exact ⟨by omega, fun _ => Int.le_refl _, by omega⟩
    obtain ⟨k1, k2⟩ := oldL_le live (oldS z c) (fun a ha => h1 a (List.mem_cons_of_mem _ ha)) (.inr hs.2.2)
    have k3 := k1 (by omega)
    rw [e]
    refine ⟨fun h0 => Int.le_trans k3 (hs.2.1 h0), fun a ha => ?_⟩
    rcases List.mem_cons.1 ha with ha | ha
    · rw [ha]; exact Int.le_trans k3 hs.1
    · exact k2 a ha
theorem Bk.oldest (hb : Bk m live) (hI : Iv m L LR) {y : Int} {p : Pm} (hp : m.lv y = some p) : oldL 0 live ≤ p.stamp :=
  (oldL_le live 0 (fun a ha => by
    obtain ⟨q, hq, he⟩ := (hb.mem a.1 a.2).1 ha
    rw [← he]; exact (hI.lv a.1 q hq).s1) (.inl rfl)).2 (y, p.stamp) ((hb.mem y p.stamp).2 ⟨p, hp, rfl⟩)
/-- Where an ask wounds somebody, older live ones did it. -/
theorem AskT.older {p : Pm} (hp : m.lv x = some p) {r : Rs} {g k : Int} {l : List Int} (h : AskT m x p r g k l m') : ∀ y ∈ l, ∃ b b', m.lv y = some b ∧ b.hurt = false ∧ m'.lv y = some b' ∧ b'.hurt = true ∧ b'.stamp = b.stamp ∧ ∀ z, b'.wd z = true → ∃ c, m.lv z = some c ∧ c.stamp < b.stamp := by
  intro y hy
  obtain ⟨b, b', h1, h2, h3, h4⟩ := (h.2.2 y).1 hy
  have hnw := Pm.hurt_no.1 h3
  have pa : ∀ q : Pm, m.lv x = some q → q.hurt = false → ∀ (a : Nat) z, (paM m q g ((m.qs r).drop a)).wd z = true → ∃ c, m.lv z = some c ∧ c.stamp < q.stamp := fun q _ hq a z hz => by
    rcases paM_inv hz with hz | ⟨g', c, -, hc, hlt, -⟩
    · rw [Pm.hurt_no.1 hq z] at hz; cases hz
    · exact ⟨c, hc, hlt⟩
  refine ⟨b, b', h1, h3, h2, h4, ?_⟩
  rcases h.1 with ⟨-, -, rfl⟩ | ⟨-, -, rfl⟩
  · by_cases e : y = x
    · subst e
      rw [mGrant_x] at h2
      rw [hp] at h1
      cases h1; cases h2
      exact ⟨rfl, fun z hz => pa p hp h3 _ z hz⟩
    · rw [mGrant_y e, h1] at h2
      cases h2
      rw [h3] at h4; cases h4
  · by_cases e : y = x
    · subst e
      rw [mWait_x] at h2
      rw [hp] at h1
      cases h1; cases h2
      exact ⟨rfl, fun z hz => pa p hp h3 _ z hz⟩
    · obtain ⟨c, hc1, rfl⟩ := mWait_of e h2
      rw [h1] at hc1
      cases hc1
      obtain ⟨e1, -, -, -, -, e6, -⟩ := hitIf_same ((paM m p g ((m.qs r).drop (turnM m r x))).hurt = false ∧ inW (m.hl r) (m.qs r) x g (turnM m r x) y ∧ p.stamp < b.stamp) x b
      refine ⟨e1, fun z hz => ?_⟩
      rcases e6 z hz with hz | ⟨hc, rfl⟩
      · rw [hnw z] at hz; cases hz
      · exact ⟨p, hp, hc.2.2⟩
theorem joinI_again {a b : Int} (ha : a = 0 ∨ modeB a = true) (hb : modeB b = true) : joinI (joinI a b) b = joinI a b := by
  rcases ha with rfl | ha
  · rcases mode_cases hb with rfl | rfl | rfl | rfl | rfl <;> decide
  · rcases mode_cases ha with rfl | rfl | rfl | rfl | rfl <;> rcases mode_cases hb with rfl | rfl | rfl | rfl | rfl <;> decide
/-- What the asker holds and waits for behind its Ask. -/
theorem AskK.after {p : Pm} (hI : Iv m L LR) (hp : m.lv x = some p) {r : Rs} {mode k : Int} (hm : modeB mode = true) {l : List Int} {c : Int} (h : AskK m x p r mode k l c m') (hg : p.goal = 0) : ∃ p', m'.lv x = some p' ∧ c = 0 ∧ p'.stamp = p.stamp ∧ ((k = 1 ∧ p'.goal = 0 ∧ joinI (p'.hf r) mode = p'.hf r) ∨ (k = 2 ∧ joinI p'.goal mode = p'.goal ∧ p'.goal ≠ p'.hf r)) := by
  have hm0 : p.hf r = 0 ∨ modeB (p.hf r) = true := by rw [← hl_some hp r]; exact hI.mode r x
  rcases h with ⟨h, -⟩ | ⟨-, hc, ⟨h1, h2, -, rfl⟩ | ⟨h1, ⟨-, h2, rfl⟩ | ⟨-, h2, rfl⟩, -⟩⟩
  · exact absurd hg h
  · exact ⟨p, hp, hc, rfl, .inl ⟨h2, hg, h1⟩⟩
  · refine ⟨_, mGrant_x, hc, rfl, .inl ⟨h2, rfl, ?_⟩⟩
    show joinI (upd p.hf r _ r) mode = upd p.hf r _ r
    rw [upd_same]
    exact joinI_again hm0 hm
  · exact ⟨_, mWait_x, hc, rfl, .inr ⟨h2, joinI_again hm0 hm, h1⟩⟩
/-- Who is granted by an End waited, and holds its goal now. -/
theorem EndK.got {p : Pm} {out : List Int} (h : EndK m x p out m') : ∀ y ∈ out, y ≠ x ∧ ∃ b b', m.lv y = some b ∧ b.goal ≠ 0 ∧ m'.lv y = some b' ∧ b'.goal = 0 ∧ b'.hf b.at_ = b.goal := by
  obtain ⟨rs, -, -, -, -, -, -, hl, hg⟩ := h
  intro y hy
  obtain ⟨b, hb, hbg⟩ := hg y hy
  have h1 := hl y
  rw [if_pos hy, hb] at h1
  exact ⟨(mDel_lv.1 hb).1, b, _, (mDel_lv.1 hb).2, hbg, h1, rfl, upd_same _ _ _⟩
/-- The others keep stamp and wounds. -/
theorem EndK.rest {p : Pm} {out : List Int} (h : EndK m x p out m') {y : Int} {b' : Pm} (hy : m'.lv y = some b') : y ≠ x ∧ ∃ b, m.lv y = some b ∧ b'.stamp = b.stamp ∧ b'.wd = b.wd := by
  obtain ⟨rs, -, -, -, -, -, -, hl, -⟩ := h
  have h1 := hl y
  rw [hy] at h1
  cases e : (mDel m x).lv y with
  | none => rw [e] at h1; split at h1 <;> cases h1
  | some b =>
    rw [e] at h1
    refine ⟨(mDel_lv.1 e).1, b, (mDel_lv.1 e).2, ?_⟩
    split at h1
    · cases h1; exact ⟨rfl, rfl⟩
    · cases h1; exact ⟨rfl, rfl⟩
/-- Where nobody is wounded, the oldest waits for nothing. -/
theorem oldest_done (hI : Iv m L LR) {p : Pm} (hp : m.lv x = some p) (ho : ∀ y q, m.lv y = some q → p.stamp ≤ q.stamp) (hn : ∀ y q, m.lv y = some q → q.hurt = false) : p.goal = 0 := by
  refine Decidable.byContradiction fun hg => ?_
  have hq := (hI.qm p.at_ x p.goal).2 ⟨p, hp, rfl, hg, rfl⟩
  obtain ⟨i, hi⟩ := List.mem_iff_getElem?.1 hq
  obtain ⟨y, hy⟩ := hI.bl p.at_ i x p.goal hi
  obtain ⟨eyx, q, hqy⟩ := hI.way (fun j g' hj hj2 => by have := nodup_at (hI.qn p.at_) hi hj2; omega) hy
  have h1 := ho y q hqy
  have h2 : p.stamp ≠ q.stamp := fun e => eyx (hI.st y x q p hqy hp e.symm)
  have h3 := hI.jw p.at_ i x p.goal p hi hp (hn x p hp) y q hy hqy (by omega)
  have h4 := Pm.hurt_no.1 (hn y q hqy) x
  rw [h3] at h4; cases h4
end
end
open Go.RowKit Go.PlainAid

set_option maxRecDepth 100000 in
set_option maxHeartbeats 1000000 in
theorem good_any (r : Rs) (w : World) : Calls Tryz.prog 12 #[r.v] w fun e w' => (e = .returned (.bool false) ∨ (e = .returned (.bool true) ∧ ResP r)) ∧ G w w' := by
  simp only [Rs.v]
  obtain ⟨a, b, c⟩ := r
  have hbt := get_bt b
  have h0 := bt_nonneg b 0
  have h00 := bt_le b 0
  simp only
  by_cases h1 : a = 1
  · subst h1
    by_cases hb : b = ByteArray.empty
    · subst hb
      by_cases hc : c = 0
      · subst hc
        go_enter Tryz.func12, Tryz.ntmps12
        go_wp2
        go_ret
        exact ⟨.inr ⟨rfl, .inl ⟨rfl, rfl, rfl⟩⟩, (G.refl w).alloc _⟩
      · have hcb : (c == 0) = false := by simpa using hc
        go_enter Tryz.func12, Tryz.ntmps12
        go_wp2
        go_ret
        exact ⟨.inl rfl, (G.refl w).alloc _⟩
    · have hl : ¬ b.toList = [] := fun e => hb (toList_nil.1 e)
      go_enter Tryz.func12, Tryz.ntmps12
      go_wp2
      go_ret
      exact ⟨.inl rfl, (G.refl w).alloc _⟩
  · by_cases h2 : a = 2
    · subst h2
      by_cases hsz : b.size = 1
      · by_cases hlo : 97 ≤ bt b 0
        · by_cases hhi : bt b 0 ≤ 122
          · by_cases hc : c = 0
            · subst hc
              have HN : Hid (NameP b) := ⟨by omega, by omega, hlo, fun j hj => by
                have e : j = 0 := by omega
                rw [e]
                exact .inl ⟨hlo, hhi⟩⟩
              go_enter Tryz.func12, Tryz.ntmps12
              go_wp2
              go_ret
              exact ⟨.inr ⟨rfl, .inr (.inl ⟨rfl, HN.out, rfl⟩)⟩, (G.refl w).alloc _⟩
            · have hcb : (c == 0) = false := by simpa using hc
              go_enter Tryz.func12, Tryz.ntmps12
              go_wp2
              go_ret
              exact ⟨.inl rfl, (G.refl w).alloc _⟩
          ·
            go_enter Tryz.func12, Tryz.ntmps12
            go_wp2
            go_ret
            exact ⟨.inl rfl, (G.refl w).alloc _⟩
        ·
          go_enter Tryz.func12, Tryz.ntmps12
          go_wp2
          go_ret
          exact ⟨.inl rfl, (G.refl w).alloc _⟩
      · have hszI : ¬ (b.size : Int) = 1 := by omega
        go_enter Tryz.func12, Tryz.ntmps12
        go_wp2
        go_ret
        exact ⟨.inl rfl, (G.refl w).alloc _⟩
    · by_cases h3 : a = 3
      · subst h3
        by_cases hb : b = ByteArray.empty
        · subst hb
          by_cases hc : 1 ≤ c
          · have HC := hide hc
            go_enter Tryz.func12, Tryz.ntmps12
            go_wp2
            go_ret
            exact ⟨.inr ⟨rfl, .inr (.inr ⟨rfl, rfl, HC.out⟩)⟩, (G.refl w).alloc _⟩
          · have hc' : ¬ c ≥ 1 := hc
            go_enter Tryz.func12, Tryz.ntmps12
            go_wp2
            go_ret
            exact ⟨.inl rfl, (G.refl w).alloc _⟩
        · have hl : ¬ b.toList = [] := fun e => hb (toList_nil.1 e)
          go_enter Tryz.func12, Tryz.ntmps12
          go_wp2
          go_ret
          exact ⟨.inl rfl, (G.refl w).alloc _⟩
      ·
        go_enter Tryz.func12, Tryz.ntmps12
        go_wp2
        go_ret
        exact ⟨.inl rfl, (G.refl w).alloc _⟩
end
open Go.RowKit

section
variable {w : World} {t : Nat} {s : Gs} {m : Ms} {L : List Int} {LR : List Rs} {x : Int} {pm : Pm}
theorem waiting_t (h : GT w t s m L LR) (hp : m.lv x = some pm) : Calls Tryz.prog 16 #[ptr t, I x] w fun e w' => e = .returned (.tuple #[pm.at_.v, I pm.goal, I 0]) ∧ G w w' := by
  have hi := h.iv.lv x pm hp
  obtain ⟨p, hq, rfl⟩ := h.ab.of hp
  exact waiting_any t s x p w h.tt hi.xr hq
theorem waiting_n (h : GT w t s m L LR) (hx : R64 x) (hp : m.lv x = none) : Calls Tryz.prog 16 #[ptr t, I x] w fun e w' => e = .returned (.tuple #[(⟨0, ByteArray.empty, 0⟩ : Rs).v, I 0, I 80]) ∧ G w w' :=
  waiting_none t s x w h.tt hx (h.ab.none.2 hp)
theorem mode_t (h : GT w t s m L LR) (hp : m.lv x = some pm) {r : Rs} (hr : GoodR r LR) : Calls Tryz.prog 43 #[ptr t, I x, r.v] w fun e w' => e = .returned (.tuple #[I (pm.hf r), I 0]) ∧ G w w' := by
  have hi := h.iv.lv x pm hp
  obtain ⟨p, hq, rfl⟩ := h.ab.of hp
  have := mode_any t s x r w p h.tt hi.xr hr.2.1 hq
  rw [(resB_iff r).2 hr.2.2] at this
  exact this
theorem live_t (h : GT w t s m L LR) {live : List (Int × Int)} (hb : Bk m live) (hl : live.length < 2000000000000) : Calls Tryz.prog 26 #[ptr t] w fun e w' => ∃ v, e = .returned v ∧ w'.ownsRow w.heap.size 3 1 v live.length ((srt (live.map fun a => a.1)).map fun z => I z) ∧ G w w' := by
  have hlen : (srt (live.map fun a => a.1)).length = live.length := by rw [srt_len, List.length_map]
  refine (live_any t s (srt (live.map fun a => a.1)) w h.tt (srt_lt hb.nd) (fun a => ?_) (by omega)).mono ?_
  · rw [(srt_perm _).mem_iff]
    constructor
    · intro ha
      obtain ⟨⟨y, st⟩, hy, rfl⟩ := List.mem_map.1 ha
      obtain ⟨p, hp, -⟩ := (hb.mem y st).1 hy
      exact ⟨(h.iv.lv y p hp).xr, fun e => by rw [h.ab.none.1 e] at hp; cases hp⟩
    · rintro ⟨-, ha⟩
      cases e : m.lv a with
      | none => exact absurd (h.ab.none.2 e) ha
      | some p => exact List.mem_map.2 ⟨(a, p.stamp), (hb.mem a p.stamp).2 ⟨p, e, rfl⟩, rfl⟩
  · rintro e w' ⟨v, rfl, hrow, hg⟩
    rw [hlen] at hrow
    exact ⟨v, rfl, hrow, hg⟩
end
end
open Go.RowKit

/-- The book: its block, its two rows; the table owns none of them. -/
structure Sg (w : World) (b t lo : Nat) (s : Gs) (live : List (Int × Int)) (res : List Rs) (va vr : Value) : Prop where
  blk : Blk w b 31 [ptr t, va, vr]
  lf : Lf w lo va live
  rs : w.ownsRow lo 24 3 vr res.length (rc res)
  rl : res.length < 2000000000000
  bl : b < lo
  lw : lo ≤ w.heap.size
  ob : s.own b = none
  oa : ∀ k, va.ownBlock = some k → s.own k = none
  or : ∀ k, vr.ownBlock = some k → s.own k = none
  b2 : b ≠ 1 ∧ b ≠ 0
  l2 : 1 < lo ∧ 0 < lo
section
variable {w w' : World} {b t lo : Nat} {s s' : Gs} {live : List (Int × Int)} {res : List Rs} {va vr : Value} {m : Ms} {L : List Int} {LR : List Rs}
theorem Sg.G (h : Sg w b t lo s live res va vr) (g : G w w') : Sg w' b t lo s live res va vr :=
  ⟨h.blk.G g, ⟨own_G h.lf.1 g, h.lf.2⟩, own_G h.rs g, h.rl, h.bl, Nat.le_trans h.lw g.size, h.ob, h.oa, h.or, h.b2, h.l2⟩
/-- The table's own doings leave the book. -/
theorem Sg.ext (h : Sg w b t lo s live res va vr) (E : Ext w w' s s') : Sg w' b t lo s' live res va vr :=
  ⟨h.blk.chg E.chg (fun e => e h.ob), ⟨own_ext h.lf.1 E h.oa, h.lf.2⟩, own_ext h.rs E h.or, h.rl, h.bl, Nat.le_trans h.lw E.chg.size, E.free h.blk.lt h.ob, fun k hk => E.free (World.ownsRow.lt h.lf.1 k hk).2 (h.oa k hk), fun k hk => E.free (World.ownsRow.lt h.rs k hk).2 (h.or k hk), h.b2, h.l2⟩
theorem TT.fresh (h : TT w t s) {k : Nat} (hk : w.heap.size ≤ k) : s.own k = none := by
  cases e : s.own k with
  | none => rfl
  | some tg => have := h.lt k tg e; omega
/-- It is live no more. -/
theorem gone_t (h : Sg w b t lo s live res va vr) (hT : GT w t s m L LR) (x : Int) : Calls Tryz.prog 20 #[ptr b, I x] w fun e w' => e = .returned (.tuple #[]) ∧ ∃ va', Sg w' b t lo s (noX x live) res va' vr ∧ GT w' t s m L LR := by
  refine (gone_any b _ va vr lo live x w h.blk h.lf).mono ?_
  rintro e w' ⟨rfl, v', hb, hl, hc⟩
  have hd : ∀ k, k = b → s.own k = none ∧ k ≠ 1 ∧ k ≠ 0 := fun k e => by rw [e]; exact ⟨h.ob, h.b2.1, h.b2.2⟩
  refine ⟨rfl, v', ⟨hb, ⟨own_lo hl.1 h.lw, hl.2⟩, own_chg h.rs hc (fun k hk e => ?_), h.rl, h.bl, Nat.le_trans h.lw hc.size, h.ob, fun k hk => hT.tt.fresh (World.ownsRow.lt hl.1 k hk).1, h.or, h.b2, h.l2⟩, hT.chg hc hd⟩
  have h1 := (World.ownsRow.lt h.rs k hk).1
  have h2 := h.bl
  omega
/-- A resource was asked for. -/
theorem met_t (h : Sg w b t lo s live res va vr) (hT : GT w t s m L LR) (r : Rs) (hlen : res.length + 1 < 2000000000000) : Calls Tryz.prog 48 #[ptr b, r.v] w fun e w' => e = .returned (.tuple #[]) ∧ ∃ vr' res', (res' = res ∨ res' = res ++ [r]) ∧ r ∈ res' ∧ Sg w' b t lo s live res' va vr' ∧ GT w' t s m L LR := by
  refine (met_any b _ va vr lo res r w h.blk h.rs h.rl h.bl h.lw).mono ?_
  rintro e w' ⟨rfl, ⟨h1, g⟩ | ⟨h1, v', hb, hr, hv, hc⟩⟩
  · exact ⟨rfl, vr, res, .inl rfl, h1, h.G g, hT.G g⟩
  · have hd : ∀ k, (k = b ∨ vr.ownBlock = some k) → s.own k = none ∧ k ≠ 1 ∧ k ≠ 0 := fun k e => by
      rcases e with e | e
      · rw [e]; exact ⟨h.ob, h.b2.1, h.b2.2⟩
      · have h1 := (World.ownsRow.lt h.rs k e).1
        have h2 := h.l2
        exact ⟨h.or k e, by omega, by omega⟩
    have hl : (res ++ [r]).length = res.length + 1 := by simp
    refine ⟨rfl, v', res ++ [r], .inr rfl, by simp, ⟨hb, ⟨own_chg h.lf.1 hc (fun k hk e => ?_), h.lf.2⟩, by rw [hl]; exact hr, by rw [hl]; exact hlen, h.bl, Nat.le_trans h.lw hc.size, h.ob, h.oa, fun k hk => ?_, h.b2, h.l2⟩, hT.chg hc hd⟩
    · rcases e with e | e
      · have h1 := (World.ownsRow.lt h.lf.1 k hk).1
        have h2 := h.bl
        omega
      · exact own_apart h.lf.1 h.rs (by decide) k hk e
    · rcases hv k hk with e | e
      · exact h.or k e
      · exact hT.tt.fresh e
end
end
open Go.RowKit

def W3 (w : World) (b : Nat) (x y z : Value) : World := ((w.setCell ⟨b, 0, none⟩ x).setCell ⟨b, 1, none⟩ y).setCell ⟨b, 2, none⟩ z
theorem sets3 {w w0 : World} {b : Nat} {e : TypeId} {x0 y0 z0 : Value} (x y z : Value) (h : Blk w b e [x0, y0, z0]) (g : G w0 w) (hb : w0.heap.size ≤ b) : Blk (W3 w b x y z) b e [x, y, z] ∧ G w0 (W3 w b x y z) ∧ w0.heap.size ≤ b :=
  ⟨((h.set 0 x).set 1 y).set 2 z, ((g.setCell hb _).setCell hb _).setCell hb _, hb⟩
/-- The book beside the table; nothing older than W0 has turned. -/
structure Ld (W0 w : World) (b t lo : Nat) (s : Gs) (m : Ms) (live : List (Int × Int)) (res : List Rs) (va vr : Value) (L : List Int) (LR : List Rs) : Prop where
  sg : Sg w b t lo s live res va vr
  gt : GT w t s m L LR
  rg : ∀ r ∈ res, GoodR r LR
  gw : G W0 w
  ob : ∀ k tg, s.own k = some tg → W0.heap.size ≤ k
  wb : W0.heap.size ≤ b
section
variable {W0 w w' : World} {b t lo : Nat} {s s' : Gs} {m m' : Ms} {live : List (Int × Int)} {res : List Rs} {va vr : Value} {L : List Int} {LR : List Rs}
theorem Ld.G (h : Ld W0 w b t lo s m live res va vr L LR) (g : G w w') : Ld W0 w' b t lo s m live res va vr L LR := ⟨h.sg.G g, h.gt.G g, h.rg, h.gw.trans g, h.ob, h.wb⟩
theorem Ld.ext (h : Ld W0 w b t lo s m live res va vr L LR) (E : Ext w w' s s') (hT : GT w' t s' m' L LR) : Ld W0 w' b t lo s' m' live res va vr L LR :=
  ⟨h.sg.ext E, hT, h.rg, ⟨E.chg.os.trans h.gw.os, E.chg.tape.trans h.gw.tape, E.chg.output.trans h.gw.output, Nat.le_trans h.gw.size E.chg.size, fun k hk => (E.chg.block k (Nat.lt_of_lt_of_le hk h.gw.size) (fun e => by
    cases e2 : s.own k with
    | none => exact e e2
    | some tg => have := h.ob k tg e2; omega)).trans (h.gw.block k hk)⟩, fun k tg o => by
    rcases E.new k tg o with o | o
    · exact h.ob k tg o
    · exact Nat.le_trans h.gw.size o, h.wb⟩
theorem G.of_chg {D : Nat → Prop} (g : Go.Proofs.YtkbgifhhnnfgoaaGreatDoor.G W0 w) (c : Chg D w w') (hd : ∀ k, D k → W0.heap.size ≤ k) : Go.Proofs.YtkbgifhhnnfgoaaGreatDoor.G W0 w' :=
  ⟨c.os.trans g.os, c.tape.trans g.tape, c.output.trans g.output, Nat.le_trans g.size c.size, fun k hk => (c.block k (Nat.lt_of_lt_of_le hk g.size) (fun e => by have := hd k e; omega)).trans (g.block k hk)⟩
theorem Ld.gone (h : Ld W0 w b t lo s m live res va vr L LR) (x : Int) : Calls Tryz.prog 20 #[ptr b, I x] w fun e w' => e = .returned (.tuple #[]) ∧ ∃ va', Ld W0 w' b t lo s m (noX x live) res va' vr L LR ∧ Chg (fun k => k = b) w w' := by
  have h0 := h.sg
  refine (gone_any b _ va vr lo live x w h0.blk h0.lf).mono ?_
  rintro e w' ⟨rfl, v', hb, hl, hc⟩
  have hd : ∀ k, k = b → s.own k = none ∧ k ≠ 1 ∧ k ≠ 0 := fun k e => by rw [e]; exact ⟨h0.ob, h0.b2.1, h0.b2.2⟩
  refine ⟨rfl, v', ⟨⟨hb, ⟨own_lo hl.1 h0.lw, hl.2⟩, own_chg h0.rs hc (fun k hk e => ?_), h0.rl, h0.bl, Nat.le_trans h0.lw hc.size, h0.ob, fun k hk => h.gt.tt.fresh (World.ownsRow.lt hl.1 k hk).1, h0.or, h0.b2, h0.l2⟩, h.gt.chg hc hd, h.rg, h.gw.of_chg hc (fun k e => by rw [e]; exact h.wb), h.ob, h.wb⟩, hc⟩
  have h1 := (World.ownsRow.lt h0.rs k hk).1
  have h2 := h0.bl
  omega
theorem Ld.met (h : Ld W0 w b t lo s m live res va vr L LR) (r : Rs) (hr : GoodR r LR) (hlen : res.length + 1 < 2000000000000) : Calls Tryz.prog 48 #[ptr b, .agg #[I r.lv, .string r.lb, I r.id]] w fun e w' => e = .returned (.tuple #[]) ∧ ∃ vr' res', res'.length ≤ res.length + 1 ∧ Ld W0 w' b t lo s m live res' va vr' L LR ∧ Chg (fun k => k = b ∨ vr.ownBlock = some k) w w' := by
  have h0 := h.sg
  refine Calls.mono (met_any b _ va vr lo res r w h0.blk h0.rs h0.rl h0.bl h0.lw) ?_
  rintro e w' ⟨rfl, ⟨h1, g⟩ | ⟨h1, v', hb, hr', hv, hc⟩⟩
  · exact ⟨rfl, vr, res, Nat.le_succ _, h.G g, g.chg⟩
  · have hd : ∀ k, (k = b ∨ vr.ownBlock = some k) → s.own k = none ∧ k ≠ 1 ∧ k ≠ 0 := fun k e => by
      rcases e with e | e
      · rw [e]; exact ⟨h0.ob, h0.b2.1, h0.b2.2⟩
      · have h1 := (World.ownsRow.lt h0.rs k e).1
        have h2 := h0.l2
        exact ⟨h0.or k e, by omega, by omega⟩
    have hl : (res ++ [r]).length = res.length + 1 := by simp
    refine ⟨rfl, v', res ++ [r], Nat.le_of_eq hl, ⟨⟨hb, ⟨own_chg h0.lf.1 hc (fun k hk e => ?_), h0.lf.2⟩, by rw [hl]; exact hr', by rw [hl]; exact hlen, h0.bl, Nat.le_trans h0.lw hc.size, h0.ob, h0.oa, fun k hk => ?_, h0.b2, h0.l2⟩, h.gt.chg hc hd, fun y hy => ?_, h.gw.of_chg hc (fun k e => ?_), h.ob, h.wb⟩, hc⟩
    · rcases e with e | e
      · have h1 := (World.ownsRow.lt h0.lf.1 k hk).1
        have h2 := h0.bl
        omega
      · exact own_apart h0.lf.1 h0.rs (by decide) k hk e
    · rcases hv k hk with e | e
      · exact h0.or k e
      · exact h.gt.tt.fresh e
    · rcases List.mem_append.1 hy with hy | hy
      · exact h.rg y hy
      · rw [List.mem_singleton.1 hy]; exact hr
    · rcases e with e | e
      · rw [e]; exact h.wb
      · have h1 := (World.ownsRow.lt h0.rs k e).1
        have h2 := h0.bl
        have h3 := h.wb
        omega
end
/-- A set of fields that was boxed. -/
def opC (kd who x st : Int) (r : Rs) (mode : Int) : List Value := [I kd, I who, I x, I st, I r.lv, .string r.lb, I r.id, I mode]
end Go.Proofs.YtkbgifhhnnfgoaaGreatDoor
