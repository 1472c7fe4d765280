/- Locks: LocksNoRing. -/
import Derived.Test.YtkbgifhhnnfgoaaGreatDoorLk87
import Derived.Test.YtkbgifhhnnfgoaaGreatDoorLk77
namespace Go.Proofs.YtkbgifhhnnfgoaaGreatDoor
open Go.RowKit

/-- The last one waits for nothing. -/
theorem alone_done {m : Ms} {L : List Int} {LR : List Rs} {x st : Int} {p : Pm} (hI : Iv m L LR) (hb : Bk m [(x, st)]) (hp : m.lv x = some p) : p.goal = 0 := by
  refine Decidable.byContradiction fun hg => ?_
  have hq := (hI.qm p.at_ x p.goal).2 ⟨p, hp, rfl, hg, rfl⟩
  obtain ⟨i, hi⟩ := List.mem_iff_getElem?.1 hq
  obtain ⟨y, hy⟩ := hI.bl p.at_ i x p.goal hi
  obtain ⟨eyx, q, hqy⟩ := hI.way (fun j g' hj hj2 => by have := nodup_at (hI.qn p.at_) hi hj2; omega) hy
  have := (hb.mem y q.stamp).2 ⟨q, hqy, rfl⟩
  rw [List.mem_singleton] at this
  exact eyx (congrArg Prod.fst this)
def lvLen (b : Nat) (w : World) : Nat := match w.cell? ⟨b, 1, none⟩ with | some (.slice _ n _) => n | _ => 0
theorem lvLen_eq {W0 w : World} {b t lo : Nat} {s : Gs} {m : Ms} {live : List (Int × Int)} {res : List Rs} {va vr : Value} {L : List Int} {LR : List Rs} (h : Ld W0 w b t lo s m live res va vr L LR) : lvLen b w = live.length := by
  obtain ⟨aa, ac, rfl⟩ := h.sg.lf.form
  have := h.sg.blk.cell 1
  simp only [List.getElem?_cons_succ, List.getElem?_cons_zero] at this
  unfold lvLen
  rw [this]
theorem noX_less {x st : Int} {l : List (Int × Int)} (h : l[0]? = some (x, st)) : (noX x l).length < l.length := by
  cases l with
  | nil => simp at h
  | cons a l =>
    simp at h
    subst h
    unfold noX
    rw [List.filter_cons]
    simp
    exact Nat.lt_succ_of_le (List.length_filter_le _ _)
set_option maxRecDepth 100000 in
set_option maxHeartbeats 2000000 in
theorem noring_law (v : Value) (N : Nat) (X : Nat → Lo) (W : World) (hS : ScL W v N X) (hX : ∀ i, i < N → R64 (X i).x ∧ (X i).r.ok) (hN : N + 2 < 2000000000000) (hNN : N * N < 2000000000000) (hT : Tb W) :
    Calls Tryz.prog 4 #[v] W fun e W' => e = .returned (.bool true) ∧ G W W' := by
  obtain ⟨a, cap, rfl, hS⟩ := hS
  obtain ⟨L, hLe⟩ : ∃ L, L = (List.range N).map fun i => (X i).x := ⟨_, rfl⟩
  obtain ⟨LR, hLRe⟩ : ∃ LR, LR = (List.range N).map fun i => (X i).r := ⟨_, rfl⟩
  have HL : Hid (L.length < 2000000000000) := by rw [Hid, hLe]; simp; omega
  have HLR : Hid (LR.length < 2000000000000) := by rw [Hid, hLRe]; simp; omega
  have HLL : Hid (∀ n, n ≤ N → n * L.length < 2000000000000) := fun n hn => by
    have h1 : L.length = N := by rw [hLe]; simp
    rw [h1]
    exact Nat.lt_of_le_of_lt (Nat.mul_le_mul_right _ hn) hNN
  have HXX : Hid (∀ i, i < N → R64 (X i).x ∧ (X i).r.ok ∧ (X i).x ∈ L ∧ (X i).r ∈ LR) := fun i hi => ⟨(hX i hi).1, (hX i hi).2, by rw [hLe]; exact List.mem_map.2 ⟨i, List.mem_range.2 hi, rfl⟩, by rw [hLRe]; exact List.mem_map.2 ⟨i, List.mem_range.2 hi, rfl⟩⟩
  have HS := hide hS; have HN := hide hN; have HTB := hide hT
  clear hLe hLRe hX hS hN hNN hT
  go_enter Tryz.func4, Tryz.ntmps4
  go_wp2_with (first | (go_at_call 9; refine Hid.out ?_) | fail)
  unfold Hid
  refine (new_any W).mono ?_
  rintro e w2 ⟨t, s, rfl, hT, hl, hp, hg2, ht, ho⟩
  go_wp2_with fail
  obtain ⟨w3, hw3⟩ : ∃ w3, w3 = w2.alloc (.cells #[ptr t, .slice none 0 0, .slice none 0 0] 31) := ⟨_, rfl⟩
  rw [← hw3]
  have h3 := ld_new L LR hT hl hp hg2 ho HTB.out hw3
  clear hw3 hT hl hp hg2 ho ht
  generalize w2.heap.size = b at h3 ⊢
  generalize w3.heap.size = lo at h3
  have H3 := hide h3
  clear h3
  go_loopw [4] (fun iv wr => ∃ i : Nat, i ≤ N ∧ iv = I (i : Int) ∧ ∃ s m live res va vr, live.length ≤ i ∧ res.length ≤ i ∧ Ld W wr b t lo s m live res va vr L LR ∧ Bk m live) (fun iv _ => N - (RowKit.intOf iv).toNat)
  case atStart => exact ⟨0, Nat.zero_le _, rfl, s, m0, [], [], _, _, Nat.le_refl _, Nat.le_refl _, H3.out, bk_m0⟩
  case round =>
    clear H3
    obtain ⟨i, hi, rfl, s, m, live, res, va, vr, hll, hrl, hLd, hbk⟩ := hrel
    have hnN := HN.out
    by_cases hlt : i < N
    · rcases HS.out with h0 | ⟨sb, off, rfl, hops⟩
      · omega
      obtain ⟨x1, x2, x3, x4, x5, x6, x7, x8⟩ := (hops.G hLd.gw).at hlt
      have hxx := HXX.out i hlt
      generalize X i = oo at x1 x2 x3 x4 x5 x6 x7 x8 hxx
      obtain ⟨okd, owho, ox, ost, orr, omd⟩ := oo
      dsimp only at x1 x2 x3 x4 x5 x6 x7 x8 hxx
      have i1 : (i : Int) < (N : Int) := by omega
      have hwn : wrap64 ((i : Int) + 1) = (i : Int) + 1 := by unfold wrap64; omega
      have HWN := hide hwn
      have KS := hide (steps_all hLd hbk okd owho ox ost orr omd hxx.1 hxx.2.2.1 hxx.2.2.2 hxx.2.1 HL.out HLR.out (by omega) (by omega))
      have HLT := hide hlt
      have HLE : Hid (live.length ≤ i ∧ res.length ≤ i) := ⟨hll, hrl⟩
      clear hi hll hrl hLd hbk hnN hlt hops hxx hwn
      go_wp2_with (first | (go_at_call 10; refine Hid.out ?_) | fail)
      unfold Hid
      refine KS.out.mono ?_
      rintro e w4 ⟨rfl, s', m', live', res', va', vr', a1, a2, a3, a4⟩
      have H4 : Hid (live'.length ≤ i + 1 ∧ res'.length ≤ i + 1) := ⟨by have := HLE.out.1; omega, by have := HLE.out.2; omega⟩
      have HX : Hid (Ld W w4 b t lo s' m' live' res' va' vr' L LR ∧ Bk m' live') := ⟨a3, a4⟩
      have HLI : Hid (live'.length * L.length < 2000000000000) := HLL.out _ (by have := H4.out.1; have := HLT.out; omega)
      clear a1 a2 a3 a4 KS x1 x2 x3 x4 x5 x6 x7 x8
      have KA := hide (apart_ld HX.out.1 HL.out)
      go_wp2_with (first | (go_at_call 21; refine Hid.out ?_) | fail)
      unfold Hid
      refine KA.out.mono ?_
      rintro e wa ⟨rfl, hga⟩
      have HXA := hide (HX.out.1.G hga)
      clear KA
      have KD := hide (downwards_ld HXA.out HX.out.2 HL.out HLI.out)
      go_wp2_with (first | (go_at_call 22; refine Hid.out ?_) | fail)
      unfold Hid
      refine KD.out.mono ?_
      rintro e wd ⟨rfl, hgd⟩
      have HXD := hide (HXA.out.G hgd)
      clear KD
      have KB := hide (blocked_ld HXD.out HX.out.2 HL.out HLI.out)
      go_wp2_with (first | (go_at_call 23; refine Hid.out ?_) | fail)
      unfold Hid
      refine KB.out.mono ?_
      rintro e wb ⟨rfl, hgb⟩
      have HXB := hide (HXD.out.G hgb)
      clear KB hga hgd hgb HXA HXD
      go_wp2_with fail
      exact ⟨⟨i + 1, HLT.out, by rw [HWN.out]; exact rl1 i, s', m', live', res', va', vr', H4.out.1, H4.out.2, HXB.out, HX.out.2⟩, by rw [HWN.out]; exact ms_end HLT.out⟩
    · have hne : i = N := by omega
      subst hne
      have i1 : ¬ ((i : Int) < (i : Int)) := by omega
      have HX : Hid (Ld W wr b t lo s m live res va vr L LR ∧ Bk m live ∧ live.length ≤ i ∧ res.length ≤ i) := ⟨hLd, hbk, hll, hrl⟩
      clear hi hlt hll hrl hLd hbk hnN
      go_wp2_with fail
      go_loopw [] (fun wr => ∃ s m live res va vr, Ld W wr b t lo s m live res va vr L LR ∧ Bk m live ∧ live.length ≤ i) (fun wr => lvLen b wr)
      case atStart => exact ⟨s, m, live, res, va, vr, HX.out.1, HX.out.2.1, HX.out.2.2.1⟩
      case round =>
        clear HX
        obtain ⟨s, m, live, res, va, vr, hLd, hbk, hle⟩ := hrel
        obtain ⟨aa, ac, rfl⟩ := hLd.sg.lf.form
        have hbc := hLd.sg.blk.cell
        have HX : Hid (Ld W wr b t lo s m live res (.slice aa live.length ac) vr L LR ∧ Bk m live ∧ live.length ≤ i) := ⟨hLd, hbk, hle⟩
        have HW : Hid (G W wr) := hLd.gw
        by_cases hn0 : live.length = 0
        · have hnil : live = [] := List.eq_nil_of_length_eq_zero hn0
          subst hnil
          have KB : Hid (Calls Tryz.prog 14 #[ptr t, I 1, I 1] wr fun e w' => e = .returned (I 0) ∧ G W w') := by
            have h1 := hLd.gt
            refine (begin_any t s 1 1 wr h1.tt (by unfold R64; omega) (by omega) (by omega) (fun y p hy => (h1.iv.lv y p.m (h1.ab.at hy)).xr) L (fun y p hy => (h1.iv.lv y p.m (h1.ab.at hy)).xl) (by have := HL.out; have hmx : (4100000000000 : Nat) ≤ maxLen := of_decide_eq_true (by kernel_rfl); omega)).mono ?_
            rintro e w' (⟨⟨y, q, hq, he⟩, -⟩ | ⟨-, rfl, s', p, -, -, -, -, hE⟩)
            · have h2 := (hbk.mem y q.m.stamp).2 ⟨q.m, h1.ab.at hq, rfl⟩
              cases h2
            · exact ⟨rfl, hLd.gext hE⟩
          clear hLd hbk hle hn0 HX
          go_wp2_with (first | (go_at_call 14; with_reducible refine KB.out.mono ?_; rintro e w9 ⟨rfl, hg9⟩) | fail)
          go_ret
          exact ⟨rfl, hg9⟩
        · obtain ⟨⟨x, st⟩, hx⟩ : ∃ a, live[0]? = some a := ⟨_, List.getElem?_eq_getElem (by omega)⟩
          obtain ⟨p, hp, -⟩ := (hbk.mem x st).1 (List.mem_of_getElem? hx)
          obtain ⟨ga, hga, kx, -⟩ := hLd.sg.lf.at hx
          subst hga
          rw [Nat.zero_mul] at kx
          have hl0 : (0 : Int) < (live.length : Int) := by omega
          have hl00 : 0 < live.length := by omega
          have d0 : ((live.length : Int) == 0) = false := by simp only [beq_eq_false_iff_ne]; omega
          have d0b : ¬ ((live.length : Int) = 0) := by omega
          by_cases hn1 : live.length = 1
          · have d1 : ¬ ((1 : Int) < (live.length : Int)) := by omega
            have d2 : ¬ (1 < live.length) := by omega
            have hone : live = [(x, st)] := by
              obtain ⟨a, ha⟩ := List.length_eq_one_iff.1 hn1
              rw [ha] at hx ⊢
              simp at hx
              rw [hx]
            have hgo := alone_done hLd.gt.iv (by rw [← hone]; exact hbk) hp
            have KW : Hid (∀ U, G wr U → Calls Tryz.prog 16 #[ptr t, I x] U fun e w' => e = .returned (.tuple #[.agg #[I p.at_.lv, .string p.at_.lb, I p.at_.id], I 0, I 0]) ∧ G U w') := fun U gU => by
              have := waiting_t (hLd.gt.G gU) hp
              rw [hgo] at this
              exact this
            have HCC : Hid (∀ U, G wr U → (∀ o, U.cell? ⟨b, o, none⟩ = ([ptr t, .slice (some ⟨ga, 0, none⟩) live.length ac, vr] : List Value)[o]?) ∧ U.cell? ⟨ga, 0, none⟩ = some (I x)) := fun U gU => by
              have hU := hLd.G gU
              refine ⟨hU.sg.blk.cell, ?_⟩
              obtain ⟨gb, hgb, k, -⟩ := hU.sg.lf.at hx
              have e : ga = gb := by simpa using hgb
              rw [e]
              rw [Nat.zero_mul] at k
              exact k
            clear hLd hbk hle hn0 hn1 hone hgo hx hp HX
            go_wp2_with fail
            go_upto_region 16 with fail
            clear hbc kx
            refine wp_region_noPanic ?_
            refine wp_region_held_drew (S := (fun U => G wr U)) (by kernel_rfl) ((G.refl wr).drew) (fun hHeld => ?_)
            refine wpAnyH_take (i := 0) (v := ?_) rfl (by kernel_rfl) (by kernel_rfl) (by kernel_rfl) (fun _ _ _ h => h) (Or.inl ⟨by rfl, ?_⟩) hHeld ?_
            rotate_left 1
            · (intro w hSw; obtain ⟨q1, q2⟩ := HCC.out _ hSw; go_simp; try with_reducible rfl)
            try simp only [Act.put, List.getElem_toArray, List.getElem_cons_zero, List.setIfInBounds_toArray, List.set_cons_zero, List.set_cons_succ]
            refine wpAnyH_take (i := 1) (v := ?_) rfl (by kernel_rfl) (by kernel_rfl) (by kernel_rfl) (fun _ _ _ h => h) (Or.inl ⟨by rfl, ?_⟩) hHeld ?_
            rotate_left 1
            · (intro w hSw; obtain ⟨q1, q2⟩ := HCC.out _ hSw; go_simp; try with_reducible rfl)
            try simp only [Act.put, List.getElem_toArray, List.getElem_cons_zero, List.getElem_cons_succ, List.setIfInBounds_toArray, List.set_cons_zero, List.set_cons_succ]
            refine wpAnyH_take (i := 2) (v := ?_) rfl (by kernel_rfl) (by kernel_rfl) (by kernel_rfl) (fun _ _ _ h => h) (Or.inl ⟨by rfl, ?_⟩) hHeld ?_
            rotate_left 1
            · (intro w hSw; obtain ⟨q1, q2⟩ := HCC.out _ hSw; go_simp; try with_reducible rfl)
            try simp only [Act.put, List.getElem_toArray, List.getElem_cons_zero, List.getElem_cons_succ, List.setIfInBounds_toArray, List.set_cons_zero, List.set_cons_succ]
            refine wpAnyH_take (i := 3) (v := ?_) rfl (by kernel_rfl) (by kernel_rfl) (by kernel_rfl) (fun _ _ _ h => h) (Or.inl ⟨by rfl, ?_⟩) hHeld ?_
            rotate_left 1
            · (intro w hSw; obtain ⟨q1, q2⟩ := HCC.out _ hSw; go_simp; try with_reducible rfl)
            try simp only [Act.put, List.getElem_toArray, List.getElem_cons_zero, List.getElem_cons_succ, List.setIfInBounds_toArray, List.set_cons_zero, List.set_cons_succ]
            refine wpAnyH_take (i := 4) (v := ?_) rfl (by kernel_rfl) (by kernel_rfl) (by kernel_rfl) (fun _ _ _ h => h) (Or.inl ⟨by rfl, ?_⟩) hHeld ?_
            rotate_left 1
            · (intro w hSw; obtain ⟨q1, q2⟩ := HCC.out _ hSw; go_simp; try with_reducible rfl)
            try simp only [Act.put, List.getElem_toArray, List.getElem_cons_zero, List.getElem_cons_succ, List.setIfInBounds_toArray, List.set_cons_zero, List.set_cons_succ]
            refine wpAnyH_take (i := 5) (v := ?_) rfl (by kernel_rfl) (by kernel_rfl) (by kernel_rfl) (fun _ _ _ h => h) (Or.inl ⟨by rfl, ?_⟩) hHeld ?_
            rotate_left 1
            · (intro w hSw; obtain ⟨q1, q2⟩ := HCC.out _ hSw; go_simp; try with_reducible rfl)
            try simp only [Act.put, List.getElem_toArray, List.getElem_cons_zero, List.getElem_cons_succ, List.setIfInBounds_toArray, List.set_cons_zero, List.set_cons_succ]
            refine wpAnyH_take (i := 6) (v := ?_) rfl (by kernel_rfl) (by kernel_rfl) (by kernel_rfl) (fun _ _ _ h => h) (Or.inl ⟨by rfl, ?_⟩) hHeld ?_
            rotate_left 1
            · (intro w hSw; obtain ⟨q1, q2⟩ := HCC.out _ hSw; go_simp; try with_reducible rfl)
            try simp only [Act.put, List.getElem_toArray, List.getElem_cons_zero, List.getElem_cons_succ, List.setIfInBounds_toArray, List.set_cons_zero, List.set_cons_succ]
            refine wpAnyH_take (i := 7) (v := ?_) rfl (by kernel_rfl) (by kernel_rfl) (by kernel_rfl) (fun _ _ _ h => h) (Or.inl ⟨by rfl, ?_⟩) hHeld ?_
            rotate_left 1
            · (intro w hSw; obtain ⟨q1, q2⟩ := HCC.out _ hSw; go_simp; try with_reducible rfl)
            try simp only [Act.put, List.getElem_toArray, List.getElem_cons_zero, List.getElem_cons_succ, List.setIfInBounds_toArray, List.set_cons_zero, List.set_cons_succ]
            refine wpAnyH_take (i := 8) (v := ?_) rfl (by kernel_rfl) (by kernel_rfl) (by kernel_rfl) (fun _ _ _ h => h) (Or.inl ⟨by rfl, ?_⟩) hHeld ?_
            rotate_left 1
            · (intro w hSw; obtain ⟨q1, q2⟩ := HCC.out _ hSw; go_simp; try with_reducible rfl)
            try simp only [Act.put, List.getElem_toArray, List.getElem_cons_zero, List.getElem_cons_succ, List.setIfInBounds_toArray, List.set_cons_zero, List.set_cons_succ]
            refine wpAnyH_take (i := 9) (v := ?_) rfl (by kernel_rfl) (by kernel_rfl) (by kernel_rfl) (fun _ _ _ h => h) (Or.inl ⟨by rfl, ?_⟩) hHeld ?_
            rotate_left 1
            · (intro w hSw; obtain ⟨q1, q2⟩ := HCC.out _ hSw; go_simp; try with_reducible rfl)
            try simp only [Act.put, List.getElem_toArray, List.getElem_cons_zero, List.getElem_cons_succ, List.setIfInBounds_toArray, List.set_cons_zero, List.set_cons_succ]
            refine wpAnyH_take (i := 10) (v := ?_) rfl (by kernel_rfl) (by kernel_rfl) (by kernel_rfl) (fun _ _ _ h => h) (Or.inl ⟨by rfl, ?_⟩) hHeld ?_
            rotate_left 1
            · (intro w hSw; obtain ⟨q1, q2⟩ := HCC.out _ hSw; go_simp; try with_reducible rfl)
            try simp only [Act.put, List.getElem_toArray, List.getElem_cons_zero, List.getElem_cons_succ, List.setIfInBounds_toArray, List.set_cons_zero, List.set_cons_succ]
            refine wpAnyH_ready (rs := [11, 16]) (by kernel_rfl) (by simp) (AllReadyH.cons rfl (fun K hK => ?_) (AllReadyH.cons rfl (fun K hK => ?_) AllReadyH.nil))
            · -- the call, then the variable
              have hgc := hHeld
              clear hHeld
              go_simp
              with_reducible refine (KW.out _ hgc).mono ?_
              rintro e w3 ⟨rfl, hg3⟩
              have HC3 := hide hg3
              have HG3 := hide (hgc.trans hg3)
              clear hg3 hgc
              refine hK.out _ _ (HG3.out) (fun hHeld => ?_)
              clear hK K
              try simp only [Act.put, List.getElem_toArray, List.getElem_cons_zero, List.getElem_cons_succ, List.setIfInBounds_toArray, List.set_cons_zero, List.set_cons_succ]
              refine wpAnyH_take (i := 12) (v := ?_) rfl (by kernel_rfl) (by kernel_rfl) (by kernel_rfl) (fun _ _ _ h => h) (Or.inl ⟨by rfl, ?_⟩) hHeld ?_
              rotate_left 1
              · (intro w hSw; go_simp; try with_reducible rfl)
              try simp only [Act.put, List.getElem_toArray, List.getElem_cons_zero, List.getElem_cons_succ, List.setIfInBounds_toArray, List.set_cons_zero, List.set_cons_succ]
              refine wpAnyH_take (i := 13) (v := ?_) rfl (by kernel_rfl) (by kernel_rfl) (by kernel_rfl) (fun _ _ _ h => h) (Or.inl ⟨by rfl, ?_⟩) hHeld ?_
              rotate_left 1
              · (intro w hSw; go_simp; try with_reducible rfl)
              try simp only [Act.put, List.getElem_toArray, List.getElem_cons_zero, List.getElem_cons_succ, List.setIfInBounds_toArray, List.set_cons_zero, List.set_cons_succ]
              refine wpAnyH_take (i := 14) (v := ?_) rfl (by kernel_rfl) (by kernel_rfl) (by kernel_rfl) (fun _ _ _ h => h) (Or.inl ⟨by rfl, ?_⟩) hHeld ?_
              rotate_left 1
              · (intro w hSw; go_simp; try with_reducible rfl)
              try simp only [Act.put, List.getElem_toArray, List.getElem_cons_zero, List.getElem_cons_succ, List.setIfInBounds_toArray, List.set_cons_zero, List.set_cons_succ]
              refine wpAnyH_take (i := 15) (v := ?_) rfl (by kernel_rfl) (by kernel_rfl) (by kernel_rfl) (fun _ _ _ h => h) (Or.inl ⟨by rfl, ?_⟩) hHeld ?_
              rotate_left 1
              · (intro w hSw; go_simp; try with_reducible rfl)
              try simp only [Act.put, List.getElem_toArray, List.getElem_cons_zero, List.getElem_cons_succ, List.setIfInBounds_toArray, List.set_cons_zero, List.set_cons_succ]
              refine wpAnyH_ready (rs := [16]) (by kernel_rfl) (by simp) (AllReadyH.cons rfl (fun K hK => ?_) AllReadyH.nil)
              clear hHeld
              go_simp
              obtain ⟨w4, hw4⟩ : ∃ w4, w4 = w3.alloc (.cells #[I 0, .string { data := #[] }, I 0] 24) := ⟨_, rfl⟩
              rw [← hw4]
              have H4 : Hid (Blk w4 w3.heap.size 24 [I 0, .string { data := #[] }, I 0] ∧ G wr w4 ∧ wr.heap.size ≤ w3.heap.size) := by rw [hw4]; exact ⟨Blk.new w3 [I 0, .string { data := #[] }, I 0] 24, HG3.out.alloc _, HG3.out.size⟩
              obtain ⟨xb, hxb⟩ : ∃ xb, xb = w3.heap.size := ⟨_, rfl⟩
              rw [← hxb] at H4 ⊢
              clear hw4 hxb
              refine hK.out _ _ (H4.out.2.1) (fun hHeld => ?_)
              clear hK K
              try simp only [Act.put, List.getElem_toArray, List.getElem_cons_zero, List.getElem_cons_succ, List.setIfInBounds_toArray, List.set_cons_zero, List.set_cons_succ]
              refine wpAnyH_ready (rs := [17]) (by kernel_rfl) (by simp) (AllReadyH.cons rfl (fun K hK => ?_) AllReadyH.nil)
              clear hHeld
              have hcR := H4.out.1.cell
              have hzR := H4.out.1.frozen
              go_simp
              have H5 := hide (sets3 (I p.at_.lv) (.string p.at_.lb) (I p.at_.id) H4.out.1 H4.out.2.1 H4.out.2.2)
              clear hcR hzR H4
              show K _ (W3 w4 xb (I p.at_.lv) (.string p.at_.lb) (I p.at_.id))
              generalize W3 w4 xb (I p.at_.lv) (.string p.at_.lb) (I p.at_.id) = w5 at H5 ⊢
              refine hK.out _ _ (H5.out.2.1) (fun hHeld => ?_)
              clear hK K
              try simp only [Act.put, List.getElem_toArray, List.getElem_cons_zero, List.getElem_cons_succ, List.setIfInBounds_toArray, List.set_cons_zero, List.set_cons_succ]
              refine wpAnyH_take (i := 18) (v := ?_) rfl (by kernel_rfl) (by kernel_rfl) (by kernel_rfl) (fun _ _ _ h => h) (Or.inl ⟨by rfl, ?_⟩) hHeld ?_
              rotate_left 1
              · (intro w hSw; go_simp; try with_reducible rfl)
              try simp only [Act.put, List.getElem_toArray, List.getElem_cons_zero, List.getElem_cons_succ, List.setIfInBounds_toArray, List.set_cons_zero, List.set_cons_succ]
              refine wpAnyH_take (i := 19) (v := ?_) rfl (by kernel_rfl) (by kernel_rfl) (by kernel_rfl) (fun _ _ _ h => h) (Or.inl ⟨by rfl, ?_⟩) hHeld ?_
              rotate_left 1
              · (intro w hSw; go_simp; try with_reducible rfl)
              try simp only [Act.put, List.getElem_toArray, List.getElem_cons_zero, List.getElem_cons_succ, List.setIfInBounds_toArray, List.set_cons_zero, List.set_cons_succ]
              refine wpAnyH_done (by kernel_rfl) ?_ _
              refine NoPanic.normal ?_
              clear hHeld
              go_wp2_with fail
              go_ret
              exact ⟨rfl, HW.out.trans H5.out.2.1⟩
            · -- the variable, then the call
              clear hHeld
              go_simp
              obtain ⟨w9, hw9⟩ : ∃ w9, w9 = (wr.alloc (.cells #[I 0, .string { data := #[] }, I 0] 24)).drew := ⟨_, rfl⟩
              rw [← hw9]
              have H9 : Hid (Blk w9 wr.heap.size 24 [I 0, .string { data := #[] }, I 0] ∧ G wr w9) := by rw [hw9]; exact ⟨(Blk.new wr [I 0, .string { data := #[] }, I 0] 24).drew, ((G.refl wr).alloc _).drew⟩
              clear hw9
              refine hK.out _ _ (H9.out.2) (fun hHeld => ?_)
              clear hK K
              try simp only [Act.put, List.getElem_toArray, List.getElem_cons_zero, List.getElem_cons_succ, List.setIfInBounds_toArray, List.set_cons_zero, List.set_cons_succ]
              refine wpAnyH_ready (rs := [11]) (by kernel_rfl) (by simp) (AllReadyH.cons rfl (fun K hK => ?_) AllReadyH.nil)
              have hgc := hHeld
              clear hHeld
              go_simp
              with_reducible refine (KW.out _ hgc).mono ?_
              rintro e w4 ⟨rfl, hg3⟩
              have HC4 := hide hg3
              have HG4 := hide (hgc.trans hg3)
              clear hg3 hgc
              have H4 : Hid (Blk w4 wr.heap.size 24 [I 0, .string { data := #[] }, I 0] ∧ G wr w4 ∧ wr.heap.size ≤ wr.heap.size) := ⟨H9.out.1.G HC4.out, HG4.out, Nat.le_refl _⟩
              clear H9 HC4
              refine hK.out _ _ (H4.out.2.1) (fun hHeld => ?_)
              clear hK K
              try simp only [Act.put, List.getElem_toArray, List.getElem_cons_zero, List.getElem_cons_succ, List.setIfInBounds_toArray, List.set_cons_zero, List.set_cons_succ]
              refine wpAnyH_take (i := 12) (v := ?_) rfl (by kernel_rfl) (by kernel_rfl) (by kernel_rfl) (fun _ _ _ h => h) (Or.inl ⟨by rfl, ?_⟩) hHeld ?_
              rotate_left 1
              · (intro w hSw; go_simp; try with_reducible rfl)
              try simp only [Act.put, List.getElem_toArray, List.getElem_cons_zero, List.getElem_cons_succ, List.setIfInBounds_toArray, List.set_cons_zero, List.set_cons_succ]
              refine wpAnyH_take (i := 13) (v := ?_) rfl (by kernel_rfl) (by kernel_rfl) (by kernel_rfl) (fun _ _ _ h => h) (Or.inl ⟨by rfl, ?_⟩) hHeld ?_
              rotate_left 1
              · (intro w hSw; go_simp; try with_reducible rfl)
              try simp only [Act.put, List.getElem_toArray, List.getElem_cons_zero, List.getElem_cons_succ, List.setIfInBounds_toArray, List.set_cons_zero, List.set_cons_succ]
              refine wpAnyH_take (i := 14) (v := ?_) rfl (by kernel_rfl) (by kernel_rfl) (by kernel_rfl) (fun _ _ _ h => h) (Or.inl ⟨by rfl, ?_⟩) hHeld ?_
              rotate_left 1
              · (intro w hSw; go_simp; try with_reducible rfl)
              try simp only [Act.put, List.getElem_toArray, List.getElem_cons_zero, List.getElem_cons_succ, List.setIfInBounds_toArray, List.set_cons_zero, List.set_cons_succ]
              refine wpAnyH_take (i := 15) (v := ?_) rfl (by kernel_rfl) (by kernel_rfl) (by kernel_rfl) (fun _ _ _ h => h) (Or.inl ⟨by rfl, ?_⟩) hHeld ?_
              rotate_left 1
              · (intro w hSw; go_simp; try with_reducible rfl)
              try simp only [Act.put, List.getElem_toArray, List.getElem_cons_zero, List.getElem_cons_succ, List.setIfInBounds_toArray, List.set_cons_zero, List.set_cons_succ]
              refine wpAnyH_ready (rs := [17]) (by kernel_rfl) (by simp) (AllReadyH.cons rfl (fun K hK => ?_) AllReadyH.nil)
              clear hHeld
              have hcR := H4.out.1.cell
              have hzR := H4.out.1.frozen
              go_simp
              have H5 := hide (sets3 (I p.at_.lv) (.string p.at_.lb) (I p.at_.id) H4.out.1 H4.out.2.1 H4.out.2.2)
              clear hcR hzR H4
              show K _ (W3 w4 (wr.heap.size) (I p.at_.lv) (.string p.at_.lb) (I p.at_.id))
              generalize W3 w4 (wr.heap.size) (I p.at_.lv) (.string p.at_.lb) (I p.at_.id) = w5 at H5 ⊢
              refine hK.out _ _ (H5.out.2.1) (fun hHeld => ?_)
              clear hK K
              try simp only [Act.put, List.getElem_toArray, List.getElem_cons_zero, List.getElem_cons_succ, List.setIfInBounds_toArray, List.set_cons_zero, List.set_cons_succ]
              refine wpAnyH_take (i := 18) (v := ?_) rfl (by kernel_rfl) (by kernel_rfl) (by kernel_rfl) (fun _ _ _ h => h) (Or.inl ⟨by rfl, ?_⟩) hHeld ?_
              rotate_left 1
              · (intro w hSw; go_simp; try with_reducible rfl)
              try simp only [Act.put, List.getElem_toArray, List.getElem_cons_zero, List.getElem_cons_succ, List.setIfInBounds_toArray, List.set_cons_zero, List.set_cons_succ]
              refine wpAnyH_take (i := 19) (v := ?_) rfl (by kernel_rfl) (by kernel_rfl) (by kernel_rfl) (fun _ _ _ h => h) (Or.inl ⟨by rfl, ?_⟩) hHeld ?_
              rotate_left 1
              · (intro w hSw; go_simp; try with_reducible rfl)
              try simp only [Act.put, List.getElem_toArray, List.getElem_cons_zero, List.getElem_cons_succ, List.setIfInBounds_toArray, List.set_cons_zero, List.set_cons_succ]
              refine wpAnyH_done (by kernel_rfl) ?_ _
              refine NoPanic.normal ?_
              clear hHeld
              generalize hxb : wr.heap.size = xb at H5 ⊢
              replace H5 : Hid (Blk w5 xb 24 [I p.at_.lv, .string p.at_.lb, I p.at_.id] ∧ G wr w5 ∧ wr.heap.size ≤ xb) := ⟨H5.out.1, H5.out.2.1, Nat.le_of_eq hxb⟩
              clear hxb
              go_wp2_with fail
              go_ret
              exact ⟨rfl, HW.out.trans H5.out.2.1⟩
          · have d1 : (1 : Int) < (live.length : Int) := by omega
            have d2 : 1 < live.length := by omega
            have KE := hide (end_ld hLd hbk hp HL.out HLR.out)
            have HLESS := hide (noX_less hx)
            have HOLD := hide (lvLen_eq hLd)
            clear hLd hbk hn0 hn1 hx hp hle
            go_wp2_with (first | (go_at_call 24; refine Hid.out ?_) | fail)
            unfold Hid
            refine KE.out.mono ?_
            rintro e w4 ⟨rfl, s', m', res', va', vr', -, a3, a4⟩
            have HY : Hid (Ld W w4 b t lo s' m' (noX x live) res' va' vr' L LR ∧ Bk m' (noX x live)) := ⟨a3, a4⟩
            have HLI : Hid ((noX x live).length * L.length < 2000000000000) := HLL.out _ (by have h1 := HLESS.out; have h2 := HX.out.2.2; omega)
            clear a3 a4 KE hbc kx
            have KA := hide (apart_ld HY.out.1 HL.out)
            go_wp2_with (first | (go_at_call 21; refine Hid.out ?_) | fail)
            unfold Hid
            refine KA.out.mono ?_
            rintro e wa ⟨rfl, hga⟩
            have HXA := hide (HY.out.1.G hga)
            clear KA
            have KD := hide (downwards_ld HXA.out HY.out.2 HL.out HLI.out)
            go_wp2_with (first | (go_at_call 22; refine Hid.out ?_) | fail)
            unfold Hid
            refine KD.out.mono ?_
            rintro e wd ⟨rfl, hgd⟩
            have HXD := hide (HXA.out.G hgd)
            clear KD
            have KB := hide (blocked_ld HXD.out HY.out.2 HL.out HLI.out)
            go_wp2_with (first | (go_at_call 23; refine Hid.out ?_) | fail)
            unfold Hid
            refine KB.out.mono ?_
            rintro e wb ⟨rfl, hgb⟩
            have HXB := hide (HXD.out.G hgb)
            clear KB hga hgd hgb HXA HXD
            have HNEW := hide (lvLen_eq HXB.out)
            go_wp2_with fail
            exact ⟨⟨s', m', noX x live, res', va', vr', HXB.out, HY.out.2, by have h1 := HLESS.out; have h2 := HX.out.2.2; omega⟩, by rw [HNEW.out, HOLD.out]; exact HLESS.out⟩
end Go.Proofs.YtkbgifhhnnfgoaaGreatDoor
