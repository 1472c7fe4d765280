/- Locks: the book's Ask. -/
import Derived.Test.YtkbgifhhnnfgoaaGreatDoorLk70
import Derived.Deep.CutRange
namespace Go.Proofs.YtkbgifhhnnfgoaaGreatDoor
open Go.RowKit

theorem nodup_sub_le : ∀ (l L : List Int), l.Nodup → (∀ a ∈ l, a ∈ L) → l.length ≤ L.length
  | [], L, _, _ => Nat.zero_le _
  | a :: l, L, hn, hs => by
    have ha := hs a (List.mem_cons_self ..)
    have hp := (List.perm_cons_erase ha).length_eq
    have h1 := nodup_sub_le l (L.erase a) (List.nodup_cons.1 hn).2 (fun c hc => (List.mem_erase_of_ne (fun e => (List.nodup_cons.1 hn).1 (by rw [← e]; exact hc))).2 (hs c (List.mem_cons_of_mem _ hc)))
    rw [hp]
    simp only [List.length_cons]
    omega
/-- What a step of the book's leaves. -/
def StepP (W0 : World) (b t lo : Nat) (live : List (Int × Int)) (n : Nat) (L : List Int) (LR : List Rs) (e : Ending) (w' : World) : Prop :=
  e = .returned (.bool true) ∧ ∃ s m res va vr, res.length ≤ n + 1 ∧ Ld W0 w' b t lo s m live res va vr L LR ∧ Bk m live
section
variable {m m' : Ms} {live : List (Int × Int)} {L : List Int} {LR : List Rs} {x : Int}
theorem hurtL_mem (hb : Bk m live) {y : Int} : y ∈ hurtL m live ↔ ∃ p, m.lv y = some p ∧ p.hurt = true := by
  unfold hurtL
  rw [List.mem_map]
  constructor
  · rintro ⟨⟨a, c⟩, ha, rfl⟩
    obtain ⟨h1, h2⟩ := List.mem_filter.1 ha
    obtain ⟨p, hp, -⟩ := (hb.mem a c).1 h1
    refine ⟨p, hp, ?_⟩
    have h2 : hurtB m a = true := h2
    unfold hurtB at h2
    rw [hp] at h2
    exact h2
  · rintro ⟨p, hp, hh⟩
    refine ⟨(y, p.stamp), List.mem_filter.2 ⟨(hb.mem y p.stamp).2 ⟨p, hp, rfl⟩, ?_⟩, rfl⟩
    show hurtB m y = true
    unfold hurtB
    rw [hp]
    exact hh
theorem live_le (hb : Bk m live) {l : List Int} (hn : l.Nodup) (hl : ∀ y ∈ l, ∃ p, m.lv y = some p) : l.length ≤ live.length := by
  have := nodup_sub_le l (live.map Prod.fst) hn (fun y hy => by
    obtain ⟨p, hp⟩ := hl y hy
    exact List.mem_map.2 ⟨(y, p.stamp), (hb.mem y p.stamp).2 ⟨p, hp, rfl⟩, rfl⟩)
  rw [List.length_map] at this
  exact this
/-- What wounds asks of an Ask. -/
theorem AskK.wounds {p : Pm} (hI : Iv m L LR) (hp : m.lv x = some p) {r : Rs} {mode k : Int} {l : List Int} {c : Int} (h : AskK m x p r mode k l c m') (hb : Bk m live) :
    (∀ y ∈ l, y ∉ hurtL m live) ∧ (∀ y ∈ l, ∃ p, m'.lv y = some p ∧ p.hurt = true ∧ oldL 0 live < p.stamp ∧ ∀ z, p.wd z = true → stampL live z < p.stamp) ∧ l.Pairwise (· < ·) ∧ l.length ≤ live.length := by
  have triv : l = [] → (∀ y ∈ l, y ∉ hurtL m live) ∧ (∀ y ∈ l, ∃ p, m'.lv y = some p ∧ p.hurt = true ∧ oldL 0 live < p.stamp ∧ ∀ z, p.wd z = true → stampL live z < p.stamp) ∧ l.Pairwise (· < ·) ∧ l.length ≤ live.length := fun e => by
    subst e
    exact ⟨fun y hy => (by cases hy), fun y hy => (by cases hy), List.Pairwise.nil, Nat.zero_le _⟩
  rcases h with ⟨-, -, -, e, -⟩ | ⟨-, -, ⟨-, -, e, -⟩ | ⟨-, h⟩⟩
  · exact triv e
  · exact triv e
  · have ho := h.older hp
    refine ⟨fun y hy => ?_, fun y hy => ?_, h.2.1, live_le hb (h.2.1.imp (fun q e => by omega)) (fun y hy => ?_)⟩
    · obtain ⟨c, c', h1, h2, -⟩ := ho y hy
      rw [hurtL_mem hb]
      rintro ⟨q, hq, hh⟩
      rw [h1] at hq
      cases hq
      rw [h2] at hh; cases hh
    · obtain ⟨c, c', h1, h2, h3, h4, h5, h6⟩ := ho y hy
      refine ⟨c', h3, h4, ?_, fun z hz => ?_⟩
      · obtain ⟨z, hz⟩ := Pm.hurt_iff.1 h4
        obtain ⟨d, hd, hlt⟩ := h6 z hz
        have := hb.oldest hI hd
        omega
      · obtain ⟨d, hd, hlt⟩ := h6 z hz
        rw [stampL_bk hb hd]
        omega
    · obtain ⟨c, c', h1, -⟩ := ho y hy
      exact ⟨c, h1⟩
end
theorem resP_ne {r : Rs} (h : ResP r) : r.lv ≠ 0 := by
  intro e
  unfold ResP at h
  omega
set_option maxRecDepth 100000 in
set_option maxHeartbeats 2000000 in
theorem ask_ld {W0 w : World} {b t lo : Nat} {s : Gs} {m : Ms} {live : List (Int × Int)} {res : List Rs} {va vr : Value} {L : List Int} {LR : List Rs} (h : Ld W0 w b t lo s m live res va vr L LR) (hbk : Bk m live) {x : Int} {p : Pm} (hp : m.lv x = some p) {r : Rs} (hr : GoodR r LR) {mode : Int} (hm : modeB mode = true) (hL : L.length < 2000000000000) (hLR : LR.length < 2000000000000) (hrl : res.length + 1 < 2000000000000) (kd who st : Int) :
    Calls Tryz.prog 28 #[ptr b, .agg #[I kd, I who, I x, I st, I r.lv, .string r.lb, I r.id, I mode]] w (StepP W0 b t lo live res.length L LR) := by
  have H := hide h; have HBK := hide hbk; have HP := hide hp; have HR := hide hr; have HM := hide hm; have HL := hide hL; have HLR := hide hLR; have HRL := hide hrl
  have HOF : Hid (s.own w.heap.size = none ∧ w.heap.size ≠ b ∧ (∀ k, vr.ownBlock = some k → k ≠ w.heap.size)) := ⟨h.gt.tt.fresh (Nat.le_refl _), by have := h.sg.blk.lt; omega, fun k hk e => by have := (World.ownsRow.lt h.sg.rs k hk).2; omega⟩
  clear h hbk hp hr hm hL hLR hrl
  go_enter Tryz.func28, Tryz.ntmps28
  go_wp2_with (first | (go_at_call 18; refine Hid.out ?_) | fail)
  unfold Hid
  obtain ⟨w1, hw1⟩ : ∃ w1, w1 = w.alloc (.cells #[I kd, I who, I x, I st, I r.lv, .string r.lb, I r.id, I mode] 34) := ⟨_, rfl⟩
  rw [← hw1]
  have H1 : Hid (Blk w1 w.heap.size 34 [I kd, I who, I x, I st, I r.lv, .string r.lb, I r.id, I mode] ∧ G w w1) := by rw [hw1]; exact ⟨Blk.new w [I kd, I who, I x, I st, I r.lv, .string r.lb, I r.id, I mode] 34, (G.refl w).alloc _⟩
  clear hw1
  generalize w.heap.size = ob at H1 HOF ⊢
  refine (hurt_any b t s m L LR va vr lo live w1 (H.out.gt.G H1.out.2) (H.out.sg.G H1.out.2).blk (H.out.sg.G H1.out.2).lf HBK.out).mono ?_
  rintro e w2 ⟨hv, rfl, hrow2, hg2⟩
  have hhl := hurtL_len m live
  generalize hhe : hurtL m live = hs at hrow2 hhl
  obtain ⟨ha, hc, rfl⟩ := row_form hrow2
  have HH2 : Hid (Ld W0 w2 b t lo s m live res va vr L LR ∧ Blk w2 ob 34 [I kd, I who, I x, I st, I r.lv, .string r.lb, I r.id, I mode] ∧ w2.ownsRow w1.heap.size 3 1 (.slice ha hs.length hc) hs.length (hs.map fun z => I z) ∧ hurtL m live = hs ∧ hs.length ≤ live.length ∧ (∀ k, (Value.slice ha hs.length hc).ownBlock = some k → s.own k = none ∧ k ≠ b ∧ ∀ j, vr.ownBlock = some j → j ≠ k)) := by
    refine ⟨H.out.G (H1.out.2.trans hg2), H1.out.1.G hg2, hrow2, hhe, hhl, fun k hk => ?_⟩
    have h1 := (World.ownsRow.lt hrow2 k hk).1
    have h2 := H1.out.2.size
    refine ⟨H.out.gt.tt.fresh (by omega), by have := H.out.sg.blk.lt; omega, fun j hj e => ?_⟩
    have := (World.ownsRow.lt H.out.sg.rs j hj).2
    omega
  clear hrow2 hg2 hhe hhl H1
  have HCC : Hid (∀ U, G w2 U → (∀ o, U.cell? ⟨b, o, none⟩ = ([ptr t, va, vr] : List Value)[o]?) ∧ ∀ o, U.cell? ⟨ob, o, none⟩ = ([I kd, I who, I x, I st, I r.lv, .string r.lb, I r.id, I mode] : List Value)[o]?) := fun U gU => ⟨(HH2.out.1.sg.blk.G gU).cell, (HH2.out.2.1.G gU).cell⟩
  have KW : Hid (∀ U, G w2 U → Calls Tryz.prog 16 #[ptr t, I x] U fun e w' => e = .returned (.tuple #[.agg #[I p.at_.lv, .string p.at_.lb, I p.at_.id], I p.goal, I 0]) ∧ G U w') := fun U gU => waiting_t (HH2.out.1.gt.G gU) HP.out
  go_upto_region 2 with fail
  go_cut [6, 7, 8] from 18 to 136 (fun v1 v2 v3 W => ∃ xb, v1 = ptr xb ∧ v2 = I p.goal ∧ v3 = I 0 ∧ Blk W xb 24 [I p.at_.lv, .string p.at_.lb, I p.at_.id] ∧ G w2 W ∧ w2.heap.size ≤ xb)
  case first =>
    refine wp_region_noPanic ?_
    refine wp_region_held_drew (S := (fun U => G w2 U)) (by kernel_rfl) ((G.refl w2).drew) (fun hHeld => ?_)
    refine wpAnyH_take (i := 0) (v := ?_) rfl (by kernel_rfl) (by kernel_rfl) (by kernel_rfl) (fun _ _ _ h => h) (Or.inl ⟨by rfl, ?_⟩) hHeld ?_
    rotate_left 1
    · (intro w hSw; obtain ⟨q1, q2⟩ := HCC.out _ hSw; go_simp; try with_reducible rfl)
    try simp only [Act.put, List.getElem_toArray, List.getElem_cons_zero, List.setIfInBounds_toArray, List.set_cons_zero, List.set_cons_succ]
    refine wpAnyH_take (i := 1) (v := ?_) rfl (by kernel_rfl) (by kernel_rfl) (by kernel_rfl) (fun _ _ _ h => h) (Or.inl ⟨by rfl, ?_⟩) hHeld ?_
    rotate_left 1
    · (intro w hSw; obtain ⟨q1, q2⟩ := HCC.out _ hSw; go_simp; try with_reducible rfl)
    try simp only [Act.put, List.getElem_toArray, List.getElem_cons_zero, List.getElem_cons_succ, List.setIfInBounds_toArray, List.set_cons_zero, List.set_cons_succ]
    refine wpAnyH_take (i := 2) (v := ?_) rfl (by kernel_rfl) (by kernel_rfl) (by kernel_rfl) (fun _ _ _ h => h) (Or.inl ⟨by rfl, ?_⟩) hHeld ?_
    rotate_left 1
    · (intro w hSw; obtain ⟨q1, q2⟩ := HCC.out _ hSw; go_simp; try with_reducible rfl)
    try simp only [Act.put, List.getElem_toArray, List.getElem_cons_zero, List.getElem_cons_succ, List.setIfInBounds_toArray, List.set_cons_zero, List.set_cons_succ]
    refine wpAnyH_take (i := 3) (v := ?_) rfl (by kernel_rfl) (by kernel_rfl) (by kernel_rfl) (fun _ _ _ h => h) (Or.inl ⟨by rfl, ?_⟩) hHeld ?_
    rotate_left 1
    · (intro w hSw; obtain ⟨q1, q2⟩ := HCC.out _ hSw; go_simp; try with_reducible rfl)
    try simp only [Act.put, List.getElem_toArray, List.getElem_cons_zero, List.getElem_cons_succ, List.setIfInBounds_toArray, List.set_cons_zero, List.set_cons_succ]
    refine wpAnyH_take (i := 4) (v := ?_) rfl (by kernel_rfl) (by kernel_rfl) (by kernel_rfl) (fun _ _ _ h => h) (Or.inl ⟨by rfl, ?_⟩) hHeld ?_
    rotate_left 1
    · (intro w hSw; obtain ⟨q1, q2⟩ := HCC.out _ hSw; go_simp; try with_reducible rfl)
    try simp only [Act.put, List.getElem_toArray, List.getElem_cons_zero, List.getElem_cons_succ, List.setIfInBounds_toArray, List.set_cons_zero, List.set_cons_succ]
    refine wpAnyH_take (i := 5) (v := ?_) rfl (by kernel_rfl) (by kernel_rfl) (by kernel_rfl) (fun _ _ _ h => h) (Or.inl ⟨by rfl, ?_⟩) hHeld ?_
    rotate_left 1
    · (intro w hSw; obtain ⟨q1, q2⟩ := HCC.out _ hSw; go_simp; try with_reducible rfl)
    try simp only [Act.put, List.getElem_toArray, List.getElem_cons_zero, List.getElem_cons_succ, List.setIfInBounds_toArray, List.set_cons_zero, List.set_cons_succ]
    refine wpAnyH_ready (rs := [6, 11]) (by kernel_rfl) (by simp) (AllReadyH.cons rfl (fun K hK => ?_) (AllReadyH.cons rfl (fun K hK => ?_) AllReadyH.nil))
    · -- the call, then the variable
      have hgc := hHeld
      clear hHeld
      go_simp
      with_reducible refine (KW.out _ hgc).mono ?_
      rintro e w3 ⟨rfl, hg3⟩
      have HC3 := hide hg3
      have HG3 := hide (hgc.trans hg3)
      clear hg3 hgc
      refine hK.out _ _ (HG3.out) (fun hHeld => ?_)
      clear hK K
      try simp only [Act.put, List.getElem_toArray, List.getElem_cons_zero, List.getElem_cons_succ, List.setIfInBounds_toArray, List.set_cons_zero, List.set_cons_succ]
      refine wpAnyH_take (i := 7) (v := ?_) rfl (by kernel_rfl) (by kernel_rfl) (by kernel_rfl) (fun _ _ _ h => h) (Or.inl ⟨by rfl, ?_⟩) hHeld ?_
      rotate_left 1
      · (intro w hSw; go_simp; try with_reducible rfl)
      try simp only [Act.put, List.getElem_toArray, List.getElem_cons_zero, List.getElem_cons_succ, List.setIfInBounds_toArray, List.set_cons_zero, List.set_cons_succ]
      refine wpAnyH_take (i := 8) (v := ?_) rfl (by kernel_rfl) (by kernel_rfl) (by kernel_rfl) (fun _ _ _ h => h) (Or.inl ⟨by rfl, ?_⟩) hHeld ?_
      rotate_left 1
      · (intro w hSw; go_simp; try with_reducible rfl)
      try simp only [Act.put, List.getElem_toArray, List.getElem_cons_zero, List.getElem_cons_succ, List.setIfInBounds_toArray, List.set_cons_zero, List.set_cons_succ]
      refine wpAnyH_take (i := 9) (v := ?_) rfl (by kernel_rfl) (by kernel_rfl) (by kernel_rfl) (fun _ _ _ h => h) (Or.inl ⟨by rfl, ?_⟩) hHeld ?_
      rotate_left 1
      · (intro w hSw; go_simp; try with_reducible rfl)
      try simp only [Act.put, List.getElem_toArray, List.getElem_cons_zero, List.getElem_cons_succ, List.setIfInBounds_toArray, List.set_cons_zero, List.set_cons_succ]
      refine wpAnyH_take (i := 10) (v := ?_) rfl (by kernel_rfl) (by kernel_rfl) (by kernel_rfl) (fun _ _ _ h => h) (Or.inl ⟨by rfl, ?_⟩) hHeld ?_
      rotate_left 1
      · (intro w hSw; go_simp; try with_reducible rfl)
      try simp only [Act.put, List.getElem_toArray, List.getElem_cons_zero, List.getElem_cons_succ, List.setIfInBounds_toArray, List.set_cons_zero, List.set_cons_succ]
      refine wpAnyH_ready (rs := [11]) (by kernel_rfl) (by simp) (AllReadyH.cons rfl (fun K hK => ?_) AllReadyH.nil)
      clear hHeld
      go_simp
      obtain ⟨w4, hw4⟩ : ∃ w4, w4 = w3.alloc (.cells #[I 0, .string { data := #[] }, I 0] 24) := ⟨_, rfl⟩
      rw [← hw4]
      have H4 : Hid (Blk w4 w3.heap.size 24 [I 0, .string { data := #[] }, I 0] ∧ G w2 w4 ∧ w2.heap.size ≤ w3.heap.size) := by rw [hw4]; exact ⟨Blk.new w3 [I 0, .string { data := #[] }, I 0] 24, HG3.out.alloc _, HG3.out.size⟩
      obtain ⟨xb, hxb⟩ : ∃ xb, xb = w3.heap.size := ⟨_, rfl⟩
      rw [← hxb] at H4 ⊢
      clear hw4 hxb
      refine hK.out _ _ (H4.out.2.1) (fun hHeld => ?_)
      clear hK K
      try simp only [Act.put, List.getElem_toArray, List.getElem_cons_zero, List.getElem_cons_succ, List.setIfInBounds_toArray, List.set_cons_zero, List.set_cons_succ]
      refine wpAnyH_ready (rs := [12]) (by kernel_rfl) (by simp) (AllReadyH.cons rfl (fun K hK => ?_) AllReadyH.nil)
      clear hHeld
      have hcR := H4.out.1.cell
      have hzR := H4.out.1.frozen
      go_simp
      have H5 := hide (sets3 (I p.at_.lv) (.string p.at_.lb) (I p.at_.id) H4.out.1 H4.out.2.1 H4.out.2.2)
      clear hcR hzR H4
      show K _ (W3 w4 xb (I p.at_.lv) (.string p.at_.lb) (I p.at_.id))
      generalize W3 w4 xb (I p.at_.lv) (.string p.at_.lb) (I p.at_.id) = w5 at H5 ⊢
      refine hK.out _ _ (H5.out.2.1) (fun hHeld => ?_)
      clear hK K
      try simp only [Act.put, List.getElem_toArray, List.getElem_cons_zero, List.getElem_cons_succ, List.setIfInBounds_toArray, List.set_cons_zero, List.set_cons_succ]
      refine wpAnyH_take (i := 13) (v := ?_) rfl (by kernel_rfl) (by kernel_rfl) (by kernel_rfl) (fun _ _ _ h => h) (Or.inl ⟨by rfl, ?_⟩) hHeld ?_
      rotate_left 1
      · (intro w hSw; go_simp; try with_reducible rfl)
      try simp only [Act.put, List.getElem_toArray, List.getElem_cons_zero, List.getElem_cons_succ, List.setIfInBounds_toArray, List.set_cons_zero, List.set_cons_succ]
      refine wpAnyH_take (i := 14) (v := ?_) rfl (by kernel_rfl) (by kernel_rfl) (by kernel_rfl) (fun _ _ _ h => h) (Or.inl ⟨by rfl, ?_⟩) hHeld ?_
      rotate_left 1
      · (intro w hSw; go_simp; try with_reducible rfl)
      try simp only [Act.put, List.getElem_toArray, List.getElem_cons_zero, List.getElem_cons_succ, List.setIfInBounds_toArray, List.set_cons_zero, List.set_cons_succ]
      refine wpAnyH_done (by kernel_rfl) ?_ _
      refine NoPanic.normal ?_
      clear hHeld
      go_wp2_with fail
      go_meet
      case rel => exact ⟨xb, rfl, rfl, rfl, H5.out⟩
    · -- the variable, then the call
      clear hHeld
      go_simp
      obtain ⟨w9, hw9⟩ : ∃ w9, w9 = (w2.alloc (.cells #[I 0, .string { data := #[] }, I 0] 24)).drew := ⟨_, rfl⟩
      rw [← hw9]
      have H9 : Hid (Blk w9 w2.heap.size 24 [I 0, .string { data := #[] }, I 0] ∧ G w2 w9) := by rw [hw9]; exact ⟨(Blk.new w2 [I 0, .string { data := #[] }, I 0] 24).drew, ((G.refl w2).alloc _).drew⟩
      clear hw9
      refine hK.out _ _ (H9.out.2) (fun hHeld => ?_)
      clear hK K
      try simp only [Act.put, List.getElem_toArray, List.getElem_cons_zero, List.getElem_cons_succ, List.setIfInBounds_toArray, List.set_cons_zero, List.set_cons_succ]
      refine wpAnyH_ready (rs := [6]) (by kernel_rfl) (by simp) (AllReadyH.cons rfl (fun K hK => ?_) AllReadyH.nil)
      have hgc := hHeld
      clear hHeld
      go_simp
      with_reducible refine (KW.out _ hgc).mono ?_
      rintro e w4 ⟨rfl, hg3⟩
      have HC4 := hide hg3
      have HG4 := hide (hgc.trans hg3)
      clear hg3 hgc
      have H4 : Hid (Blk w4 w2.heap.size 24 [I 0, .string { data := #[] }, I 0] ∧ G w2 w4 ∧ w2.heap.size ≤ w2.heap.size) := ⟨H9.out.1.G HC4.out, HG4.out, Nat.le_refl _⟩
      clear H9 HC4
      refine hK.out _ _ (H4.out.2.1) (fun hHeld => ?_)
      clear hK K
      try simp only [Act.put, List.getElem_toArray, List.getElem_cons_zero, List.getElem_cons_succ, List.setIfInBounds_toArray, List.set_cons_zero, List.set_cons_succ]
      refine wpAnyH_take (i := 7) (v := ?_) rfl (by kernel_rfl) (by kernel_rfl) (by kernel_rfl) (fun _ _ _ h => h) (Or.inl ⟨by rfl, ?_⟩) hHeld ?_
      rotate_left 1
      · (intro w hSw; go_simp; try with_reducible rfl)
      try simp only [Act.put, List.getElem_toArray, List.getElem_cons_zero, List.getElem_cons_succ, List.setIfInBounds_toArray, List.set_cons_zero, List.set_cons_succ]
      refine wpAnyH_take (i := 8) (v := ?_) rfl (by kernel_rfl) (by kernel_rfl) (by kernel_rfl) (fun _ _ _ h => h) (Or.inl ⟨by rfl, ?_⟩) hHeld ?_
      rotate_left 1
      · (intro w hSw; go_simp; try with_reducible rfl)
      try simp only [Act.put, List.getElem_toArray, List.getElem_cons_zero, List.getElem_cons_succ, List.setIfInBounds_toArray, List.set_cons_zero, List.set_cons_succ]
      refine wpAnyH_take (i := 9) (v := ?_) rfl (by kernel_rfl) (by kernel_rfl) (by kernel_rfl) (fun _ _ _ h => h) (Or.inl ⟨by rfl, ?_⟩) hHeld ?_
      rotate_left 1
      · (intro w hSw; go_simp; try with_reducible rfl)
      try simp only [Act.put, List.getElem_toArray, List.getElem_cons_zero, List.getElem_cons_succ, List.setIfInBounds_toArray, List.set_cons_zero, List.set_cons_succ]
      refine wpAnyH_take (i := 10) (v := ?_) rfl (by kernel_rfl) (by kernel_rfl) (by kernel_rfl) (fun _ _ _ h => h) (Or.inl ⟨by rfl, ?_⟩) hHeld ?_
      rotate_left 1
      · (intro w hSw; go_simp; try with_reducible rfl)
      try simp only [Act.put, List.getElem_toArray, List.getElem_cons_zero, List.getElem_cons_succ, List.setIfInBounds_toArray, List.set_cons_zero, List.set_cons_succ]
      refine wpAnyH_ready (rs := [12]) (by kernel_rfl) (by simp) (AllReadyH.cons rfl (fun K hK => ?_) AllReadyH.nil)
      clear hHeld
      have hcR := H4.out.1.cell
      have hzR := H4.out.1.frozen
      go_simp
      have H5 := hide (sets3 (I p.at_.lv) (.string p.at_.lb) (I p.at_.id) H4.out.1 H4.out.2.1 H4.out.2.2)
      clear hcR hzR H4
      show K _ (W3 w4 (w2.heap.size) (I p.at_.lv) (.string p.at_.lb) (I p.at_.id))
      generalize W3 w4 (w2.heap.size) (I p.at_.lv) (.string p.at_.lb) (I p.at_.id) = w5 at H5 ⊢
      refine hK.out _ _ (H5.out.2.1) (fun hHeld => ?_)
      clear hK K
      try simp only [Act.put, List.getElem_toArray, List.getElem_cons_zero, List.getElem_cons_succ, List.setIfInBounds_toArray, List.set_cons_zero, List.set_cons_succ]
      refine wpAnyH_take (i := 13) (v := ?_) rfl (by kernel_rfl) (by kernel_rfl) (by kernel_rfl) (fun _ _ _ h => h) (Or.inl ⟨by rfl, ?_⟩) hHeld ?_
      rotate_left 1
      · (intro w hSw; go_simp; try with_reducible rfl)
      try simp only [Act.put, List.getElem_toArray, List.getElem_cons_zero, List.getElem_cons_succ, List.setIfInBounds_toArray, List.set_cons_zero, List.set_cons_succ]
      refine wpAnyH_take (i := 14) (v := ?_) rfl (by kernel_rfl) (by kernel_rfl) (by kernel_rfl) (fun _ _ _ h => h) (Or.inl ⟨by rfl, ?_⟩) hHeld ?_
      rotate_left 1
      · (intro w hSw; go_simp; try with_reducible rfl)
      try simp only [Act.put, List.getElem_toArray, List.getElem_cons_zero, List.getElem_cons_succ, List.setIfInBounds_toArray, List.set_cons_zero, List.set_cons_succ]
      refine wpAnyH_done (by kernel_rfl) ?_ _
      refine NoPanic.normal ?_
      clear hHeld
      generalize hxb : w2.heap.size = xb at H5 ⊢
      replace H5 : Hid (Blk w5 xb 24 [I p.at_.lv, .string p.at_.lb, I p.at_.id] ∧ G w2 w5 ∧ w2.heap.size ≤ xb) := ⟨H5.out.1, H5.out.2.1, Nat.le_of_eq hxb⟩
      clear hxb
      go_wp2_with fail
      go_meet
      case rel => exact ⟨xb, rfl, rfl, rfl, H5.out⟩
  case rest =>
    obtain ⟨xb, rfl, rfl, rfl, hxb, hgc, hxl⟩ := hcut
    have HC : Hid (Ld W0 wc b t lo s m live res va vr L LR ∧ Blk wc ob 34 [I kd, I who, I x, I st, I r.lv, .string r.lb, I r.id, I mode] ∧ Blk wc xb 24 [I p.at_.lv, .string p.at_.lb, I p.at_.id] ∧ wc.ownsRow w1.heap.size 3 1 (.slice ha hs.length hc) hs.length (hs.map fun z => I z)) := ⟨HH2.out.1.G hgc, HH2.out.2.1.G hgc, hxb, own_G HH2.out.2.2.1 hgc⟩
    have HSX : Hid (s.own xb = none) := HH2.out.1.gt.tt.fresh hxl
    clear hxb hgc hxl HCC KW
    have KA : Hid (Calls Tryz.prog 17 #[ptr t, I x, .agg #[I r.lv, .string r.lb, I r.id], I mode] wc.drew fun e w' => ∃ (k : Int) (u : Value) (l : List Int) (c : Int) (s' : Gs) (m' : Ms), e = .returned (.tuple #[I k, u, I c]) ∧ w'.ownsRow wc.drew.heap.size 3 1 u l.length (l.map fun z => I z) ∧ GT w' t s' m' L LR ∧ Ext wc.drew w' s s' ∧ AskK m x p r mode k l c m') := Ask_t (HC.out.1.gt.G (G.refl wc).drew) HP.out HR.out HM.out HL.out HLR.out
    go_upto_region 3 with fail
    refine wp_region_noPanic ?_
    refine wp_region_held_drew (S := (fun U => Blk U b 31 [ptr t, va, vr] ∧ Blk U ob 34 [I kd, I who, I x, I st, I r.lv, .string r.lb, I r.id, I mode])) (by kernel_rfl) (⟨HC.out.1.sg.blk.drew, HC.out.2.1.drew⟩) (fun hHeld => ?_)
    refine wpAnyH_take (i := 0) (v := ?_) rfl (by kernel_rfl) (by kernel_rfl) (by kernel_rfl) (fun _ _ _ h => h) (Or.inl ⟨by rfl, ?_⟩) hHeld ?_
    rotate_left 1
    · (intro w hSw; have q1 := hSw.1.cell; have q2 := hSw.2.cell; go_simp; try with_reducible rfl)
    try simp only [Act.put, List.getElem_toArray, List.getElem_cons_zero, List.setIfInBounds_toArray, List.set_cons_zero, List.set_cons_succ]
    refine wpAnyH_take (i := 1) (v := ?_) rfl (by kernel_rfl) (by kernel_rfl) (by kernel_rfl) (fun _ _ _ h => h) (Or.inl ⟨by rfl, ?_⟩) hHeld ?_
    rotate_left 1
    · (intro w hSw; have q1 := hSw.1.cell; have q2 := hSw.2.cell; go_simp; try with_reducible rfl)
    try simp only [Act.put, List.getElem_toArray, List.getElem_cons_zero, List.getElem_cons_succ, List.setIfInBounds_toArray, List.set_cons_zero, List.set_cons_succ]
    refine wpAnyH_take (i := 2) (v := ?_) rfl (by kernel_rfl) (by kernel_rfl) (by kernel_rfl) (fun _ _ _ h => h) (Or.inl ⟨by rfl, ?_⟩) hHeld ?_
    rotate_left 1
    · (intro w hSw; have q1 := hSw.1.cell; have q2 := hSw.2.cell; go_simp; try with_reducible rfl)
    try simp only [Act.put, List.getElem_toArray, List.getElem_cons_zero, List.getElem_cons_succ, List.setIfInBounds_toArray, List.set_cons_zero, List.set_cons_succ]
    refine wpAnyH_take (i := 3) (v := ?_) rfl (by kernel_rfl) (by kernel_rfl) (by kernel_rfl) (fun _ _ _ h => h) (Or.inl ⟨by rfl, ?_⟩) hHeld ?_
    rotate_left 1
    · (intro w hSw; have q1 := hSw.1.cell; have q2 := hSw.2.cell; go_simp; try with_reducible rfl)
    try simp only [Act.put, List.getElem_toArray, List.getElem_cons_zero, List.getElem_cons_succ, List.setIfInBounds_toArray, List.set_cons_zero, List.set_cons_succ]
    refine wpAnyH_take (i := 4) (v := ?_) rfl (by kernel_rfl) (by kernel_rfl) (by kernel_rfl) (fun _ _ _ h => h) (Or.inl ⟨by rfl, ?_⟩) hHeld ?_
    rotate_left 1
    · (intro w hSw; have q1 := hSw.1.cell; have q2 := hSw.2.cell; go_simp; try with_reducible rfl)
    try simp only [Act.put, List.getElem_toArray, List.getElem_cons_zero, List.getElem_cons_succ, List.setIfInBounds_toArray, List.set_cons_zero, List.set_cons_succ]
    refine wpAnyH_take (i := 5) (v := ?_) rfl (by kernel_rfl) (by kernel_rfl) (by kernel_rfl) (fun _ _ _ h => h) (Or.inl ⟨by rfl, ?_⟩) hHeld ?_
    rotate_left 1
    · (intro w hSw; have q1 := hSw.1.cell; have q2 := hSw.2.cell; go_simp; try with_reducible rfl)
    try simp only [Act.put, List.getElem_toArray, List.getElem_cons_zero, List.getElem_cons_succ, List.setIfInBounds_toArray, List.set_cons_zero, List.set_cons_succ]
    refine wpAnyH_take (i := 6) (v := ?_) rfl (by kernel_rfl) (by kernel_rfl) (by kernel_rfl) (fun _ _ _ h => h) (Or.inl ⟨by rfl, ?_⟩) hHeld ?_
    rotate_left 1
    · (intro w hSw; have q1 := hSw.1.cell; have q2 := hSw.2.cell; go_simp; try with_reducible rfl)
    try simp only [Act.put, List.getElem_toArray, List.getElem_cons_zero, List.getElem_cons_succ, List.setIfInBounds_toArray, List.set_cons_zero, List.set_cons_succ]
    refine wpAnyH_take (i := 7) (v := ?_) rfl (by kernel_rfl) (by kernel_rfl) (by kernel_rfl) (fun _ _ _ h => h) (Or.inl ⟨by rfl, ?_⟩) hHeld ?_
    rotate_left 1
    · (intro w hSw; have q1 := hSw.1.cell; have q2 := hSw.2.cell; go_simp; try with_reducible rfl)
    try simp only [Act.put, List.getElem_toArray, List.getElem_cons_zero, List.getElem_cons_succ, List.setIfInBounds_toArray, List.set_cons_zero, List.set_cons_succ]
    refine wpAnyH_take (i := 8) (v := ?_) rfl (by kernel_rfl) (by kernel_rfl) (by kernel_rfl) (fun _ _ _ h => h) (Or.inl ⟨by rfl, ?_⟩) hHeld ?_
    rotate_left 1
    · (intro w hSw; have q1 := hSw.1.cell; have q2 := hSw.2.cell; go_simp; try with_reducible rfl)
    try simp only [Act.put, List.getElem_toArray, List.getElem_cons_zero, List.getElem_cons_succ, List.setIfInBounds_toArray, List.set_cons_zero, List.set_cons_succ]
    refine wpAnyH_take (i := 9) (v := ?_) rfl (by kernel_rfl) (by kernel_rfl) (by kernel_rfl) (fun _ _ _ h => h) (Or.inl ⟨by rfl, ?_⟩) hHeld ?_
    rotate_left 1
    · (intro w hSw; have q1 := hSw.1.cell; have q2 := hSw.2.cell; go_simp; try with_reducible rfl)
    try simp only [Act.put, List.getElem_toArray, List.getElem_cons_zero, List.getElem_cons_succ, List.setIfInBounds_toArray, List.set_cons_zero, List.set_cons_succ]
    refine wpAnyH_ready (rs := [10]) (by kernel_rfl) (by simp) (AllReadyH.cons rfl (fun K hK => ?_) AllReadyH.nil)
    clear hHeld
    go_simp
    with_reducible refine KA.out.mono ?_
    rintro e w4 ⟨k, u, l, c, s', m', rfl, hrow4, hT4, hE4, hK4⟩
    obtain ⟨ua, uc, rfl⟩ := row_form hrow4
    have HL4 := HC.out.1.G (G.refl wc).drew
    have H4 : Hid (Ld W0 w4 b t lo s' m' live res va vr L LR ∧ Blk w4 ob 34 [I kd, I who, I x, I st, I r.lv, .string r.lb, I r.id, I mode] ∧ AskK m x p r mode k l c m' ∧ w4.ownsRow wc.heap.size 3 1 (.slice ua l.length uc) l.length (l.map fun z => I z) ∧ w4.ownsRow w1.heap.size 3 1 (.slice ha hs.length hc) hs.length (hs.map fun z => I z) ∧ Blk w4 xb 24 [I p.at_.lv, .string p.at_.lb, I p.at_.id]) := ⟨HL4.ext hE4 hT4, (HC.out.2.1.drew).chg hE4.chg (fun e => e HOF.out.1), hK4, hrow4, own_ext (own_G HC.out.2.2.2 (G.refl wc).drew) hE4 (fun k hk => (HH2.out.2.2.2.2.2 k hk).1), (HC.out.2.2.1.drew).chg hE4.chg (fun e => e HSX.out)⟩
    clear hrow4 hT4 hE4 hK4 HL4 KA
    refine hK.out _ _ (⟨H4.out.1.sg.blk, H4.out.2.1⟩) (fun hHeld => ?_)
    clear hK K
    try simp only [Act.put, List.getElem_toArray, List.getElem_cons_zero, List.getElem_cons_succ, List.setIfInBounds_toArray, List.set_cons_zero, List.set_cons_succ]
    refine wpAnyH_take (i := 11) (v := ?_) rfl (by kernel_rfl) (by kernel_rfl) (by kernel_rfl) (fun _ _ _ h => h) (Or.inl ⟨by rfl, ?_⟩) hHeld ?_
    rotate_left 1
    · (intro w hSw; (try dsimp only at hSw); go_simp; try with_reducible rfl)
    try simp only [Act.put, List.getElem_toArray, List.getElem_cons_zero, List.getElem_cons_succ, List.setIfInBounds_toArray, List.set_cons_zero, List.set_cons_succ]
    refine wpAnyH_take (i := 12) (v := ?_) rfl (by kernel_rfl) (by kernel_rfl) (by kernel_rfl) (fun _ _ _ h => h) (Or.inl ⟨by rfl, ?_⟩) hHeld ?_
    rotate_left 1
    · (intro w hSw; (try dsimp only at hSw); go_simp; try with_reducible rfl)
    try simp only [Act.put, List.getElem_toArray, List.getElem_cons_zero, List.getElem_cons_succ, List.setIfInBounds_toArray, List.set_cons_zero, List.set_cons_succ]
    refine wpAnyH_take (i := 13) (v := ?_) rfl (by kernel_rfl) (by kernel_rfl) (by kernel_rfl) (fun _ _ _ h => h) (Or.inl ⟨by rfl, ?_⟩) hHeld ?_
    rotate_left 1
    · (intro w hSw; (try dsimp only at hSw); go_simp; try with_reducible rfl)
    try simp only [Act.put, List.getElem_toArray, List.getElem_cons_zero, List.getElem_cons_succ, List.setIfInBounds_toArray, List.set_cons_zero, List.set_cons_succ]
    refine wpAnyH_take (i := 14) (v := ?_) rfl (by kernel_rfl) (by kernel_rfl) (by kernel_rfl) (fun _ _ _ h => h) (Or.inl ⟨by rfl, ?_⟩) hHeld ?_
    rotate_left 1
    · (intro w hSw; (try dsimp only at hSw); go_simp; try with_reducible rfl)
    try simp only [Act.put, List.getElem_toArray, List.getElem_cons_zero, List.getElem_cons_succ, List.setIfInBounds_toArray, List.set_cons_zero, List.set_cons_succ]
    refine wpAnyH_take (i := 15) (v := ?_) rfl (by kernel_rfl) (by kernel_rfl) (by kernel_rfl) (fun _ _ _ h => h) (Or.inl ⟨by rfl, ?_⟩) hHeld ?_
    rotate_left 1
    · (intro w hSw; (try dsimp only at hSw); go_simp; try with_reducible rfl)
    try simp only [Act.put, List.getElem_toArray, List.getElem_cons_zero, List.getElem_cons_succ, List.setIfInBounds_toArray, List.set_cons_zero, List.set_cons_succ]
    refine wpAnyH_take (i := 16) (v := ?_) rfl (by kernel_rfl) (by kernel_rfl) (by kernel_rfl) (fun _ _ _ h => h) (Or.inl ⟨by rfl, ?_⟩) hHeld ?_
    rotate_left 1
    · (intro w hSw; (try dsimp only at hSw); go_simp; try with_reducible rfl)
    try simp only [Act.put, List.getElem_toArray, List.getElem_cons_zero, List.getElem_cons_succ, List.setIfInBounds_toArray, List.set_cons_zero, List.set_cons_succ]
    refine wpAnyH_take (i := 17) (v := ?_) rfl (by kernel_rfl) (by kernel_rfl) (by kernel_rfl) (fun _ _ _ h => h) (Or.inl ⟨by rfl, ?_⟩) hHeld ?_
    rotate_left 1
    · (intro w hSw; (try dsimp only at hSw); go_simp; try with_reducible rfl)
    try simp only [Act.put, List.getElem_toArray, List.getElem_cons_zero, List.getElem_cons_succ, List.setIfInBounds_toArray, List.set_cons_zero, List.set_cons_succ]
    refine wpAnyH_done (by kernel_rfl) ?_ _
    refine NoPanic.normal ?_
    clear hHeld
    by_cases hg : p.goal = 0
    · obtain ⟨p', hp', hc0, hst, hkk⟩ := H4.out.2.2.1.after HC.out.1.gt.iv HP.out HM.out hg
      have hbk' := H4.out.2.2.1.bk HP.out HBK.out
      subst hc0
      have g1 : (p.goal != 0) = false := by simp [hg]
      rw [hg]
      have HK' := hide hkk; have HP' := hide hp'; have HBK' := hide hbk'
      have q2 := H4.out.2.1.cell
      clear hg g1 hkk hp' hbk' hst
      go_wp2_with (first | (go_at_call 48; refine Hid.out ?_) | fail)
      unfold Hid
      refine (H4.out.1.met r HR.out HRL.out).mono ?_
      rintro e w5 ⟨rfl, vr', res', hlen, h5, hc5⟩
      have H5 : Hid (Ld W0 w5 b t lo s' m' live res' va vr' L LR ∧ Blk w5 ob 34 [I kd, I who, I x, I st, I r.lv, .string r.lb, I r.id, I mode] ∧ w5.ownsRow wc.heap.size 3 1 (.slice ua l.length uc) l.length (l.map fun z => I z) ∧ w5.ownsRow w1.heap.size 3 1 (.slice ha hs.length hc) hs.length (hs.map fun z => I z) ∧ res'.length ≤ res.length + 1) := by
        refine ⟨h5, H4.out.2.1.chg hc5 (fun e => e.elim HOF.out.2.1 (fun e => HOF.out.2.2 ob e rfl)), own_chg H4.out.2.2.2.1 hc5 (fun k hk e => ?_), own_chg H4.out.2.2.2.2.1 hc5 (fun k hk e => ?_), hlen⟩
        · have h1 := (World.ownsRow.lt H4.out.2.2.2.1 k hk).1
          rcases e with e | e
          · have := HC.out.1.sg.blk.lt; omega
          · have := (World.ownsRow.lt HC.out.1.sg.rs k e).2; omega
        · have h1 := HH2.out.2.2.2.2.2 k hk
          exact e.elim h1.2.1 (fun e => h1.2.2 k e rfl)
      clear h5 hc5 hlen q2
      have KM : Hid (Calls Tryz.prog 43 #[ptr t, I x, .agg #[I r.lv, .string r.lb, I r.id]] w5.drew fun e w' => e = .returned (.tuple #[I (p'.hf r), I 0]) ∧ G w5.drew w') := mode_t (H5.out.1.gt.G (G.refl w5).drew) HP'.out HR.out
      go_upto_region 9 with fail
      refine wp_region_noPanic ?_
      refine wp_region_held_drew (S := (fun U => Blk U b 31 [ptr t, va, vr'] ∧ Blk U ob 34 [I kd, I who, I x, I st, I r.lv, .string r.lb, I r.id, I mode])) (by kernel_rfl) (⟨H5.out.1.sg.blk.drew, H5.out.2.1.drew⟩) (fun hHeld => ?_)
      refine wpAnyH_take (i := 0) (v := ?_) rfl (by kernel_rfl) (by kernel_rfl) (by kernel_rfl) (fun _ _ _ h => h) (Or.inl ⟨by rfl, ?_⟩) hHeld ?_
      rotate_left 1
      · (intro w hSw; have q1 := hSw.1.cell; have q2 := hSw.2.cell; go_simp; try with_reducible rfl)
      try simp only [Act.put, List.getElem_toArray, List.getElem_cons_zero, List.setIfInBounds_toArray, List.set_cons_zero, List.set_cons_succ]
      refine wpAnyH_take (i := 1) (v := ?_) rfl (by kernel_rfl) (by kernel_rfl) (by kernel_rfl) (fun _ _ _ h => h) (Or.inl ⟨by rfl, ?_⟩) hHeld ?_
      rotate_left 1
      · (intro w hSw; have q1 := hSw.1.cell; have q2 := hSw.2.cell; go_simp; try with_reducible rfl)
      try simp only [Act.put, List.getElem_toArray, List.getElem_cons_zero, List.getElem_cons_succ, List.setIfInBounds_toArray, List.set_cons_zero, List.set_cons_succ]
      refine wpAnyH_take (i := 2) (v := ?_) rfl (by kernel_rfl) (by kernel_rfl) (by kernel_rfl) (fun _ _ _ h => h) (Or.inl ⟨by rfl, ?_⟩) hHeld ?_
      rotate_left 1
      · (intro w hSw; have q1 := hSw.1.cell; have q2 := hSw.2.cell; go_simp; try with_reducible rfl)
      try simp only [Act.put, List.getElem_toArray, List.getElem_cons_zero, List.getElem_cons_succ, List.setIfInBounds_toArray, List.set_cons_zero, List.set_cons_succ]
      refine wpAnyH_take (i := 3) (v := ?_) rfl (by kernel_rfl) (by kernel_rfl) (by kernel_rfl) (fun _ _ _ h => h) (Or.inl ⟨by rfl, ?_⟩) hHeld ?_
      rotate_left 1
      · (intro w hSw; have q1 := hSw.1.cell; have q2 := hSw.2.cell; go_simp; try with_reducible rfl)
      try simp only [Act.put, List.getElem_toArray, List.getElem_cons_zero, List.getElem_cons_succ, List.setIfInBounds_toArray, List.set_cons_zero, List.set_cons_succ]
      refine wpAnyH_take (i := 4) (v := ?_) rfl (by kernel_rfl) (by kernel_rfl) (by kernel_rfl) (fun _ _ _ h => h) (Or.inl ⟨by rfl, ?_⟩) hHeld ?_
      rotate_left 1
      · (intro w hSw; have q1 := hSw.1.cell; have q2 := hSw.2.cell; go_simp; try with_reducible rfl)
      try simp only [Act.put, List.getElem_toArray, List.getElem_cons_zero, List.getElem_cons_succ, List.setIfInBounds_toArray, List.set_cons_zero, List.set_cons_succ]
      refine wpAnyH_take (i := 5) (v := ?_) rfl (by kernel_rfl) (by kernel_rfl) (by kernel_rfl) (fun _ _ _ h => h) (Or.inl ⟨by rfl, ?_⟩) hHeld ?_
      rotate_left 1
      · (intro w hSw; have q1 := hSw.1.cell; have q2 := hSw.2.cell; go_simp; try with_reducible rfl)
      try simp only [Act.put, List.getElem_toArray, List.getElem_cons_zero, List.getElem_cons_succ, List.setIfInBounds_toArray, List.set_cons_zero, List.set_cons_succ]
      refine wpAnyH_take (i := 6) (v := ?_) rfl (by kernel_rfl) (by kernel_rfl) (by kernel_rfl) (fun _ _ _ h => h) (Or.inl ⟨by rfl, ?_⟩) hHeld ?_
      rotate_left 1
      · (intro w hSw; have q1 := hSw.1.cell; have q2 := hSw.2.cell; go_simp; try with_reducible rfl)
      try simp only [Act.put, List.getElem_toArray, List.getElem_cons_zero, List.getElem_cons_succ, List.setIfInBounds_toArray, List.set_cons_zero, List.set_cons_succ]
      refine wpAnyH_take (i := 7) (v := ?_) rfl (by kernel_rfl) (by kernel_rfl) (by kernel_rfl) (fun _ _ _ h => h) (Or.inl ⟨by rfl, ?_⟩) hHeld ?_
      rotate_left 1
      · (intro w hSw; have q1 := hSw.1.cell; have q2 := hSw.2.cell; go_simp; try with_reducible rfl)
      try simp only [Act.put, List.getElem_toArray, List.getElem_cons_zero, List.getElem_cons_succ, List.setIfInBounds_toArray, List.set_cons_zero, List.set_cons_succ]
      refine wpAnyH_ready (rs := [8]) (by kernel_rfl) (by simp) (AllReadyH.cons rfl (fun K hK => ?_) AllReadyH.nil)
      clear hHeld
      go_simp
      with_reducible refine KM.out.mono ?_
      rintro e w6 ⟨rfl, hg6⟩
      have HG6 := hide ((G.refl w5).drew.trans hg6)
      clear hg6 KM
      refine hK.out _ _ (⟨(H5.out.1.G HG6.out).sg.blk, H5.out.2.1.G HG6.out⟩) (fun hHeld => ?_)
      clear hK K
      try simp only [Act.put, List.getElem_toArray, List.getElem_cons_zero, List.getElem_cons_succ, List.setIfInBounds_toArray, List.set_cons_zero, List.set_cons_succ]
      refine wpAnyH_take (i := 9) (v := ?_) rfl (by kernel_rfl) (by kernel_rfl) (by kernel_rfl) (fun _ _ _ h => h) (Or.inl ⟨by rfl, ?_⟩) hHeld ?_
      rotate_left 1
      · (intro w hSw; (try dsimp only at hSw); go_simp; try with_reducible rfl)
      try simp only [Act.put, List.getElem_toArray, List.getElem_cons_zero, List.getElem_cons_succ, List.setIfInBounds_toArray, List.set_cons_zero, List.set_cons_succ]
      refine wpAnyH_take (i := 10) (v := ?_) rfl (by kernel_rfl) (by kernel_rfl) (by kernel_rfl) (fun _ _ _ h => h) (Or.inl ⟨by rfl, ?_⟩) hHeld ?_
      rotate_left 1
      · (intro w hSw; (try dsimp only at hSw); go_simp; try with_reducible rfl)
      try simp only [Act.put, List.getElem_toArray, List.getElem_cons_zero, List.getElem_cons_succ, List.setIfInBounds_toArray, List.set_cons_zero, List.set_cons_succ]
      refine wpAnyH_take (i := 11) (v := ?_) rfl (by kernel_rfl) (by kernel_rfl) (by kernel_rfl) (fun _ _ _ h => h) (Or.inl ⟨by rfl, ?_⟩) hHeld ?_
      rotate_left 1
      · (intro w hSw; (try dsimp only at hSw); go_simp; try with_reducible rfl)
      try simp only [Act.put, List.getElem_toArray, List.getElem_cons_zero, List.getElem_cons_succ, List.setIfInBounds_toArray, List.set_cons_zero, List.set_cons_succ]
      refine wpAnyH_take (i := 12) (v := ?_) rfl (by kernel_rfl) (by kernel_rfl) (by kernel_rfl) (fun _ _ _ h => h) (Or.inl ⟨by rfl, ?_⟩) hHeld ?_
      rotate_left 1
      · (intro w hSw; (try dsimp only at hSw); go_simp; try with_reducible rfl)
      try simp only [Act.put, List.getElem_toArray, List.getElem_cons_zero, List.getElem_cons_succ, List.setIfInBounds_toArray, List.set_cons_zero, List.set_cons_succ]
      refine wpAnyH_take (i := 13) (v := ?_) rfl (by kernel_rfl) (by kernel_rfl) (by kernel_rfl) (fun _ _ _ h => h) (Or.inl ⟨by rfl, ?_⟩) hHeld ?_
      rotate_left 1
      · (intro w hSw; (try dsimp only at hSw); go_simp; try with_reducible rfl)
      try simp only [Act.put, List.getElem_toArray, List.getElem_cons_zero, List.getElem_cons_succ, List.setIfInBounds_toArray, List.set_cons_zero, List.set_cons_succ]
      refine wpAnyH_done (by kernel_rfl) ?_ _
      refine NoPanic.normal ?_
      clear hHeld
      have HCC : Hid (∀ U, G w6 U → (∀ o, U.cell? ⟨b, o, none⟩ = ([ptr t, va, vr'] : List Value)[o]?) ∧ ∀ o, U.cell? ⟨ob, o, none⟩ = ([I kd, I who, I x, I st, I r.lv, .string r.lb, I r.id, I mode] : List Value)[o]?) := fun U gU => ⟨((H5.out.1.G HG6.out).sg.blk.G gU).cell, ((H5.out.2.1.G HG6.out).G gU).cell⟩
      have KW : Hid (∀ U, G w6 U → Calls Tryz.prog 16 #[ptr t, I x] U fun e w' => e = .returned (.tuple #[.agg #[I p'.at_.lv, .string p'.at_.lb, I p'.at_.id], I p'.goal, I 0]) ∧ G U w') := fun U gU => waiting_t (H5.out.1.gt.G (HG6.out.trans gU)) HP'.out
      go_upto_region 10 with fail
      go_cut [13, 14, 15] from 80 to 136 (fun v1 v2 v3 W => ∃ xb, v1 = ptr xb ∧ v2 = I p'.goal ∧ v3 = I 0 ∧ Blk W xb 24 [I p'.at_.lv, .string p'.at_.lb, I p'.at_.id] ∧ G w6 W ∧ w6.heap.size ≤ xb)
      case first =>
        refine wp_region_noPanic ?_
        refine wp_region_held_drew (S := (fun U => G w6 U)) (by kernel_rfl) ((G.refl w6).drew) (fun hHeld => ?_)
        refine wpAnyH_take (i := 0) (v := ?_) rfl (by kernel_rfl) (by kernel_rfl) (by kernel_rfl) (fun _ _ _ h => h) (Or.inl ⟨by rfl, ?_⟩) hHeld ?_
        rotate_left 1
        · (intro w hSw; obtain ⟨q1, q2⟩ := HCC.out _ hSw; go_simp; try with_reducible rfl)
        try simp only [Act.put, List.getElem_toArray, List.getElem_cons_zero, List.setIfInBounds_toArray, List.set_cons_zero, List.set_cons_succ]
        refine wpAnyH_take (i := 1) (v := ?_) rfl (by kernel_rfl) (by kernel_rfl) (by kernel_rfl) (fun _ _ _ h => h) (Or.inl ⟨by rfl, ?_⟩) hHeld ?_
        rotate_left 1
        · (intro w hSw; obtain ⟨q1, q2⟩ := HCC.out _ hSw; go_simp; try with_reducible rfl)
        try simp only [Act.put, List.getElem_toArray, List.getElem_cons_zero, List.getElem_cons_succ, List.setIfInBounds_toArray, List.set_cons_zero, List.set_cons_succ]
        refine wpAnyH_take (i := 2) (v := ?_) rfl (by kernel_rfl) (by kernel_rfl) (by kernel_rfl) (fun _ _ _ h => h) (Or.inl ⟨by rfl, ?_⟩) hHeld ?_
        rotate_left 1
        · (intro w hSw; obtain ⟨q1, q2⟩ := HCC.out _ hSw; go_simp; try with_reducible rfl)
        try simp only [Act.put, List.getElem_toArray, List.getElem_cons_zero, List.getElem_cons_succ, List.setIfInBounds_toArray, List.set_cons_zero, List.set_cons_succ]
        refine wpAnyH_take (i := 3) (v := ?_) rfl (by kernel_rfl) (by kernel_rfl) (by kernel_rfl) (fun _ _ _ h => h) (Or.inl ⟨by rfl, ?_⟩) hHeld ?_
        rotate_left 1
        · (intro w hSw; obtain ⟨q1, q2⟩ := HCC.out _ hSw; go_simp; try with_reducible rfl)
        try simp only [Act.put, List.getElem_toArray, List.getElem_cons_zero, List.getElem_cons_succ, List.setIfInBounds_toArray, List.set_cons_zero, List.set_cons_succ]
        refine wpAnyH_take (i := 4) (v := ?_) rfl (by kernel_rfl) (by kernel_rfl) (by kernel_rfl) (fun _ _ _ h => h) (Or.inl ⟨by rfl, ?_⟩) hHeld ?_
        rotate_left 1
        · (intro w hSw; obtain ⟨q1, q2⟩ := HCC.out _ hSw; go_simp; try with_reducible rfl)
        try simp only [Act.put, List.getElem_toArray, List.getElem_cons_zero, List.getElem_cons_succ, List.setIfInBounds_toArray, List.set_cons_zero, List.set_cons_succ]
        refine wpAnyH_take (i := 5) (v := ?_) rfl (by kernel_rfl) (by kernel_rfl) (by kernel_rfl) (fun _ _ _ h => h) (Or.inl ⟨by rfl, ?_⟩) hHeld ?_
        rotate_left 1
        · (intro w hSw; obtain ⟨q1, q2⟩ := HCC.out _ hSw; go_simp; try with_reducible rfl)
        try simp only [Act.put, List.getElem_toArray, List.getElem_cons_zero, List.getElem_cons_succ, List.setIfInBounds_toArray, List.set_cons_zero, List.set_cons_succ]
        refine wpAnyH_ready (rs := [6, 11]) (by kernel_rfl) (by simp) (AllReadyH.cons rfl (fun K hK => ?_) (AllReadyH.cons rfl (fun K hK => ?_) AllReadyH.nil))
        · -- the call, then the variable
          have hgc := hHeld
          clear hHeld
          go_simp
          with_reducible refine (KW.out _ hgc).mono ?_
          rintro e w3 ⟨rfl, hg3⟩
          have HC3 := hide hg3
          have HG3 := hide (hgc.trans hg3)
          clear hg3 hgc
          refine hK.out _ _ (HG3.out) (fun hHeld => ?_)
          clear hK K
          try simp only [Act.put, List.getElem_toArray, List.getElem_cons_zero, List.getElem_cons_succ, List.setIfInBounds_toArray, List.set_cons_zero, List.set_cons_succ]
          refine wpAnyH_take (i := 7) (v := ?_) rfl (by kernel_rfl) (by kernel_rfl) (by kernel_rfl) (fun _ _ _ h => h) (Or.inl ⟨by rfl, ?_⟩) hHeld ?_
          rotate_left 1
          · (intro w hSw; go_simp; try with_reducible rfl)
          try simp only [Act.put, List.getElem_toArray, List.getElem_cons_zero, List.getElem_cons_succ, List.setIfInBounds_toArray, List.set_cons_zero, List.set_cons_succ]
          refine wpAnyH_take (i := 8) (v := ?_) rfl (by kernel_rfl) (by kernel_rfl) (by kernel_rfl) (fun _ _ _ h => h) (Or.inl ⟨by rfl, ?_⟩) hHeld ?_
          rotate_left 1
          · (intro w hSw; go_simp; try with_reducible rfl)
          try simp only [Act.put, List.getElem_toArray, List.getElem_cons_zero, List.getElem_cons_succ, List.setIfInBounds_toArray, List.set_cons_zero, List.set_cons_succ]
          refine wpAnyH_take (i := 9) (v := ?_) rfl (by kernel_rfl) (by kernel_rfl) (by kernel_rfl) (fun _ _ _ h => h) (Or.inl ⟨by rfl, ?_⟩) hHeld ?_
          rotate_left 1
          · (intro w hSw; go_simp; try with_reducible rfl)
          try simp only [Act.put, List.getElem_toArray, List.getElem_cons_zero, List.getElem_cons_succ, List.setIfInBounds_toArray, List.set_cons_zero, List.set_cons_succ]
          refine wpAnyH_take (i := 10) (v := ?_) rfl (by kernel_rfl) (by kernel_rfl) (by kernel_rfl) (fun _ _ _ h => h) (Or.inl ⟨by rfl, ?_⟩) hHeld ?_
          rotate_left 1
          · (intro w hSw; go_simp; try with_reducible rfl)
          try simp only [Act.put, List.getElem_toArray, List.getElem_cons_zero, List.getElem_cons_succ, List.setIfInBounds_toArray, List.set_cons_zero, List.set_cons_succ]
          refine wpAnyH_ready (rs := [11]) (by kernel_rfl) (by simp) (AllReadyH.cons rfl (fun K hK => ?_) AllReadyH.nil)
          clear hHeld
          go_simp
          obtain ⟨w4, hw4⟩ : ∃ w4, w4 = w3.alloc (.cells #[I 0, .string { data := #[] }, I 0] 24) := ⟨_, rfl⟩
          rw [← hw4]
          have H4 : Hid (Blk w4 w3.heap.size 24 [I 0, .string { data := #[] }, I 0] ∧ G w6 w4 ∧ w6.heap.size ≤ w3.heap.size) := by rw [hw4]; exact ⟨Blk.new w3 [I 0, .string { data := #[] }, I 0] 24, HG3.out.alloc _, HG3.out.size⟩
          obtain ⟨xb, hxb⟩ : ∃ xb, xb = w3.heap.size := ⟨_, rfl⟩
          rw [← hxb] at H4 ⊢
          clear hw4 hxb
          refine hK.out _ _ (H4.out.2.1) (fun hHeld => ?_)
          clear hK K
          try simp only [Act.put, List.getElem_toArray, List.getElem_cons_zero, List.getElem_cons_succ, List.setIfInBounds_toArray, List.set_cons_zero, List.set_cons_succ]
          refine wpAnyH_ready (rs := [12]) (by kernel_rfl) (by simp) (AllReadyH.cons rfl (fun K hK => ?_) AllReadyH.nil)
          clear hHeld
          have hcR := H4.out.1.cell
          have hzR := H4.out.1.frozen
          go_simp
          have H5 := hide (sets3 (I p'.at_.lv) (.string p'.at_.lb) (I p'.at_.id) H4.out.1 H4.out.2.1 H4.out.2.2)
          clear hcR hzR H4
          show K _ (W3 w4 xb (I p'.at_.lv) (.string p'.at_.lb) (I p'.at_.id))
          generalize W3 w4 xb (I p'.at_.lv) (.string p'.at_.lb) (I p'.at_.id) = w5 at H5 ⊢
          refine hK.out _ _ (H5.out.2.1) (fun hHeld => ?_)
          clear hK K
          try simp only [Act.put, List.getElem_toArray, List.getElem_cons_zero, List.getElem_cons_succ, List.setIfInBounds_toArray, List.set_cons_zero, List.set_cons_succ]
          refine wpAnyH_take (i := 13) (v := ?_) rfl (by kernel_rfl) (by kernel_rfl) (by kernel_rfl) (fun _ _ _ h => h) (Or.inl ⟨by rfl, ?_⟩) hHeld ?_
          rotate_left 1
          · (intro w hSw; go_simp; try with_reducible rfl)
          try simp only [Act.put, List.getElem_toArray, List.getElem_cons_zero, List.getElem_cons_succ, List.setIfInBounds_toArray, List.set_cons_zero, List.set_cons_succ]
          refine wpAnyH_take (i := 14) (v := ?_) rfl (by kernel_rfl) (by kernel_rfl) (by kernel_rfl) (fun _ _ _ h => h) (Or.inl ⟨by rfl, ?_⟩) hHeld ?_
          rotate_left 1
          · (intro w hSw; go_simp; try with_reducible rfl)
          try simp only [Act.put, List.getElem_toArray, List.getElem_cons_zero, List.getElem_cons_succ, List.setIfInBounds_toArray, List.set_cons_zero, List.set_cons_succ]
          refine wpAnyH_done (by kernel_rfl) ?_ _
          refine NoPanic.normal ?_
          clear hHeld
          go_wp2_with fail
          go_meet
          case rel => exact ⟨xb, rfl, rfl, rfl, H5.out⟩
        · -- the variable, then the call
          clear hHeld
          go_simp
          obtain ⟨w9, hw9⟩ : ∃ w9, w9 = (w6.alloc (.cells #[I 0, .string { data := #[] }, I 0] 24)).drew := ⟨_, rfl⟩
          rw [← hw9]
          have H9 : Hid (Blk w9 w6.heap.size 24 [I 0, .string { data := #[] }, I 0] ∧ G w6 w9) := by rw [hw9]; exact ⟨(Blk.new w6 [I 0, .string { data := #[] }, I 0] 24).drew, ((G.refl w6).alloc _).drew⟩
          clear hw9
          refine hK.out _ _ (H9.out.2) (fun hHeld => ?_)
          clear hK K
          try simp only [Act.put, List.getElem_toArray, List.getElem_cons_zero, List.getElem_cons_succ, List.setIfInBounds_toArray, List.set_cons_zero, List.set_cons_succ]
          refine wpAnyH_ready (rs := [6]) (by kernel_rfl) (by simp) (AllReadyH.cons rfl (fun K hK => ?_) AllReadyH.nil)
          have hgc := hHeld
          clear hHeld
          go_simp
          with_reducible refine (KW.out _ hgc).mono ?_
          rintro e w4 ⟨rfl, hg3⟩
          have HC4 := hide hg3
          have HG4 := hide (hgc.trans hg3)
          clear hg3 hgc
          have H4 : Hid (Blk w4 w6.heap.size 24 [I 0, .string { data := #[] }, I 0] ∧ G w6 w4 ∧ w6.heap.size ≤ w6.heap.size) := ⟨H9.out.1.G HC4.out, HG4.out, Nat.le_refl _⟩
          clear H9 HC4
          refine hK.out _ _ (H4.out.2.1) (fun hHeld => ?_)
          clear hK K
          try simp only [Act.put, List.getElem_toArray, List.getElem_cons_zero, List.getElem_cons_succ, List.setIfInBounds_toArray, List.set_cons_zero, List.set_cons_succ]
          refine wpAnyH_take (i := 7) (v := ?_) rfl (by kernel_rfl) (by kernel_rfl) (by kernel_rfl) (fun _ _ _ h => h) (Or.inl ⟨by rfl, ?_⟩) hHeld ?_
          rotate_left 1
          · (intro w hSw; go_simp; try with_reducible rfl)
          try simp only [Act.put, List.getElem_toArray, List.getElem_cons_zero, List.getElem_cons_succ, List.setIfInBounds_toArray, List.set_cons_zero, List.set_cons_succ]
          refine wpAnyH_take (i := 8) (v := ?_) rfl (by kernel_rfl) (by kernel_rfl) (by kernel_rfl) (fun _ _ _ h => h) (Or.inl ⟨by rfl, ?_⟩) hHeld ?_
          rotate_left 1
          · (intro w hSw; go_simp; try with_reducible rfl)
          try simp only [Act.put, List.getElem_toArray, List.getElem_cons_zero, List.getElem_cons_succ, List.setIfInBounds_toArray, List.set_cons_zero, List.set_cons_succ]
          refine wpAnyH_take (i := 9) (v := ?_) rfl (by kernel_rfl) (by kernel_rfl) (by kernel_rfl) (fun _ _ _ h => h) (Or.inl ⟨by rfl, ?_⟩) hHeld ?_
          rotate_left 1
          · (intro w hSw; go_simp; try with_reducible rfl)
          try simp only [Act.put, List.getElem_toArray, List.getElem_cons_zero, List.getElem_cons_succ, List.setIfInBounds_toArray, List.set_cons_zero, List.set_cons_succ]
          refine wpAnyH_take (i := 10) (v := ?_) rfl (by kernel_rfl) (by kernel_rfl) (by kernel_rfl) (fun _ _ _ h => h) (Or.inl ⟨by rfl, ?_⟩) hHeld ?_
          rotate_left 1
          · (intro w hSw; go_simp; try with_reducible rfl)
          try simp only [Act.put, List.getElem_toArray, List.getElem_cons_zero, List.getElem_cons_succ, List.setIfInBounds_toArray, List.set_cons_zero, List.set_cons_succ]
          refine wpAnyH_ready (rs := [12]) (by kernel_rfl) (by simp) (AllReadyH.cons rfl (fun K hK => ?_) AllReadyH.nil)
          clear hHeld
          have hcR := H4.out.1.cell
          have hzR := H4.out.1.frozen
          go_simp
          have H5 := hide (sets3 (I p'.at_.lv) (.string p'.at_.lb) (I p'.at_.id) H4.out.1 H4.out.2.1 H4.out.2.2)
          clear hcR hzR H4
          show K _ (W3 w4 (w6.heap.size) (I p'.at_.lv) (.string p'.at_.lb) (I p'.at_.id))
          generalize W3 w4 (w6.heap.size) (I p'.at_.lv) (.string p'.at_.lb) (I p'.at_.id) = w5 at H5 ⊢
          refine hK.out _ _ (H5.out.2.1) (fun hHeld => ?_)
          clear hK K
          try simp only [Act.put, List.getElem_toArray, List.getElem_cons_zero, List.getElem_cons_succ, List.setIfInBounds_toArray, List.set_cons_zero, List.set_cons_succ]
          refine wpAnyH_take (i := 13) (v := ?_) rfl (by kernel_rfl) (by kernel_rfl) (by kernel_rfl) (fun _ _ _ h => h) (Or.inl ⟨by rfl, ?_⟩) hHeld ?_
          rotate_left 1
          · (intro w hSw; go_simp; try with_reducible rfl)
          try simp only [Act.put, List.getElem_toArray, List.getElem_cons_zero, List.getElem_cons_succ, List.setIfInBounds_toArray, List.set_cons_zero, List.set_cons_succ]
          refine wpAnyH_take (i := 14) (v := ?_) rfl (by kernel_rfl) (by kernel_rfl) (by kernel_rfl) (fun _ _ _ h => h) (Or.inl ⟨by rfl, ?_⟩) hHeld ?_
          rotate_left 1
          · (intro w hSw; go_simp; try with_reducible rfl)
          try simp only [Act.put, List.getElem_toArray, List.getElem_cons_zero, List.getElem_cons_succ, List.setIfInBounds_toArray, List.set_cons_zero, List.set_cons_succ]
          refine wpAnyH_done (by kernel_rfl) ?_ _
          refine NoPanic.normal ?_
          clear hHeld
          generalize hxb : w6.heap.size = xb at H5 ⊢
          replace H5 : Hid (Blk w5 xb 24 [I p'.at_.lv, .string p'.at_.lb, I p'.at_.id] ∧ G w6 w5 ∧ w6.heap.size ≤ xb) := ⟨H5.out.1, H5.out.2.1, Nat.le_of_eq hxb⟩
          clear hxb
          go_wp2_with fail
          go_meet
          case rel => exact ⟨xb, rfl, rfl, rfl, H5.out⟩
      case rest =>
        obtain ⟨yb, rfl, rfl, rfl, -, hgc, -⟩ := hcut
        have HX : Hid (Ld W0 wc b t lo s' m' live res' va vr' L LR) := H5.out.1.G (HG6.out.trans hgc)
        have KO : Hid (Calls Tryz.prog 11 #[ptr b] wc fun e w' => e = .returned (I (oldL 0 live)) ∧ w' = wc) := oldest_any b _ va vr' lo live wc HX.out.sg.blk HX.out.sg.lf
        have KN : Hid (Calls Tryz.prog 42 #[ptr b, .slice ua l.length uc, .slice ha hs.length hc, I (oldL 0 live)] wc fun e w' => e = .returned (.bool true) ∧ G wc w') := by
          obtain ⟨u1, u2, u3, u4⟩ := H4.out.2.2.1.wounds HC.out.1.gt.iv HP.out HBK.out
          have ll := HX.out.sg.lf.2
          rw [HH2.out.2.2.2.1] at u1
          exact wounds_any b t s' m' L LR va vr' lo live wc HX.out.gt HL.out HX.out.sg.blk HX.out.sg.lf HBK'.out _ _ _ _ l hs (own_G H5.out.2.2.1 (HG6.out.trans hgc)) (own_G H5.out.2.2.2.1 (HG6.out.trans hgc)) (by omega) (by have := HH2.out.2.2.2.2.1; omega) _ u1 u2 u3
        have HOB : Hid (Blk wc ob 34 [I kd, I who, I x, I st, I r.lv, .string r.lb, I r.id, I mode]) := H5.out.2.1.G (HG6.out.trans hgc)
        clear hgc HCC KW
        go_wp2_with (first | (go_at_call 11; with_reducible refine KO.out.mono ?_; rintro e w' ⟨rfl, hw'⟩; have hw2 := hw'.symm; subst hw2; clear hw') | (go_at_call 42; refine Hid.out ?_) | fail)
        unfold Hid
        refine KN.out.mono ?_
        rintro e w8 ⟨rfl, hg8⟩
        have HY : Hid (Ld W0 w8 b t lo s' m' live res' va vr' L LR) := HX.out.G hg8
        have HOB8 := hide (HOB.out.G hg8)
        clear hg8 KN KO HOB
        rcases HK'.out with ⟨hk1, hgl, hj⟩ | ⟨hk1, hj, hne⟩
        · have KJ : Hid (∀ W, G w8 W → Calls Tryz.prog 33 #[I (p'.hf r), I mode] W fun e w' => e = .returned (I (p'.hf r)) ∧ w' = W) := fun W g => by
            have := joins_any (p'.hf r) mode W (HY.out.gt.tb.G g)
            rw [hj] at this
            exact this
          subst hk1
          rw [hgl]
          have q2 := HOB8.out.cell
          clear hj hgl
          go_wp2_with (first | (go_at_call 33; with_reducible refine (KJ.out _ (G.refl _)).mono ?_; rintro e w' ⟨rfl, hw'⟩; have hw2 := hw'.symm; subst hw2; clear hw') | fail)
          go_ret
          exact ⟨rfl, s', m', res', va, vr', H5.out.2.2.2.2, HY.out, HBK'.out⟩
        · have KJ : Hid (∀ W, G w8 W → Calls Tryz.prog 33 #[I p'.goal, I mode] W fun e w' => e = .returned (I p'.goal) ∧ w' = W) := fun W g => by
            have := joins_any p'.goal mode W (HY.out.gt.tb.G g)
            rw [hj] at this
            exact this
          subst hk1
          have q2 := HOB8.out.cell
          have d1 : (p'.goal != p'.hf r) = true := by simp [hne]
          have d2 : (p'.goal == p'.hf r) = false := by simp [hne]
          clear hj
          go_wp2_with (first | (go_at_call 33; with_reducible refine (KJ.out _ (G.refl _)).mono ?_; rintro e w' ⟨rfl, hw'⟩; have hw2 := hw'.symm; subst hw2; clear hw') | fail)
          go_ret
          exact ⟨rfl, s', m', res', va, vr', H5.out.2.2.2.2, HY.out, HBK'.out⟩
    · have hbk' := H4.out.2.2.1.bk HP.out HBK.out
      have hat := resP_ne ((HC.out.1.gt.iv.lv x p HP.out).g1 hg).2.2.2
      obtain ⟨e1, e2, e3⟩ : k = 0 ∧ c = 83 ∧ l = [] := by
        rcases H4.out.2.2.1 with ⟨-, a1, a2, a3, -⟩ | ⟨a1, -⟩
        · exact ⟨a1, a2, a3⟩
        · exact absurd a1 hg
      subst e1 e2 e3
      have g1 : (p.goal != 0) = true := by simp [hg]
      have g2 : (p.goal == 0) = false := by simp [hg]
      have g3 : (p.at_.lv != 0) = true := by simp [hat]
      have g4 : (p.at_.lv == 0) = false := by simp [hat]
      have q3 := H4.out.2.2.2.2.2.cell
      have HBK' := hide hbk'
      clear hbk'
      go_wp2
      go_ret
      exact ⟨rfl, s', m', res, va, vr, Nat.le_succ _, H4.out.1, HBK'.out⟩
end Go.Proofs.YtkbgifhhnnfgoaaGreatDoor
