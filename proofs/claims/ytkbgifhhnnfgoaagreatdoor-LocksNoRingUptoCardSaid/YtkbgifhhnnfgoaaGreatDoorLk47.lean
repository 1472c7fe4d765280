/- Locks: Holders. -/
import Derived.Test.YtkbgifhhnnfgoaaGreatDoorLk44
import Derived.Test.YtkbgifhhnnfgoaaGreatDoorLk34
import Derived.BigRegion
import Derived.Test.YtkbgifhhnnfgoaaGreatDoorShCl
import Derived.Shelf.SlicesE.Clone
namespace Go.Proofs.YtkbgifhhnnfgoaaGreatDoor
section
section
open Go.RowKit

set_option maxRecDepth 100000 in
set_option maxHeartbeats 400000 in
theorem live_nil (w : World) : Calls Tryz.prog 26 #[.pointer none] w fun e w' => e = .returned (.slice none 0 0) ∧ w' = w := by
  go_enter Tryz.func26, Tryz.ntmps26
  go_wp2
  go_ret
  exact ⟨rfl, rfl⟩
set_option maxRecDepth 100000 in
set_option maxHeartbeats 400000 in
theorem live_any (t : Nat) (s : Gs) (ids : List Int) (w : World) (h : TT w t s) (hids : ids.Pairwise (· < ·)) (hmem : ∀ a, a ∈ ids ↔ R64 a ∧ s.lv a ≠ none) (hlen : ids.length < 4100000000000) :
    Calls Tryz.prog 26 #[ptr t] w fun e w' => ∃ v, e = .returned v ∧ w'.ownsRow w.heap.size 3 1 v ids.length (ids.map fun z => I z) ∧ G w w' := by
  have hc := h.tb.cell
  have K1 := hide (keys_callP w s.lb)
  have K2 := hide (sorted_callP w s.lb _ ids h.lm hids (fun a => by rw [hmem a]; exact and_congr Iff.rfl (by cases s.lv a <;> simp)) hlen)
  clear h hids hmem hlen
  go_enter Tryz.func26, Tryz.ntmps26
  go_wp2_with (first | (go_at_call 47; with_reducible refine (K1.out).mono ?_; rintro e w' ⟨rfl, rfl⟩) | (go_at_call 46; with_reducible refine (K2.out).mono ?_; rintro e w' ⟨v, rfl, hrow, hg⟩) | fail)
  go_ret
  exact ⟨v, rfl, own_lo hrow (by simp), ((G.refl w).alloc _).trans hg⟩
set_option maxRecDepth 100000 in
set_option maxHeartbeats 400000 in
theorem wounders_nil (x : Int) (w : World) : Calls Tryz.prog 65 #[.pointer none, I x] w fun e w' => e = .returned (.tuple #[.slice none 0 0, I 1]) ∧ G w w' := by
  have K := hide (fun W => partyOf_nil x W)
  go_enter Tryz.func65, Tryz.ntmps65
  go_wp2_with (first | (go_at_call 29; with_reducible refine (K.out _).mono ?_; rintro e w' ⟨rfl, rfl⟩) | fail)
  go_ret2
  exact ⟨rfl, G.refl _⟩
set_option maxRecDepth 100000 in
set_option maxHeartbeats 400000 in
theorem wounded_nil (x : Int) (w : World) : Calls Tryz.prog 15 #[.pointer none, I x] w fun e w' => e = .returned (.tuple #[.bool false, I 1]) ∧ G w w' := by
  have K := hide (fun W => partyOf_nil x W)
  go_enter Tryz.func15, Tryz.ntmps15
  go_wp2_with (first | (go_at_call 29; with_reducible refine (K.out _).mono ?_; rintro e w' ⟨rfl, rfl⟩) | fail)
  go_ret2
  exact ⟨rfl, G.refl _⟩
set_option maxRecDepth 100000 in
set_option maxHeartbeats 400000 in
theorem wounders_none (t : Nat) (s : Gs) (x : Int) (w : World) (h : TT w t s) (hx : R64 x) (hn : s.lv x = none) : Calls Tryz.prog 65 #[ptr t, I x] w fun e w' => e = .returned (.tuple #[.slice none 0 0, I 80]) ∧ G w w' := by
  have K := hide (partyOf_any t s x w h hx)
  rw [hn] at K
  simp only [ptv, Option.isSome_none, if_false, Bool.false_eq_true] at K
  clear h hn hx
  go_enter Tryz.func65, Tryz.ntmps65
  go_wp2_with (first | (go_at_call 29; with_reducible refine (K.out).mono ?_; rintro e w' ⟨rfl, rfl⟩) | fail)
  go_ret2
  exact ⟨rfl, G.refl _⟩
set_option maxRecDepth 100000 in
set_option maxHeartbeats 400000 in
theorem wounded_none (t : Nat) (s : Gs) (x : Int) (w : World) (h : TT w t s) (hx : R64 x) (hn : s.lv x = none) : Calls Tryz.prog 15 #[ptr t, I x] w fun e w' => e = .returned (.tuple #[.bool false, I 80]) ∧ G w w' := by
  have K := hide (partyOf_any t s x w h hx)
  rw [hn] at K
  simp only [ptv, Option.isSome_none, if_false, Bool.false_eq_true] at K
  clear h hn hx
  go_enter Tryz.func15, Tryz.ntmps15
  go_wp2_with (first | (go_at_call 29; with_reducible refine (K.out).mono ?_; rintro e w' ⟨rfl, rfl⟩) | fail)
  go_ret2
  exact ⟨rfl, G.refl _⟩
set_option maxRecDepth 100000 in
set_option maxHeartbeats 400000 in
theorem wounders_any (t : Nat) (s : Gs) (x : Int) (p : Pt) (ids : List Int) (w : World) (h : TT w t s) (hx : R64 x) (hp : s.lv x = some p) (hids : ids.Pairwise (· < ·)) (hmem : ∀ a, a ∈ ids ↔ R64 a ∧ p.wd a = true) (hlen : ids.length < 4100000000000) :
    Calls Tryz.prog 65 #[ptr t, I x] w fun e w' => ∃ v, e = .returned (.tuple #[v, I 0]) ∧ w'.ownsRow w.heap.size 3 1 v ids.length (ids.map fun z => I z) ∧ G w w' := by
  have K := hide (partyOf_any t s x w h hx)
  rw [hp] at K
  simp only [ptv, Option.isSome_some, if_true] at K
  have ho := h.pt x p hp
  have hc := ho.blk.cell
  simp only [Pt.cells] at hc
  have K1 := hide (keys_callW w p.wb)
  have K2 := hide (sorted_callW w p.wb _ ids ho.wm hids (fun a => by rw [hmem a]; exact and_congr Iff.rfl (by cases p.wd a <;> simp [wdv])) hlen)
  clear h hids hmem hlen ho hp hx
  go_enter Tryz.func65, Tryz.ntmps65
  go_wp2_with (first | (go_at_call 29; with_reducible refine (K.out).mono ?_; rintro e w' ⟨rfl, hw'⟩; have hw2 := hw'.symm; subst hw2; clear hw') | (go_at_call 96; with_reducible refine (K1.out).mono ?_; rintro e w' ⟨rfl, rfl⟩) | (go_at_call 46; with_reducible refine (K2.out).mono ?_; rintro e w' ⟨v, rfl, hrow, hg⟩) | fail)
  go_ret2
  exact ⟨v, rfl, own_lo hrow (by simp), ((G.refl w).alloc _).trans hg⟩
set_option maxRecDepth 100000 in
set_option maxHeartbeats 400000 in
theorem wounded_any (t : Nat) (s : Gs) (x : Int) (p : Pt) (w : World) (h : TT w t s) (hx : R64 x) (hp : s.lv x = some p) (hwR : ∀ y, p.wd y = true → R64 y) :
    Calls Tryz.prog 15 #[ptr t, I x] w fun e w' => e = .returned (.tuple #[.bool p.hurt, I 0]) ∧ G w w' := by
  have K := hide (partyOf_any t s x w h hx)
  rw [hp] at K
  simp only [ptv, Option.isSome_some, if_true] at K
  have ho := h.pt x p hp
  have K1 := hide (isWounded_any p w ho.blk ho.wm hwR)
  clear h ho hp hx hwR
  go_enter Tryz.func15, Tryz.ntmps15
  go_wp2_with (first | (go_at_call 29; with_reducible refine (K.out).mono ?_; rintro e w' ⟨rfl, hw'⟩; have hw2 := hw'.symm; subst hw2; clear hw') | (go_at_call 30; with_reducible refine (K1.out).mono ?_; rintro e w' ⟨rfl, hw'⟩; have hw2 := hw'.symm; subst hw2; clear hw') | fail)
  go_ret2
  exact ⟨rfl, G.refl _⟩
set_option maxRecDepth 100000 in
set_option maxHeartbeats 400000 in
theorem waiting_nil (x : Int) (w : World) : Calls Tryz.prog 16 #[.pointer none, I x] w fun e w' => e = .returned (.tuple #[(⟨0, ByteArray.empty, 0⟩ : Rs).v, I 0, I 1]) ∧ G w w' := by
  have K := hide (fun W => partyOf_nil x W)
  go_enter Tryz.func16, Tryz.ntmps16
  go_wp2_with (first | (go_at_call 29; with_reducible refine (K.out _).mono ?_; rintro e w' ⟨rfl, rfl⟩) | fail)
  exact bodyPost_ret (v := .tuple #[.agg #[I 0, .string ⟨#[]⟩, I 0], I 0, I 1]) (by simp [results, Tryz.results16, go_sem]) rfl ⟨rfl, (G.refl w).alloc _⟩
set_option maxRecDepth 100000 in
set_option maxHeartbeats 400000 in
theorem waiting_none (t : Nat) (s : Gs) (x : Int) (w : World) (h : TT w t s) (hx : R64 x) (hn : s.lv x = none) : Calls Tryz.prog 16 #[ptr t, I x] w fun e w' => e = .returned (.tuple #[(⟨0, ByteArray.empty, 0⟩ : Rs).v, I 0, I 80]) ∧ G w w' := by
  have K : Hid (∀ W, G w W → Calls Tryz.prog 29 #[ptr t, I x] W fun e w' => e = .returned (.tuple #[.pointer none, I 80]) ∧ w' = W) := fun W g => by
    have := partyOf_any t s x W (h.G g) hx
    rw [hn] at this
    exact this
  clear h hx hn
  go_enter Tryz.func16, Tryz.ntmps16
  go_wp2_with (first | (go_at_call 29; with_reducible refine (K.out _ ((G.refl w).alloc _)).mono ?_; rintro e w' ⟨rfl, rfl⟩) | fail)
  exact bodyPost_ret (v := .tuple #[.agg #[I 0, .string ⟨#[]⟩, I 0], I 0, I 80]) (by simp [results, Tryz.results16, go_sem]) rfl ⟨rfl, (G.refl w).alloc _⟩
set_option maxRecDepth 100000 in
set_option maxHeartbeats 400000 in
theorem waiting_any (t : Nat) (s : Gs) (x : Int) (p : Pt) (w : World) (h : TT w t s) (hx : R64 x) (hp : s.lv x = some p) :
    Calls Tryz.prog 16 #[ptr t, I x] w fun e w' => e = .returned (.tuple #[p.at_.v, I p.goal, I 0]) ∧ G w w' := by
  have gA : G w (w.alloc (.cells #[I 0, .string ⟨#[]⟩, I 0] 24)) := (G.refl w).alloc _
  have K := hide (partyOf_any t s x _ (h.G gA) hx)
  rw [hp] at K
  simp only [ptv, Option.isSome_some, if_true] at K
  have ho := (h.G gA.drew).pt x p hp
  have HB := hide ho.blk
  have HB0 := hide (h.pt x p hp).blk
  have HBX := hide (Blk.new w [I 0, .string ⟨#[]⟩, I 0] 24)
  have hne : ¬ p.blk = w.heap.size := by
    have := h.lt _ _ (h.pt x p hp).t1
    omega
  have HGA := hide gA
  clear h ho hp hx gA
  go_enter Tryz.func16, Tryz.ntmps16
  go_wp2_with (first | (go_at_call 29; with_reducible refine (K.out).mono ?_; rintro e w' ⟨rfl, hw'⟩; have hw2 := hw'.symm; subst hw2; clear hw') | fail)
  have hc := HB.out.cell
  simp only [Pt.cells] at hc
  have hc0 := HB0.out.cell
  simp only [Pt.cells] at hc0
  have hlt0 := HB0.out.lt
  have hx1 := HBX.out.drew.cell
  have hx2 := HBX.out.drew.frozen
  go_region
  all_goals go_wp2
  all_goals exact bodyPost_ret (v := .tuple #[.agg #[I p.at_.lv, .string p.at_.lb, I p.at_.id], I p.goal, I 0]) (by simp [results, Tryz.results16, go_sem]) rfl ⟨rfl, ((G.refl w).alloc _).drew⟩
end
open Go.RowKit

theorem clone_any (qs : List (Int × Int)) (v : Value) (w : World) (hq : QSl w v qs) (hlen : qs.length < 4100000000000) : Calls Tryz.prog 95 #[v] w fun e w' => ∃ v', e = .returned v' ∧ w'.ownsRow w.heap.size 74 2 v' qs.length (qc qs) ∧ G w w' := by
  have hmx : (4100000000000 : Nat) ≤ maxLen := of_decide_eq_true (by kernel_rfl)
  obtain ⟨i0, hi0, hz0, hzs, hzb⟩ := info_parts (show (Tryz.prog.info? 74).map (fun i => (i.zero, i.size, i.bytes)) = some (some (.agg #[.int .i64 0, .int .i64 0]), 2, 16) from by kernel_rfl)
  rcases hq with ⟨rfl, rfl⟩ | ⟨g, cap, rest, rfl, hb, hcap, hmax⟩
  · refine (AnyE.slices_Clone_nil Tryz.cloneHeld 0 0 w).mono ?_
    rintro e w' ⟨rfl, rfl⟩
    exact ⟨_, rfl, ⟨rfl, .inl ⟨rfl, rfl⟩⟩, G.refl _⟩
  · refine (AnyE.slices_Clone Tryz.cloneHeld i0 _ 2 16 hi0 hz0 hzs hzb rfl (by decide) Tryz.sizeOf74 g 0 qs.length cap (qc qs) w (qc_len qs) (by omega) (by omega) (fun j u hj => by
      have hjl := (List.getElem?_eq_some_iff.1 hj).1
      rw [Nat.zero_add, hb.cell, List.getElem?_append_left hjl]; exact hj) (fun u hu => qc_one hu)).mono ?_
    rintro e w' ⟨v', rfl, hrow, -, hbl⟩
    exact ⟨v', rfl, hrow, hbl⟩
set_option maxRecDepth 100000 in
set_option maxHeartbeats 400000 in
theorem queue_nil (r : Rs) (w : World) : Calls Tryz.prog 64 #[.pointer none, r.v] w fun e w' => e = .returned (.slice none 0 0) ∧ G w w' := by
  simp only [Rs.v]
  go_enter Tryz.func64, Tryz.ntmps64
  go_wp2
  go_quiet (fail)
  go_wp2
  go_ret
  exact ⟨rfl, ((G.refl w).alloc _).drewN _⟩
set_option maxRecDepth 100000 in
set_option maxHeartbeats 400000 in
theorem queue_none (t : Nat) (s : Gs) (r : Rs) (w : World) (h : TT w t s) (hr : r.ok) (hq : s.pl r = none) : Calls Tryz.prog 64 #[ptr t, r.v] w fun e w' => e = .returned (.slice none 0 0) ∧ G w w' := by
  have g1 := (G.refl w).alloc (.cells #[I r.lv, .string r.lb, I r.id] 24)
  have hc := (h.tb.G g1).cell
  have hbc := (Blk.new w [I r.lv, .string r.lb, I r.id] 24).cell
  have hlk := (h.pm.G g1).lookN kyR Tryz.underlying59 Tryz.zeroValue76 (kyR_ok.2 hr)
  rw [hq] at hlk
  simp only [Option.map_none, Option.getD_none] at hlk
  clear h hr hq g1
  simp only [Rs.v] at hlk ⊢
  go_enter Tryz.func64, Tryz.ntmps64
  go_wp2
  go_quiet (fail)
  go_wp2
  go_ret
  exact ⟨rfl, ((G.refl w).alloc _).drewN _⟩
set_option maxRecDepth 100000 in
set_option maxHeartbeats 400000 in
theorem holders_nil (r : Rs) (w : World) : Calls Tryz.prog 38 #[.pointer none, r.v] w fun e w' => e = .returned (.slice none 0 0) ∧ G w w' := by
  simp only [Rs.v]
  go_enter Tryz.func38, Tryz.ntmps38
  go_wp2
  go_quiet (fail)
  go_wp2
  go_ret
  exact ⟨rfl, ((G.refl w).alloc _).drewN _⟩
set_option maxRecDepth 100000 in
set_option maxHeartbeats 400000 in
theorem holders_none (t : Nat) (s : Gs) (r : Rs) (w : World) (h : TT w t s) (hr : r.ok) (hq : s.pl r = none) : Calls Tryz.prog 38 #[ptr t, r.v] w fun e w' => e = .returned (.slice none 0 0) ∧ G w w' := by
  have g1 := (G.refl w).alloc (.cells #[I r.lv, .string r.lb, I r.id] 24)
  have hc := (h.tb.G g1).cell
  have hbc := (Blk.new w [I r.lv, .string r.lb, I r.id] 24).cell
  have hlk := (h.pm.G g1).lookN kyR Tryz.underlying59 Tryz.zeroValue76 (kyR_ok.2 hr)
  rw [hq] at hlk
  simp only [Option.map_none, Option.getD_none] at hlk
  clear h hr hq g1
  simp only [Rs.v] at hlk ⊢
  go_enter Tryz.func38, Tryz.ntmps38
  go_wp2
  go_quiet (fail)
  go_wp2
  go_ret
  exact ⟨rfl, ((G.refl w).alloc _).drewN _⟩
set_option maxRecDepth 100000 in
set_option maxHeartbeats 400000 in
theorem queue_any (t : Nat) (s : Gs) (r : Rs) (q : Pl) (w : World) (h : TT w t s) (hr : r.ok) (hq : s.pl r = some q) (hlen : q.qs.length < 4100000000000) : Calls Tryz.prog 64 #[ptr t, r.v] w fun e w' => ∃ v, e = .returned v ∧ w'.ownsRow w.heap.size 74 2 v q.qs.length (qc q.qs) ∧ G w w' := by
  have g1 := (G.refl w).alloc (.cells #[I r.lv, .string r.lb, I r.id] 24)
  have hTA := h.G g1
  have hc := hTA.tb.cell
  have hbn := Blk.new w [I r.lv, .string r.lb, I r.id] 24
  have hbc := hbn.cell
  have hlk := hTA.pm.lookN kyR Tryz.underlying59 Tryz.zeroValue76 (kyR_ok.2 hr)
  rw [hq] at hlk
  simp only [Option.map_some, Option.getD_some] at hlk
  have ho := hTA.pl r q hq
  have KC : Hid (∀ W, G (w.alloc (.cells #[I r.lv, .string r.lb, I r.id] 24)) W → Calls Tryz.prog 95 #[q.q] W fun e w' => ∃ v', e = .returned v' ∧ w'.ownsRow w.heap.size 74 2 v' q.qs.length (qc q.qs) ∧ G w w' ∧ G W w') := fun W gW => by
    refine (clone_any q.qs q.q _ ((hTA.G gW).pl r q hq).q hlen).mono ?_
    rintro e w' ⟨v, rfl, hrow, hg⟩
    exact ⟨v, rfl, own_lo hrow (g1.trans gW).size, (g1.trans gW).trans hg, hg⟩
  obtain ⟨qa, qn, qcap, hqv⟩ := qsl_form ho.q
  rw [hqv] at KC
  have HTA := hide hTA; have HBX := hide hbn; have HRO := hide hr; have HQ := hide hq; have HQV := hide hqv; have HG1 := hide g1
  clear h hr hq g1 ho hqv hTA hbn
  simp only [Rs.v] at hlk ⊢
  go_enter Tryz.func64, Tryz.ntmps64
  go_wp2
  go_quiet (fail)
  go_wp2
  clear hc hbc hlk
  have HGV : Hid (G (w.alloc (.cells #[I r.lv, .string r.lb, I r.id] 24)) (((w.alloc (.cells #[I r.lv, .string r.lb, I r.id] 24)).drewN nq).drew)) := ((G.refl _).drewN nq).drew
  generalize (w.alloc (.cells #[I r.lv, .string r.lb, I r.id] 24)).drewN nq = V at HGV ⊢
  refine wp_region_noPanic ?_
  refine wp_region_held_drew (S := (fun W => G (w.alloc (.cells #[I r.lv, .string r.lb, I r.id] 24)) W)) (by kernel_rfl) (HGV.out) (fun hHeld => ?_)
  refine wpAnyH_take (i := 0) (v := ?_) rfl (by kernel_rfl) (by kernel_rfl) (by kernel_rfl) (fun _ _ _ h => h) (Or.inl ⟨by rfl, ?_⟩) hHeld ?_
  rotate_left 1
  · (intro w hSw; have hT := HTA.out.G hSw; have q1 := hT.tb.cell; have q2 := (HBX.out.G hSw).cell; have q3 := hT.pm.look kyR Tryz.underlying59 (Tryz.zeroValue76 _) (kyR_ok.2 HRO.out); rw [HQ.out] at q3; have q4 := (hT.pl r q HQ.out).blk.cell; rw [HQV.out] at q4; simp only [Option.map_some, Option.getD_some, Rs.v] at q3; go_simp; try with_reducible rfl)
  try simp only [Act.put, List.getElem_toArray, List.getElem_cons_zero, List.setIfInBounds_toArray, List.set_cons_zero, List.set_cons_succ]
  refine wpAnyH_take (i := 1) (v := ?_) rfl (by kernel_rfl) (by kernel_rfl) (by kernel_rfl) (fun _ _ _ h => h) (Or.inl ⟨by rfl, ?_⟩) hHeld ?_
  rotate_left 1
  · (intro w hSw; have hT := HTA.out.G hSw; have q1 := hT.tb.cell; have q2 := (HBX.out.G hSw).cell; have q3 := hT.pm.look kyR Tryz.underlying59 (Tryz.zeroValue76 _) (kyR_ok.2 HRO.out); rw [HQ.out] at q3; have q4 := (hT.pl r q HQ.out).blk.cell; rw [HQV.out] at q4; simp only [Option.map_some, Option.getD_some, Rs.v] at q3; go_simp; try with_reducible rfl)
  try simp only [Act.put, List.getElem_toArray, List.getElem_cons_zero, List.getElem_cons_succ, List.setIfInBounds_toArray, List.set_cons_zero, List.set_cons_succ]
  refine wpAnyH_take (i := 2) (v := ?_) rfl (by kernel_rfl) (by kernel_rfl) (by kernel_rfl) (fun _ _ _ h => h) (Or.inl ⟨by rfl, ?_⟩) hHeld ?_
  rotate_left 1
  · (intro w hSw; have hT := HTA.out.G hSw; have q1 := hT.tb.cell; have q2 := (HBX.out.G hSw).cell; have q3 := hT.pm.look kyR Tryz.underlying59 (Tryz.zeroValue76 _) (kyR_ok.2 HRO.out); rw [HQ.out] at q3; have q4 := (hT.pl r q HQ.out).blk.cell; rw [HQV.out] at q4; simp only [Option.map_some, Option.getD_some, Rs.v] at q3; go_simp; try with_reducible rfl)
  try simp only [Act.put, List.getElem_toArray, List.getElem_cons_zero, List.getElem_cons_succ, List.setIfInBounds_toArray, List.set_cons_zero, List.set_cons_succ]
  refine wpAnyH_take (i := 3) (v := ?_) rfl (by kernel_rfl) (by kernel_rfl) (by kernel_rfl) (fun _ _ _ h => h) (Or.inl ⟨by rfl, ?_⟩) hHeld ?_
  rotate_left 1
  · (intro w hSw; have hT := HTA.out.G hSw; have q1 := hT.tb.cell; have q2 := (HBX.out.G hSw).cell; have q3 := hT.pm.look kyR Tryz.underlying59 (Tryz.zeroValue76 _) (kyR_ok.2 HRO.out); rw [HQ.out] at q3; have q4 := (hT.pl r q HQ.out).blk.cell; rw [HQV.out] at q4; simp only [Option.map_some, Option.getD_some, Rs.v] at q3; go_simp; try with_reducible rfl)
  try simp only [Act.put, List.getElem_toArray, List.getElem_cons_zero, List.getElem_cons_succ, List.setIfInBounds_toArray, List.set_cons_zero, List.set_cons_succ]
  refine wpAnyH_take (i := 4) (v := ?_) rfl (by kernel_rfl) (by kernel_rfl) (by kernel_rfl) (fun _ _ _ h => h) (Or.inl ⟨by rfl, ?_⟩) hHeld ?_
  rotate_left 1
  · (intro w hSw; have hT := HTA.out.G hSw; have q1 := hT.tb.cell; have q2 := (HBX.out.G hSw).cell; have q3 := hT.pm.look kyR Tryz.underlying59 (Tryz.zeroValue76 _) (kyR_ok.2 HRO.out); rw [HQ.out] at q3; have q4 := (hT.pl r q HQ.out).blk.cell; rw [HQV.out] at q4; simp only [Option.map_some, Option.getD_some, Rs.v] at q3; go_simp; try with_reducible rfl)
  try simp only [Act.put, List.getElem_toArray, List.getElem_cons_zero, List.getElem_cons_succ, List.setIfInBounds_toArray, List.set_cons_zero, List.set_cons_succ]
  refine wpAnyH_take (i := 5) (v := ?_) rfl (by kernel_rfl) (by kernel_rfl) (by kernel_rfl) (fun _ _ _ h => h) (Or.inl ⟨by rfl, ?_⟩) hHeld ?_
  rotate_left 1
  · (intro w hSw; have hT := HTA.out.G hSw; have q1 := hT.tb.cell; have q2 := (HBX.out.G hSw).cell; have q3 := hT.pm.look kyR Tryz.underlying59 (Tryz.zeroValue76 _) (kyR_ok.2 HRO.out); rw [HQ.out] at q3; have q4 := (hT.pl r q HQ.out).blk.cell; rw [HQV.out] at q4; simp only [Option.map_some, Option.getD_some, Rs.v] at q3; go_simp; try with_reducible rfl)
  try simp only [Act.put, List.getElem_toArray, List.getElem_cons_zero, List.getElem_cons_succ, List.setIfInBounds_toArray, List.set_cons_zero, List.set_cons_succ]
  refine wpAnyH_take (i := 6) (v := ?_) rfl (by kernel_rfl) (by kernel_rfl) (by kernel_rfl) (fun _ _ _ h => h) (Or.inl ⟨by rfl, ?_⟩) hHeld ?_
  rotate_left 1
  · (intro w hSw; have hT := HTA.out.G hSw; have q1 := hT.tb.cell; have q2 := (HBX.out.G hSw).cell; have q3 := hT.pm.look kyR Tryz.underlying59 (Tryz.zeroValue76 _) (kyR_ok.2 HRO.out); rw [HQ.out] at q3; have q4 := (hT.pl r q HQ.out).blk.cell; rw [HQV.out] at q4; simp only [Option.map_some, Option.getD_some, Rs.v] at q3; go_simp; try with_reducible rfl)
  try simp only [Act.put, List.getElem_toArray, List.getElem_cons_zero, List.getElem_cons_succ, List.setIfInBounds_toArray, List.set_cons_zero, List.set_cons_succ]
  refine wpAnyH_take (i := 7) (v := ?_) rfl (by kernel_rfl) (by kernel_rfl) (by kernel_rfl) (fun _ _ _ h => h) (Or.inl ⟨by rfl, ?_⟩) hHeld ?_
  rotate_left 1
  · (intro w hSw; have hT := HTA.out.G hSw; have q1 := hT.tb.cell; have q2 := (HBX.out.G hSw).cell; have q3 := hT.pm.look kyR Tryz.underlying59 (Tryz.zeroValue76 _) (kyR_ok.2 HRO.out); rw [HQ.out] at q3; have q4 := (hT.pl r q HQ.out).blk.cell; rw [HQV.out] at q4; simp only [Option.map_some, Option.getD_some, Rs.v] at q3; go_simp; try with_reducible rfl)
  try simp only [Act.put, List.getElem_toArray, List.getElem_cons_zero, List.getElem_cons_succ, List.setIfInBounds_toArray, List.set_cons_zero, List.set_cons_succ]
  refine wpAnyH_take (i := 8) (v := ?_) rfl (by kernel_rfl) (by kernel_rfl) (by kernel_rfl) (fun _ _ _ h => h) (Or.inl ⟨by rfl, ?_⟩) hHeld ?_
  rotate_left 1
  · (intro w hSw; have hT := HTA.out.G hSw; have q1 := hT.tb.cell; have q2 := (HBX.out.G hSw).cell; have q3 := hT.pm.look kyR Tryz.underlying59 (Tryz.zeroValue76 _) (kyR_ok.2 HRO.out); rw [HQ.out] at q3; have q4 := (hT.pl r q HQ.out).blk.cell; rw [HQV.out] at q4; simp only [Option.map_some, Option.getD_some, Rs.v] at q3; go_simp; try with_reducible rfl)
  try simp only [Act.put, List.getElem_toArray, List.getElem_cons_zero, List.getElem_cons_succ, List.setIfInBounds_toArray, List.set_cons_zero, List.set_cons_succ]
  refine wpAnyH_ready (rs := [9]) (by kernel_rfl) (by simp) (AllReadyH.cons rfl (fun K hK => ?_) AllReadyH.nil)
  clear hHeld
  go_simp
  with_reducible refine (KC.out _ HGV.out).mono ?_
  rintro e w5 ⟨v5, rfl, hrow5, hg5, hgv5⟩
  go_wp2_with fail
  refine hK.out _ _ (HGV.out.trans hgv5) (fun hHeld => ?_)
  clear hK K
  try simp only [Act.put, List.getElem_toArray, List.getElem_cons_zero, List.getElem_cons_succ, List.setIfInBounds_toArray, List.set_cons_zero, List.set_cons_succ]
  refine wpAnyH_take (i := 10) (v := ?_) rfl (by kernel_rfl) (by kernel_rfl) (by kernel_rfl) (fun _ _ _ h => h) (Or.inl ⟨by rfl, ?_⟩) hHeld ?_
  rotate_left 1
  · (intro w hSw; (try dsimp only at hSw); go_simp; try with_reducible rfl)
  try simp only [Act.put, List.getElem_toArray, List.getElem_cons_zero, List.getElem_cons_succ, List.setIfInBounds_toArray, List.set_cons_zero, List.set_cons_succ]
  refine wpAnyH_done (by kernel_rfl) ?_ _
  refine NoPanic.normal ?_
  go_wp2
  go_ret
  exact ⟨v5, rfl, hrow5, hg5⟩
end
open Go.RowKit

theorem app_held (w7 : World) (lo : Nat) (u : Value) (qs : List (Int × Int)) (x m : Int) (hu : w7.ownsRow lo 74 2 u qs.length (qc qs)) (hl : qs.length < 4100000000000) (hlo : lo ≤ w7.heap.size) :
    ∃ v' w9, (Builtin.append_ #[78, 78] 78 #[u, .slice (some ⟨w7.heap.size, 0, none⟩) 1 1]).run Tryz.prog (w7.alloc (.cells #[I x, I m] 74)) = .ok v' w9 ∧ w9.ownsRow lo 74 2 v' (qs ++ [(x, m)]).length (qc (qs ++ [(x, m)])) ∧ (w7.alloc (.cells #[I x, I m] 74)).grownBy w9 u.ownBlock := by
  obtain ⟨i0, hi, hz0, hz1, hz2⟩ := info_parts (show (Tryz.prog.info? 74).map (fun i => (i.zero, i.size, i.bytes)) = some (some (.agg #[.int .i64 0, .int .i64 0]), 2, 16) from by kernel_rfl)
  have hmx : (4100000000001 : Nat) ≤ maxLen := of_decide_eq_true (by kernel_rfl)
  have gA : G w7 (w7.alloc (.cells #[I x, I m] 74)) := (G.refl w7).alloc _
  have hb := (Blk.new w7 [I x, I m] 74)
  have hu2 : (w7.alloc (.cells #[I x, I m] 74)).ownsRow lo 74 2 u qs.length (qc qs) := own_G hu gA
  obtain ⟨v', w9, q1, q2, q3, -, -⟩ := run_append_own_at (P := Tryz.prog) (w := w7.alloc (.cells #[I x, I m] 74)) lo 78 78 74 i0 _ 2 16 Tryz.underlying78 hi hz0 hz1 hz2 rfl (by decide) u _ _ hu2 ⟨w7.heap.size, 0, none⟩ 1 1 [I x, I m] (by simp) (fun j u hj => by
    have := hb.cell j
    rw [hj] at this
    rw [Addr.add_mid, Nat.zero_add]; exact this) (fun u hu => by simp at hu; rcases hu with rfl | rfl <;> rfl) (by omega) (by omega) (Nat.le_trans hlo gA.size)
  refine ⟨v', w9, q1, ?_, q3⟩
  rw [qc_snoc, List.length_append]
  exact q2
theorem take_map_snoc {ids : List Int} {n : Nat} {a : Int} (f : Int → Int × Int) (h : ids[n]? = some a) : (ids.take (n + 1)).map f = (ids.take n).map f ++ [f a] := by
  rw [List.take_add_one, h]; simp
set_option maxRecDepth 100000 in
set_option maxHeartbeats 1000000 in
theorem holders_any (t : Nat) (s : Gs) (r : Rs) (q : Pl) (ids : List Int) (w : World) (h : TT w t s) (hr : r.ok) (hq : s.pl r = some q) (hids : ids.Pairwise (· < ·)) (hmem : ∀ a, a ∈ ids ↔ R64 a ∧ q.hf a ≠ 0) (hlen : ids.length < 4100000000000) : Calls Tryz.prog 38 #[ptr t, r.v] w fun e w' => ∃ v, e = .returned v ∧ w'.ownsRow w.heap.size 74 2 v ids.length (qc (ids.map fun a => (a, q.hf a))) ∧ G w w' := by
  have g1 := (G.refl w).alloc (.cells #[I r.lv, .string r.lb, I r.id] 24)
  have hTA := h.G g1
  have hc := hTA.tb.cell
  have hbc := (Blk.new w [I r.lv, .string r.lb, I r.id] 24).cell
  have hlk := hTA.pm.lookN kyR Tryz.underlying59 Tryz.zeroValue76 (kyR_ok.2 hr)
  rw [hq] at hlk
  simp only [Option.map_some, Option.getD_some] at hlk
  have hqb := (hTA.pl r q hq).blk.cell
  obtain ⟨qa, qn, qcap, hqv⟩ := qsl_form (h.pl r q hq).q
  rw [hqv] at hqb
  have HM0 := hide (h.pl r q hq).hm
  have K1 : Hid (∀ W, Calls Tryz.prog 62 #[.map (some q.hb)] W fun e W' => e = .returned (.func (.func 92) #[] #[.pointer (some ⟨W.heap.size, 0, none⟩)]) ∧ W' = W.alloc (.cells #[.map (some q.hb)] 103)) := fun W => keys_callM W q.hb
  have K2 : Hid (∀ W, G w W → Calls Tryz.prog 46 #[.func (.func 92) #[] #[.pointer (some ⟨W.heap.size, 0, none⟩)]] (W.alloc (.cells #[.map (some q.hb)] 103)) fun e W' => ∃ v, e = .returned v ∧ W'.ownsRow w.heap.size 3 1 v ids.length (ids.map fun z => I z) ∧ G w W') := fun W gW => by
    refine (sorted_callM W q.hb _ ids (HM0.out.G gW) hids (fun a => by rw [hmem a]; exact and_congr Iff.rfl (by unfold nz; by_cases e : q.hf a = 0 <;> simp [e])) hlen).mono ?_
    rintro e W' ⟨v, rfl, hrow, hg⟩
    exact ⟨v, rfl, own_lo hrow (gW.alloc _).size, (gW.alloc _).trans hg⟩
  have HLEN := hide hlen
  have HMEM := hide hmem
  have HG1 := hide g1
  clear h hr hq g1 hTA hqv hids hmem hlen
  simp only [Rs.v] at hlk ⊢
  go_enter Tryz.func38, Tryz.ntmps38
  go_wp2
  go_quiet (fail)
  go_wp2
  go_quiet (fail)
  generalize hV : ((w.alloc (.cells #[I r.lv, .string r.lb, I r.id] 24)).drewN _).drewN _ = V
  have HGV : Hid (G w V) := by rw [← hV]; exact (HG1.out.drewN _).drewN _
  clear hV hc hbc hlk hqb
  go_wp2_with (first | (go_at_call 62; with_reducible refine (K1.out _).mono ?_; rintro e w' ⟨rfl, rfl⟩) | (go_at_call 46; with_reducible refine (K2.out _ HGV.out).mono ?_; rintro e w2 ⟨vi, rfl, hrow, hg2⟩; obtain ⟨ia, ic, hvi⟩ := row_form hrow; subst hvi) | fail)
  obtain ⟨vi, hvi⟩ : ∃ vi, vi = Value.slice ia ids.length ic := ⟨_, rfl⟩
  rw [← hvi] at hrow
  have HVI := hide hvi
  have HROW := hide hrow
  have HG2 := hide hg2
  clear hvi hrow hg2 HGV HG1 K1 K2
  go_loopw [6, 8, 33] (fun u _ i wr => ∃ n : Nat, n ≤ ids.length ∧ i = I (n : Int) ∧ wr.ownsRow w.heap.size 74 2 u ((ids.take n).map fun a => (a, q.hf a)).length (qc ((ids.take n).map fun a => (a, q.hf a))) ∧ wr.ownsRow w.heap.size 3 1 vi ids.length (ids.map fun z => I z) ∧ G w wr) (fun _ _ i _ => ids.length - (RowKit.intOf i).toNat)
  case atStart => exact ⟨0, Nat.zero_le _, rfl, ⟨rfl, .inl ⟨rfl, rfl⟩⟩, HROW.out, HG2.out⟩
  case round =>
    obtain ⟨n, hn, rfl, hu, hvr, hgw⟩ := hrel
    by_cases hlt : n < ids.length
    · obtain ⟨x, hx⟩ : ∃ x, ids[n]? = some x := ⟨_, List.getElem?_eq_getElem hlt⟩
      have hnI : (n : Int) < (ids.length : Int) := by omega
      have hwn : wrap64 ((n : Int) + 1) = (n : Int) + 1 := by have := HLEN.out; unfold wrap64; omega
      have HWN := hide hwn
      have hcel : ∃ ga, ia = some ⟨ga, 0, none⟩ ∧ wr.cell? ⟨ga, n, none⟩ = some (I x) := by
        have h2 := hvr
        rw [HVI.out] at h2
        rcases h2.2 with ⟨e, e2⟩ | ⟨ga, cap, cur, e, -⟩
        · omega
        · have e3 : ia = some ⟨ga, 0, none⟩ := by cases e; rfl
          rw [e] at h2
          refine ⟨ga, e3, ?_⟩
          rw [h2.cellAt _ (by omega), List.getElem?_map, hx]; rfl
      obtain ⟨ga, hia, hc0⟩ := hcel
      subst hia
      obtain ⟨m, hm⟩ : ∃ m, m = q.hf x := ⟨_, rfl⟩
      have hlk := (HM0.out.G hgw).look kyI Tryz.underlying103 (Tryz.zeroValue3 _) (kyI_ok.2 ((HMEM.out x).1 (List.mem_of_getElem? hx)).1)
      simp only [nz_get] at hlk
      rw [← hm] at hlk
      have htl : ((ids.take n).map fun a => (a, q.hf a)).length < 4100000000000 := by have := HLEN.out; rw [List.length_map, List.length_take]; omega
      obtain ⟨v9, w9, r1, r2, r3⟩ := app_held wr w.heap.size u6 _ x m hu htl hgw.size
      rw [hm] at r2
      rw [← take_map_snoc (fun a => (a, q.hf a)) hx] at r2
      have g9 : G w w9 := grown_G (hgw.alloc _) r3 (fun b hb => (World.ownsRow.lt hu b hb).1)
      have hcg : Chg (fun k => u6.ownBlock = some k) (wr.alloc (.cells #[I x, I m] 74)) w9 := ⟨r3.os, r3.tape, r3.output, r3.size, fun k hk hn => r3.block k hk (fun e => hn e.symm)⟩
      have hv9 := own_chg (own_G hvr ((G.refl wr).alloc (.cells #[I x, I m] 74))) hcg (fun b hb e => own_apart hu hvr (by decide) b e hb)
      have HR1 := hide r1; have HR2 := hide r2; have HG9 := hide g9; have HV9 := hide hv9; have HLT := hide hlt
      clear r1 r2 r3 g9 hcg hv9 hu hvr hgw htl hm hwn hlt hx hn
      go_wp2_with (first | (at_builtin; refine wpList_append_run rfl _ _ 78 rfl _ _ rfl rfl HR1.out ?_) | fail)
      exact ⟨⟨n + 1, HLT.out, by rw [HWN.out]; exact rl1 n, HR2.out, HV9.out, HG9.out⟩, by rw [HWN.out]; exact ms_end HLT.out⟩
    · have hne : n = ids.length := by omega
      subst hne
      have HU := hide hu
      have HGW := hide hgw
      have hnI : ¬ ((ids.length : Int) < (ids.length : Int)) := by omega
      clear hu hvr hgw hn hlt
      go_wp2
      go_ret
      have h := HU.out
      rw [List.take_length] at h
      rw [List.length_map] at h
      first
        | exact ⟨u6, rfl, h, HGW.out⟩
        | fail
end Go.Proofs.YtkbgifhhnnfgoaaGreatDoor
