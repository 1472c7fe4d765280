/- The document's disks: Stat, Image, Write. -/
import Derived.Test.YtbjbphhcmmaaoaaRf2
namespace Go.Proofs.Ytbjbphhcmmaaoaa
open Go.RowKit

set_option maxRecDepth 100000 in
set_option maxHeartbeats 4000000 in
theorem rstat_any (F : Nat → Prop) (m : DM) (p : Nat) (w : World) (h : RD w F p m) : Calls Try.prog 60 #[.pointer (some ⟨p, 0, none⟩)] w fun e w' => e = .returned (.agg #[I m.writes, I m.flushes, I m.pend.length, .bool m.off]) ∧ G w w' := by
  obtain ⟨_, ⟨lb, ps, hb, _, hrw, _⟩, _⟩ := h
  obtain ⟨pa, pc, rfl⟩ := hrw.slice
  clear hrw
  have hst : Blk (w.alloc (.cells #[I 0, I 0, I 0, .bool false] 105)) w.heap.size 105 [I 0, I 0, I 0, .bool false] := Blk.new w _ _
  have hb1 := hb.G ((G.refl w).alloc (.cells #[I 0, I 0, I 0, .bool false] 105))
  have hg := (G.refl w).alloc (.cells #[I 0, I 0, I 0, .bool false] 105)
  go_enter Try.func60, Try.ntmps60
  go_wp2_with fail
  generalize w.alloc (.cells #[I 0, I 0, I 0, .bool false] 105) = w1 at hst hb1 hg ⊢
  have HB := hide hb1
  have HS := hide hst
  have HG := hide hg
  clear hb1 hst hg hb
  have HNE : Hid (p ≠ w.heap.size) := HB.out.ne HS.out (by decide)
  have hc := HB.out.rheadC
  have hz := HS.out.frozen
  have hcs := HS.out.cell
  refine wp_region_noPanic ?_
  refine wp_region_held_drew (S := (fun W => Blk W p 98 (rheadC m (.slice (some ⟨lb, 0, none⟩) (m.n * 128) (m.n * 128)) (.slice pa m.pend.length pc)))) (by kernel_rfl) (HB.out.drew) (fun hHeld => ?_)
  refine wpAnyH_take (i := 0) (v := ?_) rfl (by kernel_rfl) (by kernel_rfl) (by kernel_rfl) (fun _ _ _ h => h) (Or.inl ⟨by rfl, ?_⟩) hHeld ?_
  rotate_left 1
  · (intro w hSw; (try dsimp only at hSw); go_simp; try with_reducible rfl)
  try simp only [Act.put, List.getElem_toArray, List.getElem_cons_zero, List.setIfInBounds_toArray, List.set_cons_zero, List.set_cons_succ]
  refine wpAnyH_take (i := 1) (v := ?_) rfl (by kernel_rfl) (by kernel_rfl) (by kernel_rfl) (fun _ _ _ h => h) (Or.inl ⟨by rfl, ?_⟩) hHeld ?_
  rotate_left 1
  · (intro w hSw; (try dsimp only at hSw); go_simp; try with_reducible rfl)
  try simp only [Act.put, List.getElem_toArray, List.getElem_cons_zero, List.getElem_cons_succ, List.setIfInBounds_toArray, List.set_cons_zero, List.set_cons_succ]
  refine wpAnyH_take (i := 2) (v := ?_) rfl (by kernel_rfl) (by kernel_rfl) (by kernel_rfl) (fun _ _ _ h => h) (Or.inl ⟨by rfl, ?_⟩) hHeld ?_
  rotate_left 1
  · (intro w hSw; (try dsimp only at hSw); go_simp; try with_reducible rfl)
  try simp only [Act.put, List.getElem_toArray, List.getElem_cons_zero, List.getElem_cons_succ, List.setIfInBounds_toArray, List.set_cons_zero, List.set_cons_succ]
  refine wpAnyH_take (i := 3) (v := ?_) rfl (by kernel_rfl) (by kernel_rfl) (by kernel_rfl) (fun _ _ _ h => h) (Or.inl ⟨by rfl, ?_⟩) hHeld ?_
  rotate_left 1
  · (intro w hSw; have hq := Blk.rheadC hSw; go_simp; try with_reducible rfl)
  try simp only [Act.put, List.getElem_toArray, List.getElem_cons_zero, List.getElem_cons_succ, List.setIfInBounds_toArray, List.set_cons_zero, List.set_cons_succ]
  refine wpAnyH_take (i := 4) (v := ?_) rfl (by kernel_rfl) (by kernel_rfl) (by kernel_rfl) (fun _ _ _ h => h) (Or.inl ⟨by rfl, ?_⟩) hHeld ?_
  rotate_left 1
  · (intro w hSw; (try dsimp only at hSw); go_simp; try with_reducible rfl)
  try simp only [Act.put, List.getElem_toArray, List.getElem_cons_zero, List.getElem_cons_succ, List.setIfInBounds_toArray, List.set_cons_zero, List.set_cons_succ]
  refine wpAnyH_take (i := 5) (v := ?_) rfl (by kernel_rfl) (by kernel_rfl) (by kernel_rfl) (fun _ _ _ h => h) (Or.inl ⟨by rfl, ?_⟩) hHeld ?_
  rotate_left 1
  · (intro w hSw; (try dsimp only at hSw); go_simp; try with_reducible rfl)
  try simp only [Act.put, List.getElem_toArray, List.getElem_cons_zero, List.getElem_cons_succ, List.setIfInBounds_toArray, List.set_cons_zero, List.set_cons_succ]
  refine wpAnyH_take (i := 6) (v := ?_) rfl (by kernel_rfl) (by kernel_rfl) (by kernel_rfl) (fun _ _ _ h => h) (Or.inl ⟨by rfl, ?_⟩) hHeld ?_
  rotate_left 1
  · (intro w hSw; (try dsimp only at hSw); go_simp; try with_reducible rfl)
  try simp only [Act.put, List.getElem_toArray, List.getElem_cons_zero, List.getElem_cons_succ, List.setIfInBounds_toArray, List.set_cons_zero, List.set_cons_succ]
  refine wpAnyH_take (i := 7) (v := ?_) rfl (by kernel_rfl) (by kernel_rfl) (by kernel_rfl) (fun _ _ _ h => h) (Or.inl ⟨by rfl, ?_⟩) hHeld ?_
  rotate_left 1
  · (intro w hSw; have hq := Blk.rheadC hSw; go_simp; try with_reducible rfl)
  try simp only [Act.put, List.getElem_toArray, List.getElem_cons_zero, List.getElem_cons_succ, List.setIfInBounds_toArray, List.set_cons_zero, List.set_cons_succ]
  refine wpAnyH_take (i := 8) (v := ?_) rfl (by kernel_rfl) (by kernel_rfl) (by kernel_rfl) (fun _ _ _ h => h) (Or.inl ⟨by rfl, ?_⟩) hHeld ?_
  rotate_left 1
  · (intro w hSw; (try dsimp only at hSw); go_simp; try with_reducible rfl)
  try simp only [Act.put, List.getElem_toArray, List.getElem_cons_zero, List.getElem_cons_succ, List.setIfInBounds_toArray, List.set_cons_zero, List.set_cons_succ]
  refine wpAnyH_take (i := 9) (v := ?_) rfl (by kernel_rfl) (by kernel_rfl) (by kernel_rfl) (fun _ _ _ h => h) (Or.inl ⟨by rfl, ?_⟩) hHeld ?_
  rotate_left 1
  · (intro w hSw; (try dsimp only at hSw); go_simp; try with_reducible rfl)
  try simp only [Act.put, List.getElem_toArray, List.getElem_cons_zero, List.getElem_cons_succ, List.setIfInBounds_toArray, List.set_cons_zero, List.set_cons_succ]
  refine wpAnyH_take (i := 10) (v := ?_) rfl (by kernel_rfl) (by kernel_rfl) (by kernel_rfl) (fun _ _ _ h => h) (Or.inl ⟨by rfl, ?_⟩) hHeld ?_
  rotate_left 1
  · (intro w hSw; (try dsimp only at hSw); go_simp; try with_reducible rfl)
  try simp only [Act.put, List.getElem_toArray, List.getElem_cons_zero, List.getElem_cons_succ, List.setIfInBounds_toArray, List.set_cons_zero, List.set_cons_succ]
  refine wpAnyH_take (i := 11) (v := ?_) rfl (by kernel_rfl) (by kernel_rfl) (by kernel_rfl) (fun _ _ _ h => h) (Or.inl ⟨by rfl, ?_⟩) hHeld ?_
  rotate_left 1
  · (intro w hSw; have hq := Blk.rheadC hSw; go_simp; try with_reducible rfl)
  try simp only [Act.put, List.getElem_toArray, List.getElem_cons_zero, List.getElem_cons_succ, List.setIfInBounds_toArray, List.set_cons_zero, List.set_cons_succ]
  refine wpAnyH_take (i := 12) (v := ?_) rfl (by kernel_rfl) (by kernel_rfl) (by kernel_rfl) (fun _ _ _ h => h) (Or.inl ⟨by rfl, ?_⟩) hHeld ?_
  rotate_left 1
  · (intro w hSw; (try dsimp only at hSw); go_simp; try with_reducible rfl)
  try simp only [Act.put, List.getElem_toArray, List.getElem_cons_zero, List.getElem_cons_succ, List.setIfInBounds_toArray, List.set_cons_zero, List.set_cons_succ]
  refine wpAnyH_take (i := 13) (v := ?_) rfl (by kernel_rfl) (by kernel_rfl) (by kernel_rfl) (fun _ _ _ h => h) (Or.inl ⟨by rfl, ?_⟩) hHeld ?_
  rotate_left 1
  · (intro w hSw; (try dsimp only at hSw); go_simp; try with_reducible rfl)
  try simp only [Act.put, List.getElem_toArray, List.getElem_cons_zero, List.getElem_cons_succ, List.setIfInBounds_toArray, List.set_cons_zero, List.set_cons_succ]
  refine wpAnyH_take (i := 14) (v := ?_) rfl (by kernel_rfl) (by kernel_rfl) (by kernel_rfl) (fun _ _ _ h => h) (Or.inl ⟨by rfl, ?_⟩) hHeld ?_
  rotate_left 1
  · (intro w hSw; (try dsimp only at hSw); go_simp; try with_reducible rfl)
  try simp only [Act.put, List.getElem_toArray, List.getElem_cons_zero, List.getElem_cons_succ, List.setIfInBounds_toArray, List.set_cons_zero, List.set_cons_succ]
  refine wpAnyH_take (i := 15) (v := ?_) rfl (by kernel_rfl) (by kernel_rfl) (by kernel_rfl) (fun _ _ _ h => h) (Or.inl ⟨by rfl, ?_⟩) hHeld ?_
  rotate_left 1
  · (intro w hSw; (try dsimp only at hSw); go_simp; try with_reducible rfl)
  try simp only [Act.put, List.getElem_toArray, List.getElem_cons_zero, List.getElem_cons_succ, List.setIfInBounds_toArray, List.set_cons_zero, List.set_cons_succ]
  refine wpAnyH_take (i := 16) (v := ?_) rfl (by kernel_rfl) (by kernel_rfl) (by kernel_rfl) (fun _ _ _ h => h) (Or.inl ⟨by rfl, ?_⟩) hHeld ?_
  rotate_left 1
  · (intro w hSw; have hq := Blk.rheadC hSw; go_simp; try with_reducible rfl)
  try simp only [Act.put, List.getElem_toArray, List.getElem_cons_zero, List.getElem_cons_succ, List.setIfInBounds_toArray, List.set_cons_zero, List.set_cons_succ]
  refine wpAnyH_take (i := 17) (v := ?_) rfl (by kernel_rfl) (by kernel_rfl) (by kernel_rfl) (fun _ _ _ h => h) (Or.inl ⟨by rfl, ?_⟩) hHeld ?_
  rotate_left 1
  · (intro w hSw; (try dsimp only at hSw); go_simp; try with_reducible rfl)
  try simp only [Act.put, List.getElem_toArray, List.getElem_cons_zero, List.getElem_cons_succ, List.setIfInBounds_toArray, List.set_cons_zero, List.set_cons_succ]
  refine wpAnyH_ready (rs := [18]) (by kernel_rfl) (by simp) (AllReadyH.cons rfl (fun K hK => ?_) AllReadyH.nil)
  clear hHeld
  go_simp
  refine hK.out _ _ (by repeat (first | exact HB.out | refine Blk.drew ?_ | refine Blk.off ?_ HNE.out)) (fun hHeld => ?_)
  clear hK K
  try simp only [Act.put, List.getElem_toArray, List.getElem_cons_zero, List.getElem_cons_succ, List.setIfInBounds_toArray, List.set_cons_zero, List.set_cons_succ]
  refine wpAnyH_done (by kernel_rfl) ?_ _
  refine NoPanic.normal ?_
  go_wp2_with fail
  all_goals refine bodyPost_ret (v := .agg #[I m.writes, I m.flushes, I m.pend.length, .bool m.off]) (by simp [results, Try.results60, go_sem, hcs]) rfl ⟨rfl, ?_⟩
  all_goals (repeat (first | exact HG.out | refine G.setCell ?_ (Nat.le_refl _) _ | refine G.drew ?_))
set_option maxRecDepth 100000 in
set_option maxHeartbeats 4000000 in
theorem rstat_nil (w : World) : Calls Try.prog 60 #[.pointer none] w fun e w' => e = .returned (.agg #[I 0, I 0, I 0, .bool false]) ∧ G w w' := by
  go_enter Try.func60, Try.ntmps60
  go_wp2
  refine bodyPost_ret (v := .agg #[I 0, I 0, I 0, .bool false]) (by simp [results, Try.results60, go_sem]) rfl ⟨rfl, ?_⟩
  repeat (first | exact G.refl _ | refine G.setCell ?_ (Nat.le_refl _) _ | refine G.drew ?_ | refine G.alloc ?_ _)
set_option maxRecDepth 100000 in
set_option maxHeartbeats 4000000 in
theorem rimage_any (F : Nat → Prop) (m : DM) (p : Nat) (w : World) (h : RD w F p m) : Calls Try.prog 37 #[.pointer (some ⟨p, 0, none⟩)] w fun e w' => e = .returned (.slice (some ⟨w.heap.size, 0, none⟩) (m.n * 128) (m.n * 128)) ∧ G w w' ∧ Blk w' w.heap.size 5 (m.laid.map bv) := by
  obtain ⟨ok, ⟨lb, ps, hb, hlb, _⟩, _⟩ := h
  have hc := hb.rheadC
  have hn := ok.n2
  have HSA : Hid (Calls Try.prog 45 #[.slice (some ⟨lb, 0, none⟩) (m.n * 128) (m.n * 128)] w fun e w' => e = .returned (.slice (some ⟨w.heap.size, 0, none⟩) (m.n * 128) (m.n * 128)) ∧ G w w' ∧ Blk w' w.heap.size 5 (m.laid.map bv)) := by
    have h1 := hlb.bytes
    have h2 := same_any _ m.laid (by rw [ok.ll]; omega) w h1
    rw [ok.ll] at h2
    exact h2
  clear hb hlb ok
  go_enter Try.func37, Try.ntmps37
  go_wp2_with fail
  refine HSA.out.mono ?_
  rintro e w1 ⟨rfl, hg, hbk⟩
  have HG := hide hg
  have HB := hide hbk
  clear hg hbk
  go_wp2
  go_ret
  exact ⟨rfl, HG.out, HB.out⟩
set_option maxRecDepth 100000 in
set_option maxHeartbeats 4000000 in
theorem rimage_nil (w : World) : Calls Try.prog 37 #[.pointer none] w fun e w' => e = .returned (.slice none 0 0) ∧ w' = w := by
  go_enter Try.func37, Try.ntmps37
  go_wp2
  go_ret
  exact ⟨rfl, rfl⟩
set_option maxRecDepth 100000 in
set_option maxHeartbeats 4000000 in
theorem rwrite_nil (n : Int) (x : Value) (w : World) : Calls Try.prog 46 #[.pointer none, .int .i64 n, x] w fun e w' => e = .returned (.int .i64 1) ∧ w' = w := by
  go_enter Try.func46, Try.ntmps46
  go_wp2
  go_ret
  exact ⟨rfl, rfl⟩
set_option maxRecDepth 100000 in
set_option maxHeartbeats 4000000 in
theorem rwrite_no (F : Nat → Prop) (m : DM) (p : Nat) (n : Int) (da : Option Addr) (cap : Nat) (xs : List Nat) (hno : ¬ (0 ≤ n ∧ n < m.n) ∨ xs.length ≠ 128) (w : World) (h : RD w F p m) :
    Calls Try.prog 46 #[.pointer (some ⟨p, 0, none⟩), .int .i64 n, .slice da xs.length cap] w fun e w' => e = .returned (.int .i64 (m.write n xs).2) ∧ (m.write n xs).1 = m ∧ w' = w := by
  have HSE := hide (rsectors_any F m p w h)
  clear h
  by_cases h0 : n < 0
  · have HW : Hid (m.write n xs = (m, 20)) := by unfold Hid DM.write; rw [if_pos (by omega)]
    clear hno
    go_enter Try.func46, Try.ntmps46
    go_wp2
    go_ret
    rw [HW.out]
    exact ⟨rfl, rfl, rfl⟩
  · by_cases h1 : n < m.n
    · have hl : xs.length ≠ 128 := hno.resolve_left (fun h => h (by omega))
      have HW : Hid (m.write n xs = (m, 21)) := by unfold Hid DM.write; rw [if_neg (by omega), if_pos hl]
      have hge : ¬ (m.n : Int) ≤ n := by omega
      have hlI : ¬ ((xs.length : Int) = 128) := by omega
      have hlN : ¬ (xs.length = 128) := hl
      clear hno hl
      go_enter Try.func46, Try.ntmps46
      go_wp2_with fail
      refine HSE.out.mono ?_
      rintro e w1 ⟨rfl, rfl⟩
      clear HSE
      go_wp2
      go_ret
      rw [HW.out]
      exact ⟨rfl, rfl, rfl⟩
    · have HW : Hid (m.write n xs = (m, 20)) := by unfold Hid DM.write; rw [if_pos (by omega)]
      have hge : (m.n : Int) ≤ n := by omega
      clear hno h1
      go_enter Try.func46, Try.ntmps46
      go_wp2_with fail
      refine HSE.out.mono ?_
      rintro e w1 ⟨rfl, rfl⟩
      clear HSE
      go_wp2
      go_ret
      rw [HW.out]
      exact ⟨rfl, rfl, rfl⟩
/-- Blocks that are there. -/
theorem RowW.up {w : World} {v : Value} {l : List (Nat × List Nat)} {F N : Nat → Prop} {b : Nat} (h : RowW w v l (fun k => F k ∨ b ≤ k) N) : RowW w v l (fun k => F k ∨ (b ≤ k ∧ k < w.heap.size)) N := by
  obtain ⟨⟨ds, h1, h2, h3⟩, h4⟩ := h
  exact ⟨⟨ds, h1, h2, fun i e d hi hd => ⟨(h3 i e d hi hd).1, (h3 i e d hi hd).2.1.imp id (fun q => ⟨q, (h3 i e d hi hd).1.lt⟩), (h3 i e d hi hd).2.2⟩⟩, fun g hg => (h4 g hg).imp id (fun q => ⟨q, own_lt h2 hg⟩)⟩
set_option maxRecDepth 100000 in
set_option maxHeartbeats 4000000 in
theorem rwrite_yes (F : Nat → Prop) (m : DM) (p at' : Nat) (ha : at' < m.n) (v : Value) (xs : List Nat) (hx : xs.length = 128) (hxb : ∀ x ∈ xs, x < 256) (hB : m.few 549755813888) (w : World) (h : RD w F p m) (hl : Bytes w v xs) (hF : ∀ j, Value.blk v j → ¬ F j) :
    Calls Try.prog 46 #[.pointer (some ⟨p, 0, none⟩), .int .i64 at', v] w fun e w' => e = .returned (.int .i64 (m.write at' xs).2) ∧ RD w' (Up F w w') p (m.write at' xs).1 ∧ Chg F w w' := by
  have HP := hide h
  have HSE := hide (rsectors_any F m p w h)
  have HX := hide hx
  have HW : Hid (m.write at' xs = if m.spent.2 then ({ m.spent.1 with writes := m.spent.1.writes + 1, pend := m.spent.1.pend ++ [(at', xs)] }, 0) else (m.spent.1, 2)) := by
    unfold Hid DM.write
    rw [if_neg (by simp; exact ha), if_neg (by simp [hx])]
    rfl
  have HHL := hide hl
  have HHF := hide hF
  have hge : ¬ (m.n : Int) ≤ (at' : Int) := by omega
  obtain ⟨ba, cap, rfl, _, _⟩ := hl
  have HFP := hide h.f
  have hxi : (xs.length : Int) = 128 := by omega
  cases hoff : m.off with
  | true =>
    have HS : Hid (m.spent = (m, false)) := by unfold Hid DM.spent; rw [hoff]; rfl
    obtain ⟨_, ⟨lb, ps, hb, _⟩, _⟩ := h
    have hc := hb.rheadC
    rw [hoff] at hc
    clear hb
    go_enter Try.func46, Try.ntmps46
    go_wp2_with fail
    refine HSE.out.mono ?_
    rintro e w1 ⟨rfl, rfl⟩
    clear HSE
    go_wp2
    go_ret
    rw [HW.out, HS.out]
    exact ⟨rfl, HP.out.mono (fun k hk => .inl hk), Chg.refl _ _⟩
  | false =>
    have HOP := hide (rop_any F m p hoff w h)
    have HOF := hide hoff
    obtain ⟨ok0, ⟨lb0, ps0, hb0, _⟩, _⟩ := h
    have hc := hb0.rheadC
    rw [hoff] at hc
    clear hb0 ok0
    go_enter Try.func46, Try.ntmps46
    go_wp2_with fail
    refine HSE.out.mono ?_
    rintro e w1 ⟨rfl, rfl⟩
    clear HSE
    go_wp2_with fail
    refine HOP.out.mono ?_
    rintro e w2 ⟨rfl, hrd, hch, hsz⟩
    clear HOP hc
    cases hsp : m.spent.2 with
    | false =>
      have HSPF : Hid (m.write at' xs = (m.spent.1, 2)) := by unfold Hid; rw [HW.out, hsp]; rfl
      have HRD := hide hrd
      have HCH := hide hch
      clear hrd hch HW
      go_wp2
      go_ret
      rw [HSPF.out]
      exact ⟨rfl, HRD.out.mono (fun k hk => .inl hk), HCH.out.mono (fun k e => by subst e; exact HFP.out)⟩
    | true =>
      obtain ⟨m0, hm0⟩ : ∃ x, x = m.spent.1 := ⟨_, rfl⟩
      have HWR : Hid (m.write at' xs = ({ m0 with writes := m0.writes + 1, pend := m0.pend ++ [(at', xs)] }, 0)) := by unfold Hid; rw [HW.out, hsp, hm0]; rfl
      have hs := spent_same m
      rw [← hm0] at hs hrd
      obtain ⟨hs1, hs2, hs3, hs4, hs5⟩ := hs
      have hwl := hB.w
      have hpl := hB.p
      rw [← hs4] at hwl
      rw [← hs3] at hpl
      have HS1 := hide hs1
      have HPL := hide hpl
      have hwI : (m0.writes : Int) + 1 ≤ 9223372036854775807 := by omega
      obtain ⟨ok0, ⟨lb, ps, hb2, hlb2, hrw2, hfl⟩, hfp⟩ := hrd
      have HO1 := hide ok0
      have HB2 := hide hb2
      have HLB := hide hlb2
      have HFL := hide hfl
      have HRW : Hid (RowW w2 ps m0.pend (fun k => F k ∨ w1.heap.size ≤ k) (fun k => k = lb)) := hrw2.mono (fun k hk => .inl hk) (fun _ h => h)
      have HZ2 := hide hsz
      have HNL : Hid (¬ w2.heap.size = lb) := by unfold Hid; have := hlb2.lt; omega
      have HCH := hide hch
      have HSM : Hid (Calls Try.prog 45 #[.slice ba 128 cap] w2.drew fun e w' => e = .returned (.slice (some ⟨w2.heap.size, 0, none⟩) 128 128) ∧ G w2.drew w' ∧ Blk w' w2.heap.size 5 (xs.map bv)) := by
        have hbb : Bytes w2.drew (.slice ba xs.length cap) xs := (HHL.out.chg HCH.out (fun j hj e => HHF.out j hj (by subst e; exact HFP.out))).G (G.drew (G.refl _))
        have := same_any _ xs (by rw [HX.out]; decide) w2.drew hbb
        rw [HX.out] at this
        exact this
      clear hrw2 hb2 hlb2 hfl ok0 hch HW hsp hm0 hs1 hs2 hs3 hs4 hs5 hpl hsz
      go_wp2_with fail
      refine wp_region_noPanic ?_
      refine wp_region_L (S := (fun W => Blk W p 98 (rheadC m0 (.slice (some ⟨lb, 0, none⟩) (m0.n * 128) (m0.n * 128)) ps))) 13 (by kernel_rfl) (HB2.out.drew) (fun hHeld => ?_)
      refine wpAnyL_take (i := 0) (v := ?_) rfl (by kernel_rfl) (by kernel_rfl) (by kernel_rfl) (by kernel_rfl) (fun _ _ _ h => h) (Or.inl ⟨by rfl, ?_⟩) hHeld ?_
      rotate_left 1
      · (intro w hSw; (try dsimp only at hSw); go_simp; try with_reducible rfl)
      try simp only [Act.put, List.getElem_toArray, List.getElem_cons_zero, List.setIfInBounds_toArray, List.set_cons_zero, List.set_cons_succ]
      refine wpAnyL_take (i := 1) (v := ?_) rfl (by kernel_rfl) (by kernel_rfl) (by kernel_rfl) (by kernel_rfl) (fun _ _ _ h => h) (Or.inl ⟨by rfl, ?_⟩) hHeld ?_
      rotate_left 1
      · (intro w hSw; (try dsimp only at hSw); go_simp; try with_reducible rfl)
      try simp only [Act.put, List.getElem_toArray, List.getElem_cons_zero, List.getElem_cons_succ, List.setIfInBounds_toArray, List.set_cons_zero, List.set_cons_succ]
      refine wpAnyL_take (i := 2) (v := ?_) rfl (by kernel_rfl) (by kernel_rfl) (by kernel_rfl) (by kernel_rfl) (fun _ _ _ h => h) (Or.inl ⟨by rfl, ?_⟩) hHeld ?_
      rotate_left 1
      · (intro w hSw; (try dsimp only at hSw); go_simp; try with_reducible rfl)
      try simp only [Act.put, List.getElem_toArray, List.getElem_cons_zero, List.getElem_cons_succ, List.setIfInBounds_toArray, List.set_cons_zero, List.set_cons_succ]
      refine wpAnyL_take (i := 3) (v := ?_) rfl (by kernel_rfl) (by kernel_rfl) (by kernel_rfl) (by kernel_rfl) (fun _ _ _ h => h) (Or.inl ⟨by rfl, ?_⟩) hHeld ?_
      rotate_left 1
      · (intro w hSw; (try dsimp only at hSw); go_simp; try with_reducible rfl)
      try simp only [Act.put, List.getElem_toArray, List.getElem_cons_zero, List.getElem_cons_succ, List.setIfInBounds_toArray, List.set_cons_zero, List.set_cons_succ]
      refine wpAnyL_take (i := 4) (v := ?_) rfl (by kernel_rfl) (by kernel_rfl) (by kernel_rfl) (by kernel_rfl) (fun _ _ _ h => h) (Or.inl ⟨by rfl, ?_⟩) hHeld ?_
      rotate_left 1
      · (intro w hSw; have hq := Blk.rheadC hSw; go_simp; try with_reducible rfl)
      try simp only [Act.put, List.getElem_toArray, List.getElem_cons_zero, List.getElem_cons_succ, List.setIfInBounds_toArray, List.set_cons_zero, List.set_cons_succ]
      refine wpAnyL_take (i := 5) (v := ?_) rfl (by kernel_rfl) (by kernel_rfl) (by kernel_rfl) (by kernel_rfl) (fun _ _ _ h => h) (Or.inl ⟨by rfl, ?_⟩) hHeld ?_
      rotate_left 1
      · (intro w hSw; (try dsimp only at hSw); go_simp; try with_reducible rfl)
      try simp only [Act.put, List.getElem_toArray, List.getElem_cons_zero, List.getElem_cons_succ, List.setIfInBounds_toArray, List.set_cons_zero, List.set_cons_succ]
      refine wpAnyL_take (i := 6) (v := ?_) rfl (by kernel_rfl) (by kernel_rfl) (by kernel_rfl) (by kernel_rfl) (fun _ _ _ h => h) (Or.inl ⟨by rfl, ?_⟩) hHeld ?_
      rotate_left 1
      · (intro w hSw; (try dsimp only at hSw); go_simp; try with_reducible rfl)
      try simp only [Act.put, List.getElem_toArray, List.getElem_cons_zero, List.getElem_cons_succ, List.setIfInBounds_toArray, List.set_cons_zero, List.set_cons_succ]
      refine wpAnyL_one (i := 7) (by kernel_rfl) rfl (by kernel_rfl) (fun K hK => ?_)
      clear hHeld
      go_simp
      with_reducible refine HSM.out.mono ?_
      rintro e w5 ⟨rfl, hb, hbk⟩
      have HG5 : Hid (G w2 w5) := G.trans (G.drew (G.refl _)) hb
      have HK5 : Hid (Blk w5 w2.heap.size 5 (xs.map bv)) := hbk
      clear hb hbk
      go_wp2_with fail
      refine hK.out _ _ (HB2.out.G HG5.out) (fun hHeld => ?_)
      clear hK K
      try simp only [Act.put, List.getElem_toArray, List.getElem_cons_zero, List.getElem_cons_succ, List.setIfInBounds_toArray, List.set_cons_zero, List.set_cons_succ]
      refine wpAnyL_take (i := 8) (v := ?_) rfl (by kernel_rfl) (by kernel_rfl) (by kernel_rfl) (by kernel_rfl) (fun _ _ _ h => h) (Or.inl ⟨by rfl, ?_⟩) hHeld ?_
      rotate_left 1
      · (intro w hSw; (try dsimp only at hSw); go_simp; try with_reducible rfl)
      try simp only [Act.put, List.getElem_toArray, List.getElem_cons_zero, List.getElem_cons_succ, List.setIfInBounds_toArray, List.set_cons_zero, List.set_cons_succ]
      refine wpAnyL_one (i := 9) (by kernel_rfl) rfl (by kernel_rfl) (fun K hK => ?_)
      clear hHeld
      go_simp
      have HG6 : Hid (G w2 (w5.alloc (.cells #[I at', .slice (some ⟨w2.heap.size, 0, none⟩) 128 128] 96))) := HG5.out.alloc _
      have HB6 : Hid (Blk (w5.alloc (.cells #[I at', .slice (some ⟨w2.heap.size, 0, none⟩) 128 128] 96)) w5.heap.size 96 [I at', .slice (some ⟨w2.heap.size, 0, none⟩) 128 128]) := Blk.new w5 [I at', .slice (some ⟨w2.heap.size, 0, none⟩) 128 128] 96
      have HK6 : Hid (Blk (w5.alloc (.cells #[I at', .slice (some ⟨w2.heap.size, 0, none⟩) 128 128] 96)) w2.heap.size 5 (xs.map bv)) := HK5.out.G ((G.refl _).alloc _)
      generalize w5.alloc (.cells #[I at', .slice (some ⟨w2.heap.size, 0, none⟩) 128 128] 96) = w6 at HG6 HB6 HK6 ⊢
      refine hK.out _ _ (HB2.out.G HG6.out) (fun hHeld => ?_)
      clear hK K
      try simp only [Act.put, List.getElem_toArray, List.getElem_cons_zero, List.getElem_cons_succ, List.setIfInBounds_toArray, List.set_cons_zero, List.set_cons_succ]
      refine wpAnyL_one (i := 10) (by kernel_rfl) rfl (by kernel_rfl) (fun K hK => ?_)
      clear hHeld
      obtain ⟨g7, cap7, w7, hrun, hr7, hch7⟩ := app_sw (e := (at', xs)) 88 (HRW.out.G HG6.out) HPL.out HB6.out HK6.out (.inr (Nat.le_of_eq HZ2.out.symm)) HNL.out (.inr (by have := HG6.out.size; have := HZ2.out; omega)) (own_ne (RowW.own (HRW.out.G HG6.out)) HK6.out (by decide))
      have HR7 := hide hr7
      have HC7 := hide hch7
      clear hr7 hch7
      refine (if_pos rfl).mpr ?_
      refine wp_of_exec (exec_append _ _ 88 rfl ps (.slice (some ⟨w5.heap.size, 0, none⟩) 1 1) rfl rfl 88 rfl hrun) ?_
      clear hrun
      refine hK.out _ _ ((HB2.out.G HG6.out).chg HC7.out (own_ne (RowW.own (HRW.out.G HG6.out)) (HB2.out.G HG6.out) (by decide))) (fun hHeld => ?_)
      clear hK K
      try simp only [Act.put, List.getElem_toArray, List.getElem_cons_zero, List.getElem_cons_succ, List.setIfInBounds_toArray, List.set_cons_zero, List.set_cons_succ]
      refine wpAnyL_take2 12 (i := 11) (v := ?_) rfl (by kernel_rfl) (by kernel_rfl) (by kernel_rfl) (by kernel_rfl) (fun _ _ _ h => h) (Or.inl ⟨by rfl, ?_⟩) hHeld ?_
      rotate_left 1
      · (intro w hSw; (try dsimp only at hSw); go_simp; try with_reducible rfl)
      try simp only [Act.put, List.getElem_toArray, List.getElem_cons_zero, List.getElem_cons_succ, List.setIfInBounds_toArray, List.set_cons_zero, List.set_cons_succ]
      refine wpAnyL_take (i := 12) (v := ?_) rfl (by kernel_rfl) (by kernel_rfl) (by kernel_rfl) (by kernel_rfl) (fun _ _ _ h => h) (Or.inl ⟨by rfl, ?_⟩) hHeld ?_
      rotate_left 1
      · (intro w hSw; (try dsimp only at hSw); go_simp; try with_reducible rfl)
      try simp only [Act.put, List.getElem_toArray, List.getElem_cons_zero, List.getElem_cons_succ, List.setIfInBounds_toArray, List.set_cons_zero, List.set_cons_succ]
      refine wpAnyL_last (by kernel_rfl) rfl (by kernel_rfl) (fun K hK => ?_)
      clear hHeld
      have hc7 := ((HB2.out.G HG6.out).chg HC7.out (own_ne (RowW.own (HRW.out.G HG6.out)) (HB2.out.G HG6.out) (by decide))).rheadC
      have hz7 := ((HB2.out.G HG6.out).chg HC7.out (own_ne (RowW.own (HRW.out.G HG6.out)) (HB2.out.G HG6.out) (by decide))).frozen
      go_simp
      refine hK.out _ _ ?_
      clear hK K
      refine NoPanic.normal ?_
      have HB7 := hide ((HB2.out.G HG6.out).chg HC7.out (own_ne (RowW.own (HRW.out.G HG6.out)) (HB2.out.G HG6.out) (by decide)))
      have HLB7 := hide ((HLB.out.G HG6.out).chg HC7.out (own_ne (RowW.own (HRW.out.G HG6.out)) (HLB.out.G HG6.out) (by decide)))
      have hle : (m0.pend ++ [(at', xs)]).length = m0.pend.length + 1 := by simp
      have HR8 := HR7.out
      rw [hle] at HR8
      have HR9 := hide HR8
      have HB8 := hide (HB7.out.set 1 (.slice (some ⟨g7, 0, none⟩) (m0.pend.length + 1) cap7))
      have HNE : Hid (p ≠ lb) := HB2.out.ne HLB.out (by decide)
      have hc8 := HB8.out.cell
      have hz8 := HB8.out.frozen
      simp only [rheadC, List.set_cons_succ, List.set_cons_zero] at hc8
      clear HR8 HR7 hle hc7 hz7
      have HC8 := hide (chg1 w7 p 1 (.slice (some ⟨g7, 0, none⟩) (m0.pend.length + 1) cap7))
      generalize w7.setCell ⟨p, 1, none⟩ (.slice (some ⟨g7, 0, none⟩) (m0.pend.length + 1) cap7) = w8 at HB8 hc8 hz8 HC8 ⊢
      go_wp2
      go_ret
      rw [HWR.out]
      have hc9 := chg1 w8 p 4 (.int .i64 ((m0.writes : Int) + 1))
      have hrow : RowW (w8.setCell ⟨p, 4, none⟩ (.int .i64 ((m0.writes : Int) + 1))) (.slice (some ⟨g7, 0, none⟩) (m0.pend.length + 1) cap7) (m0.pend ++ [(at', xs)]) (fun k => F k ∨ w1.heap.size ≤ k) (fun k => k = lb) := by
        obtain ⟨⟨ds, r1, r2, r3⟩, r4⟩ := HR9.out
        have hcc := HC8.out.trans hc9
        exact ⟨⟨ds, r1, own_chg r2 hcc (fun g hg e => by subst e; exact own_ne r2 HB7.out (by decide) hg), fun i e d hi hd => ⟨(r3 i e d hi hd).1.chg hcc (fun e' => (r3 i e d hi hd).1.ne HB7.out (by decide) e'), (r3 i e d hi hd).2⟩⟩, r4⟩
      have hall : Chg (fun k => k = p ∨ ps.ownBlock = some k) w1 (w8.setCell ⟨p, 4, none⟩ (.int .i64 ((m0.writes : Int) + 1))) := ((((HCH.out.mono (fun k e => .inl e)).trans HG6.out.chg).trans (HC7.out.mono (fun k e => .inr e))).trans (HC8.out.mono (fun k e => .inl e))).trans (hc9.mono (fun k e => .inl e))
      refine ⟨rfl, ⟨pend_add HO1.out (by rw [HS1.out]; exact ha) HX.out hxb _, ⟨lb, .slice (some ⟨g7, 0, none⟩) (m0.pend.length + 1) cap7, ?_, ?_, hrow.up, .inl HFL.out⟩, .inl HFP.out⟩, hall.mono (fun k e => ?_)⟩
      · exact HB8.out.set 4 (.int .i64 ((m0.writes : Int) + 1))
      · exact (HLB7.out.chg HC8.out (fun e => HNE.out e.symm)).chg hc9 (fun e => HNE.out e.symm)
      · rcases e with e | e
        · subst e; exact HFP.out
        · rcases HRW.out.f k e with h | h
          · exact h
          · have := own_lt (RowW.own HRW.out) e
            have := HZ2.out
            omega
end Go.Proofs.Ytbjbphhcmmaaoaa
