/- The reader: Parse. -/
import Derived.Test.YtonhocmjecgfbaaGreatDoorRd12
namespace Go.Proofs.YtonhocmjecgfbaaGreatDoor
section
open Go.RowKit

section
variable {P : Program} {ops : Array Oper} {rest : List Oper} {op : Oper} {a : Act} {w : World} {K : Act → World → Prop} {Q : Exit → Act → World → Prop}
theorem wp_of_exec {v : Value} {w' : World} (h : (execOp a.eval op).run P w = .ok (.value v) w') (hK : K (a.put op.dst v) w') : op.wp P a w K Q := by
  unfold Oper.wp
  rw [h]
  exact hK
theorem exec_append {ρ : Operand → Value} (s x : Operand) (t : TypeId) (ho : op.op = .call { callee := .builtin .append, args := #[s, x], argTypes := #[t, t] }) (y z : Value) (hs : ρ s = y) (hx : ρ x = z) (ty : TypeId) (hty : op.type = ty) {v : Value} {w' : World} (h : (Builtin.append_ #[t, t] ty #[y, z]).run P w = .ok v w') : (execOp ρ op).run P w = .ok (.value v) w' := by
  subst hty
  unfold execOp
  simp only [ho, resolve, invoke, builtin, Sem.run_bind, Sem.run_pure, Result.andThen_ok, List.map_toArray, List.map_cons, List.map_nil, hs, hx, h]
end

/-- A part in memory: what it skips, what it is limited to. -/
structure PtM (pb : Nat) (a b : Int) (W : World) : Prop where
  s : W.cell? ⟨pb, 6, none⟩ = some (I a)
  l : W.cell? ⟨pb, 7, none⟩ = some (I b)
theorem PtM.keep {pb : Nat} {a b : Int} {W W' : World} (h : PtM pb a b W) (hb : W'.heap[pb]? = W.heap[pb]?) : PtM pb a b W' := ⟨(World.cell?_of_block hb).trans h.s, (World.cell?_of_block hb).trans h.l⟩
theorem PtM.G {pb : Nat} {a b : Int} {W W' : World} (h : PtM pb a b W) (g : G W W') : PtM pb a b W' := h.keep (g.block pb (cell_lt h.s))
theorem PtM.set {pb : Nat} {a b : Int} {W : World} (h : PtM pb a b W) {k : Nat} (o : Nat) (v : Value) (hk : k ≠ pb) : PtM pb a b (W.setCell ⟨k, o, none⟩ v) := h.keep (set_other W k o pb v hk)
theorem app_part (gb : Nat) (cap : Nat) (a b : Int) (W : World) : ∃ pb c2 W3, (Builtin.append_ #[32, 32] 32 #[.slice none 0 0, .slice (some ⟨W.heap.size, 0, none⟩) 1 1]).run Tryz.prog (W.alloc (.cells #[.slice none 0 0, .slice none 0 0, .bool true, .bool false, .slice (some ⟨gb, 0, none⟩) 1 cap, .slice none 0 0, I a, I b, .slice none 0 0] 42)) = .ok (.slice (some ⟨pb, 0, none⟩) 1 c2) W3 ∧ G W W3 ∧ PtM pb a b W3 ∧ W.heap.size ≤ pb ∧ 1 ≤ c2 := by
  obtain ⟨i0, hi, hz0, hz1, hz2⟩ := info_parts (show (Tryz.prog.info? 42).map (fun i => (i.zero, i.size, i.bytes)) = some (some (.agg #[.slice none 0 0, .slice none 0 0, .bool false, .bool false, .slice none 0 0, .slice none 0 0, I 0, I 0, .slice none 0 0]), 9, 144) from by kernel_rfl)
  have g3 : G W (W.alloc (.cells #[.slice none 0 0, .slice none 0 0, .bool true, .bool false, .slice (some ⟨gb, 0, none⟩) 1 cap, .slice none 0 0, I a, I b, .slice none 0 0] 42)) := (G.refl W).alloc _
  obtain ⟨v', W3, q1, q2, q3, -, -⟩ := run_append_own_at (P := Tryz.prog) (w := W.alloc (.cells #[.slice none 0 0, .slice none 0 0, .bool true, .bool false, .slice (some ⟨gb, 0, none⟩) 1 cap, .slice none 0 0, I a, I b, .slice none 0 0] 42)) W.heap.size 32 32 42 i0 _ 9 144 Tryz.underlying32 hi hz0 hz1 hz2 rfl (by decide) (.slice none 0 0) 0 [] (World.ownsRow_nil _ _ _ _) ⟨W.heap.size, 0, none⟩ 1 1 [.slice none 0 0, .slice none 0 0, .bool true, .bool false, .slice (some ⟨gb, 0, none⟩) 1 cap, .slice none 0 0, I a, I b, .slice none 0 0] rfl (fun j u hj => by
    have h1 : (W.alloc (.cells #[.slice none 0 0, .slice none 0 0, .bool true, .bool false, .slice (some ⟨gb, 0, none⟩) 1 cap, .slice none 0 0, I a, I b, .slice none 0 0] 42)).cell? ⟨W.heap.size, j, none⟩ = ([.slice none 0 0, .slice none 0 0, .bool true, .bool false, .slice (some ⟨gb, 0, none⟩) 1 cap, .slice none 0 0, I a, I b, .slice none 0 0] : List Value)[j]? := by simp
    rw [hj] at h1
    by_cases hj0 : j = 0
    · subst hj0; simpa [Addr.add] using h1
    · simpa [Addr.add, hj0] using h1) (by simp [Value.oneCell']) (by have : (1099511627776 : Nat) ≤ maxLen := of_decide_eq_true (by kernel_rfl); omega) (by omega) g3.size
  rcases q2.2 with ⟨-, hn⟩ | ⟨pb, c2, cur, rfl, hb, hcu, hc1, -, -, htk⟩
  · simp at hn
  · refine ⟨pb, c2, W3, q1, ⟨q3.os.trans g3.os, q3.tape.trans g3.tape, q3.output.trans g3.output, Nat.le_trans g3.size q3.size, fun k hk => by
      rw [q3.block k (Nat.lt_of_lt_of_le hk g3.size) (by simp [Value.ownBlock]), g3.block k hk]⟩, ?_, hb, by omega⟩
    have hce : ∀ o v, ([.slice none 0 0, .slice none 0 0, .bool true, .bool false, .slice (some ⟨gb, 0, none⟩) 1 cap, .slice none 0 0, I a, I b, .slice none 0 0] : List Value)[o]? = some v → W3.cell? ⟨pb, o, none⟩ = some v := fun o v hv => by
      have h1 : cur.toList[o]? = some v := by
        have h2 : (cur.toList.take 9)[o]? = some v := by
          have e9 : (0 + 1) * 9 = 9 := rfl
          rw [e9] at htk
          rw [htk]
          exact hv
        rw [List.getElem?_take] at h2
        split at h2
        · exact h2
        · cases h2
      simp [World.cell?, hcu]
      simpa using h1
    exact ⟨hce 6 _ rfl, hce 7 _ rfl⟩
set_option maxRecDepth 100000 in
set_option maxHeartbeats 1000000 in
theorem query_ok {rb g : Nat} {ts : List Tok} {i j : Nat} {W : World} (h : Rd rb g ts i W) {w0 : World} (g0 : G w0 W) (hr : w0.heap.size ≤ rb) {a b : Int} {x : Tok} (hx : ts[i]? = some x) (hw : seB x ⟨#[119, 105, 116, 104]⟩ = false) (HP : ∀ W, Rd rb g ts i W → Calls Tryz.prog 25 #[ptr rb] W fun e W' => e = .returned (.agg #[.slice none 0 0, .slice none 0 0, .bool false, .bool false, .slice none 0 0, .slice none 0 0, I (-1), I (-1), .slice none 0 0]) ∧ Rd rb g ts i W' ∧ Qr rb W W') (HC : ∀ W, Rd rb g ts i W → G w0 W → Calls Tryz.prog 27 #[ptr rb, .agg #[.slice none 0 0, .slice none 0 0, .bool false, .bool false, .slice none 0 0, .slice none 0 0, I (-1), I (-1), .slice none 0 0]] W fun e W' => (∃ gb cap, e = .returned (.agg #[.slice none 0 0, .slice none 0 0, .bool true, .bool false, .slice (some ⟨gb, 0, none⟩) 1 cap, .slice none 0 0, I a, I b, .slice none 0 0])) ∧ Rd rb g ts j W' ∧ Qr rb W W') : Calls Tryz.prog 12 #[ptr rb] W fun e W' => (∃ pb cap, e = .returned (.agg #[.slice (some ⟨pb, 0, none⟩) 1 cap]) ∧ PtM pb a b W' ∧ W.heap.size ≤ pb ∧ 1 ≤ cap) ∧ Rd rb g ts j W' ∧ Qr rb W W' := by
  have HX0 : Hid (Ry rb [.slice none 0 0] W.heap.size ((W.alloc (.cells #[.slice none 0 0] 34)).alloc (.cells #[.slice none 0 0] 34))) := (Ry.new h.Q0.1 [.slice none 0 0] 34).G ((G.refl _).alloc _)
  have HZ0 : Hid (Ry rb [.slice none 0 0] (W.heap.size + 1) ((W.alloc (.cells #[.slice none 0 0] 34)).alloc (.cells #[.slice none 0 0] 34))) := by
    have := Ry.new (w := W.alloc (.cells #[.slice none 0 0] 34)) (rb := rb) (by have := h.Q0.1; simp; omega) [.slice none 0 0] 34
    rwa [World.size_alloc] at this
  have HGN := xh h.Q0.2
  have HGZ : Hid (W.heap.size + 1 ≠ g) := by have := h.gl; unfold Hid; omega
  have hga : G W ((W.alloc (.cells #[.slice none 0 0] 34)).alloc (.cells #[.slice none 0 0] 34)) := ((G.refl W).alloc _).alloc _
  have HR0 := xh (h.G hga)
  have HGA := xh hga
  have HXX := xh hx
  have HWW := xh hw
  have HPP := xh HP
  have HCC := xh HC
  have HRR := xh hr
  have HG0 := xh (g0.trans hga)
  clear h g0 hr hx hw HP HC hga
  go_enter Tryz.func12, Tryz.ntmps12
  go_wp2_with fail
  obtain ⟨nb, hnb⟩ : ∃ nb, nb = W.heap.size := ⟨_, rfl⟩
  rw [← hnb] at HX0 HZ0 HGN HGZ ⊢
  have HNB : Hid (W.heap.size = nb) := hnb.symm
  clear hnb
  generalize (W.alloc (.cells #[.slice none 0 0] 34)).alloc (.cells #[.slice none 0 0] 34) = wa at HX0 HZ0 HR0 HGA HG0 ⊢
  go_loopw [] (fun W' => W' = wa) (fun _ => 0)
  case atStart => exact rfl
  case round =>
    have hwr := hrel
    subst hwr
    go_wp2_with (first | (go_at_call 25; refine Hid.out ?_) | fail)
    unfold Hid
    refine (HPP.out _ HR0.out).mono ?_
    rintro e w1 ⟨rfl, hrd, hq⟩
    have hga : G w1 (w1.alloc (.cells #[.slice none 0 0, .slice none 0 0, .bool false, .bool false, .slice none 0 0, .slice none 0 0, I (-1), I (-1), .slice none 0 0] 42)) := (G.refl _).alloc _
    have HP1 := xh (Ry.new hrd.Q0.1 [.slice none 0 0, .slice none 0 0, .bool false, .bool false, .slice none 0 0, .slice none 0 0, I (-1), I (-1), .slice none 0 0] 42)
    have HR1 := xh (hrd.G hga)
    have HX1 := xh ((HX0.out.Q hq).G hga)
    have HZ1 := xh ((HZ0.out.Q hq).G hga)
    have HQ1 : Hid (Qr rb W (w1.alloc (.cells #[.slice none 0 0, .slice none 0 0, .bool false, .bool false, .slice none 0 0, .slice none 0 0, I (-1), I (-1), .slice none 0 0] 42))) := (Qr.of HGA.out).trans (hq.trans (Qr.of hga))
    have HG1 : Hid (G w0 (w1.alloc (.cells #[.slice none 0 0, .slice none 0 0, .bool false, .bool false, .slice none 0 0, .slice none 0 0, I (-1), I (-1), .slice none 0 0] 42))) := (hq.G HG0.out HRR.out).trans hga
    clear hrd hq hga HR0 HX0 HZ0 HGA HG0 HPP
    go_wp2_with (first | (go_at_call 26; refine Hid.out ?_) | fail)
    unfold Hid
    obtain ⟨pb, hpb⟩ : ∃ pb, pb = w1.heap.size := ⟨_, rfl⟩
    rw [← hpb] at HP1 ⊢
    clear hpb
    generalize w1.alloc (.cells #[.slice none 0 0, .slice none 0 0, .bool false, .bool false, .slice none 0 0, .slice none 0 0, I (-1), I (-1), .slice none 0 0] 42) = w3 at HP1 HR1 HX1 HZ1 HQ1 HG1 ⊢
    have HSE := xh (sees_any HR1.out HXX.out ⟨#[119, 105, 116, 104]⟩)
    rw [HWW.out] at HSE
    refine HSE.out.mono ?_
    rintro e w4 ⟨rfl, hg⟩
    have HP4 := xh (HP1.out.G hg)
    have HR4 := xh (HR1.out.G hg)
    have HX4 := xh (HX1.out.G hg)
    have HZ4 := xh (HZ1.out.G hg)
    have HQ4 : Hid (Qr rb W w4) := HQ1.out.trans (Qr.of hg)
    have HG4 : Hid (G w0 w4) := HG1.out.trans hg
    clear hg HP1 HR1 HX1 HZ1 HQ1 HG1 HSE HWW HXX
    go_wp2_with fail
    refine wp_region_noPanic ?_
    refine wp_region_L (S := (fun V => (∀ o, V.cell? ⟨nb + 1, o, none⟩ = ([.slice none 0 0] : List Value)[o]?) ∧ (∀ o, V.cell? ⟨pb, o, none⟩ = ([.slice none 0 0, .slice none 0 0, .bool false, .bool false, .slice none 0 0, .slice none 0 0, I (-1), I (-1), .slice none 0 0] : List Value)[o]?))) 8 (by kernel_rfl) (⟨(HZ4.out.G (G.drew (G.refl _))).c, (HP4.out.G (G.drew (G.refl _))).c⟩) (fun hHeld => ?_)
    refine wpAnyL_take (i := 0) (v := ?_) rfl (by kernel_rfl) (by kernel_rfl) (by kernel_rfl) (by kernel_rfl) (fun _ _ _ h => h) (Or.inl ⟨by rfl, ?_⟩) hHeld ?_
    rotate_left 1
    · (intro w hSw; (try dsimp only at hSw); go_simp; try with_reducible rfl)
    try simp only [Act.put, List.getElem_toArray, List.getElem_cons_zero, List.setIfInBounds_toArray, List.set_cons_zero, List.set_cons_succ]
    refine wpAnyL_take (i := 1) (v := ?_) rfl (by kernel_rfl) (by kernel_rfl) (by kernel_rfl) (by kernel_rfl) (fun _ _ _ h => h) (Or.inl ⟨by rfl, ?_⟩) hHeld ?_
    rotate_left 1
    · (intro w hSw; have q1 := hSw.1; have q2 := hSw.2; go_simp; try with_reducible rfl)
    try simp only [Act.put, List.getElem_toArray, List.getElem_cons_zero, List.getElem_cons_succ, List.setIfInBounds_toArray, List.set_cons_zero, List.set_cons_succ]
    refine wpAnyL_take (i := 2) (v := ?_) rfl (by kernel_rfl) (by kernel_rfl) (by kernel_rfl) (by kernel_rfl) (fun _ _ _ h => h) (Or.inl ⟨by rfl, ?_⟩) hHeld ?_
    rotate_left 1
    · (intro w hSw; (try dsimp only at hSw); go_simp; try with_reducible rfl)
    try simp only [Act.put, List.getElem_toArray, List.getElem_cons_zero, List.getElem_cons_succ, List.setIfInBounds_toArray, List.set_cons_zero, List.set_cons_succ]
    refine wpAnyL_take (i := 3) (v := ?_) rfl (by kernel_rfl) (by kernel_rfl) (by kernel_rfl) (by kernel_rfl) (fun _ _ _ h => h) (Or.inl ⟨by rfl, ?_⟩) hHeld ?_
    rotate_left 1
    · (intro w hSw; have q1 := hSw.1; have q2 := hSw.2; go_simp; try with_reducible rfl)
    try simp only [Act.put, List.getElem_toArray, List.getElem_cons_zero, List.getElem_cons_succ, List.setIfInBounds_toArray, List.set_cons_zero, List.set_cons_succ]
    refine wpAnyL_one (i := 4) (by kernel_rfl) rfl (by kernel_rfl) (fun K hK => ?_)
    clear hHeld
    refine (if_pos rfl).mpr ?_
    go_simp
    refine (HCC.out _ (HR4.out.G (G.drew (G.refl _))) (G.drew HG4.out)).mono ?_
    rintro e w5 ⟨⟨gb, cap, rfl⟩, hrd, hq⟩
    have HR5 := xh hrd
    have HQ5 : Hid (Qr rb w4 w5) := (Qr.of (G.drew (G.refl _))).trans hq
    clear hrd hq
    go_wp2_with fail
    refine hK.out _ _ (⟨(HZ4.out.Q HQ5.out).c, (HP4.out.Q HQ5.out).c⟩) (fun hHeld => ?_)
    clear hK K
    try simp only [Act.put, List.getElem_toArray, List.getElem_cons_zero, List.getElem_cons_succ, List.setIfInBounds_toArray, List.set_cons_zero, List.set_cons_succ]
    refine wpAnyL_one (i := 5) (by kernel_rfl) rfl (by kernel_rfl) (fun K hK => ?_)
    clear hHeld
    obtain ⟨b2, c2, w6, hrun, r2, r3, r4, r5⟩ := app_part gb cap a b w5
    have HRUN := xh hrun
    have HG6 := xh r2
    have HPM := xh r3
    have HB2 := xh r4
    have HC2 := xh r5
    have HQ5b : Hid (Qr rb w4 (w5.alloc (.cells #[.slice none 0 0, .slice none 0 0, .bool true, .bool false, .slice (some ⟨gb, 0, none⟩) 1 cap, .slice none 0 0, I a, I b, .slice none 0 0] 42))) := HQ5.out.trans (Qr.of ((G.refl _).alloc _))
    clear hrun r2 r3 r4 r5
    go_simp
    generalize w5.alloc (.cells #[.slice none 0 0, .slice none 0 0, .bool true, .bool false, .slice (some ⟨gb, 0, none⟩) 1 cap, .slice none 0 0, I a, I b, .slice none 0 0] 42) = w5b at HRUN HQ5b ⊢
    refine hK.out _ _ (⟨(HZ4.out.Q HQ5b.out).c, (HP4.out.Q HQ5b.out).c⟩) (fun hHeld => ?_)
    clear hK K
    try simp only [Act.put, List.getElem_toArray, List.getElem_cons_zero, List.getElem_cons_succ, List.setIfInBounds_toArray, List.set_cons_zero, List.set_cons_succ]
    refine wpAnyL_one (i := 6) (by kernel_rfl) rfl (by kernel_rfl) (fun K hK => ?_)
    clear hHeld
    refine (if_pos rfl).mpr ?_
    refine wp_of_exec (exec_append _ _ 32 rfl (.slice none 0 0) (.slice (some ⟨w5.heap.size, 0, none⟩) 1 1) rfl rfl 32 rfl HRUN.out) ?_
    clear HRUN
    have HQ6 : Hid (Qr rb w4 w6) := HQ5.out.trans (Qr.of HG6.out)
    refine hK.out _ _ (⟨(HZ4.out.Q HQ6.out).c, (HP4.out.Q HQ6.out).c⟩) (fun hHeld => ?_)
    clear hK K
    try simp only [Act.put, List.getElem_toArray, List.getElem_cons_zero, List.getElem_cons_succ, List.setIfInBounds_toArray, List.set_cons_zero, List.set_cons_succ]
    refine wpAnyL_take (i := 7) (v := ?_) rfl (by kernel_rfl) (by kernel_rfl) (by kernel_rfl) (by kernel_rfl) (fun _ _ _ h => h) (Or.inl ⟨by rfl, ?_⟩) hHeld ?_
    rotate_left 1
    · (intro w hSw; (try dsimp only at hSw); go_simp; try with_reducible rfl)
    try simp only [Act.put, List.getElem_toArray, List.getElem_cons_zero, List.getElem_cons_succ, List.setIfInBounds_toArray, List.set_cons_zero, List.set_cons_succ]
    refine wpAnyL_last (by kernel_rfl) rfl (by kernel_rfl) (fun K hK => ?_)
    clear hHeld
    have hc7 := (HZ4.out.Q HQ6.out).c
    have hz7 := (HZ4.out.Q HQ6.out).f
    go_simp
    refine hK.out _ _ ?_
    clear hK K
    refine NoPanic.normal ?_
    clear hc7 hz7
    have hls : nb + 1 < b2 := by have h1 := HZ4.out.z; have h2 := HQ5.out.size; have h3 := HB2.out; omega
    have HX7 := xh ((HX4.out.Q HQ6.out).far 0 (.slice (some ⟨b2, 0, none⟩) 1 c2) (show nb + 1 ≠ nb by omega))
    have HZ7 : Hid (Ry rb [.slice (some ⟨b2, 0, none⟩) 1 c2] (nb + 1) (w6.setCell ⟨nb + 1, 0, none⟩ (.slice (some ⟨b2, 0, none⟩) 1 c2))) := (HZ4.out.Q HQ6.out).set 0 _ (by simp)
    have HR7 := xh ((HR5.out.G HG6.out).set 0 (.slice (some ⟨b2, 0, none⟩) 1 c2) HZ4.out.n HGZ.out)
    have HQ7 := xh ((HQ4.out.trans HQ6.out).set 0 (.slice (some ⟨b2, 0, none⟩) 1 c2) (show W.heap.size ≤ nb + 1 by have := HNB.out; omega))
    have HM7 := xh (HPM.out.set 0 (.slice (some ⟨b2, 0, none⟩) 1 c2) (show nb + 1 ≠ b2 by omega))
    have HBW : Hid (W.heap.size ≤ b2 ∧ nb ≠ b2) := ⟨by have := HNB.out; omega, by omega⟩
    clear HX4 HZ4 HP4 HR4 HQ4 HG4 HR5 HQ5 HG6 HPM HB2 HQ5b HQ6 hls
    generalize w6.setCell ⟨nb + 1, 0, none⟩ (.slice (some ⟨b2, 0, none⟩) 1 c2) = w7 at HX7 HZ7 HR7 HQ7 HM7 ⊢
    have hcx := HX7.out.c
    have hfx := HX7.out.f
    have hcz := HZ7.out.c
    have hfz := HZ7.out.f
    go_wp2
    refine bodyPost_ret (v := .agg #[.slice (some ⟨b2, 0, none⟩) 1 c2]) (by simp [results, Tryz.results12, go_sem, hcx]) rfl ⟨⟨b2, c2, rfl, HM7.out.set 0 _ HBW.out.2, HBW.out.1, HC2.out⟩, HR7.out.set 0 _ HX7.out.n HGN.out, HQ7.out.set 0 _ (Nat.le_of_eq HNB.out)⟩
set_option maxRecDepth 100000 in
set_option maxHeartbeats 1000000 in
theorem query_no {rb g : Nat} {ts : List Tok} {i : Nat} {W : World} (h : Rd rb g ts i W) {w0 : World} (g0 : G w0 W) (hr : w0.heap.size ≤ rb) {x : Tok} (hx : ts[i]? = some x) (hw : seB x ⟨#[119, 105, 116, 104]⟩ = false) (HP : ∀ W, Rd rb g ts i W → Calls Tryz.prog 25 #[ptr rb] W fun e W' => e = .returned (.agg #[.slice none 0 0, .slice none 0 0, .bool false, .bool false, .slice none 0 0, .slice none 0 0, I (-1), I (-1), .slice none 0 0]) ∧ Rd rb g ts i W' ∧ Qr rb W W') (HC : ∀ W, Rd rb g ts i W → G w0 W → Calls Tryz.prog 27 #[ptr rb, .agg #[.slice none 0 0, .slice none 0 0, .bool false, .bool false, .slice none 0 0, .slice none 0 0, I (-1), I (-1), .slice none 0 0]] W fun e W' => (∃ pp, e = .panicked [{ v := .iface 55 (.agg #[I 101, I pp]), recovered := false }]) ∧ Qr rb W W') : Calls Tryz.prog 12 #[ptr rb] W fun e W' => (∃ pp, e = .panicked [{ v := .iface 55 (.agg #[I 101, I pp]), recovered := false }]) ∧ Qr rb W W' := by
  have HX0 : Hid (Ry rb [.slice none 0 0] W.heap.size ((W.alloc (.cells #[.slice none 0 0] 34)).alloc (.cells #[.slice none 0 0] 34))) := (Ry.new h.Q0.1 [.slice none 0 0] 34).G ((G.refl _).alloc _)
  have HZ0 : Hid (Ry rb [.slice none 0 0] (W.heap.size + 1) ((W.alloc (.cells #[.slice none 0 0] 34)).alloc (.cells #[.slice none 0 0] 34))) := by
    have := Ry.new (w := W.alloc (.cells #[.slice none 0 0] 34)) (rb := rb) (by have := h.Q0.1; simp; omega) [.slice none 0 0] 34
    rwa [World.size_alloc] at this
  have HGN := xh h.Q0.2
  have HGZ : Hid (W.heap.size + 1 ≠ g) := by have := h.gl; unfold Hid; omega
  have hga : G W ((W.alloc (.cells #[.slice none 0 0] 34)).alloc (.cells #[.slice none 0 0] 34)) := ((G.refl W).alloc _).alloc _
  have HR0 := xh (h.G hga)
  have HGA := xh hga
  have HXX := xh hx
  have HWW := xh hw
  have HPP := xh HP
  have HCC := xh HC
  have HRR := xh hr
  have HG0 := xh (g0.trans hga)
  clear h g0 hr hx hw HP HC hga
  go_enter Tryz.func12, Tryz.ntmps12
  go_wp2_with fail
  obtain ⟨nb, hnb⟩ : ∃ nb, nb = W.heap.size := ⟨_, rfl⟩
  rw [← hnb] at HX0 HZ0 HGN HGZ ⊢
  have HNB : Hid (W.heap.size = nb) := hnb.symm
  clear hnb
  generalize (W.alloc (.cells #[.slice none 0 0] 34)).alloc (.cells #[.slice none 0 0] 34) = wa at HX0 HZ0 HR0 HGA HG0 ⊢
  go_loopw [] (fun W' => W' = wa) (fun _ => 0)
  case atStart => exact rfl
  case round =>
    have hwr := hrel
    subst hwr
    go_wp2_with (first | (go_at_call 25; refine Hid.out ?_) | fail)
    unfold Hid
    refine (HPP.out _ HR0.out).mono ?_
    rintro e w1 ⟨rfl, hrd, hq⟩
    have hga : G w1 (w1.alloc (.cells #[.slice none 0 0, .slice none 0 0, .bool false, .bool false, .slice none 0 0, .slice none 0 0, I (-1), I (-1), .slice none 0 0] 42)) := (G.refl _).alloc _
    have HP1 := xh (Ry.new hrd.Q0.1 [.slice none 0 0, .slice none 0 0, .bool false, .bool false, .slice none 0 0, .slice none 0 0, I (-1), I (-1), .slice none 0 0] 42)
    have HR1 := xh (hrd.G hga)
    have HX1 := xh ((HX0.out.Q hq).G hga)
    have HZ1 := xh ((HZ0.out.Q hq).G hga)
    have HQ1 : Hid (Qr rb W (w1.alloc (.cells #[.slice none 0 0, .slice none 0 0, .bool false, .bool false, .slice none 0 0, .slice none 0 0, I (-1), I (-1), .slice none 0 0] 42))) := (Qr.of HGA.out).trans (hq.trans (Qr.of hga))
    have HG1 : Hid (G w0 (w1.alloc (.cells #[.slice none 0 0, .slice none 0 0, .bool false, .bool false, .slice none 0 0, .slice none 0 0, I (-1), I (-1), .slice none 0 0] 42))) := (hq.G HG0.out HRR.out).trans hga
    clear hrd hq hga HR0 HX0 HZ0 HGA HG0 HPP
    go_wp2_with (first | (go_at_call 26; refine Hid.out ?_) | fail)
    unfold Hid
    obtain ⟨pb, hpb⟩ : ∃ pb, pb = w1.heap.size := ⟨_, rfl⟩
    rw [← hpb] at HP1 ⊢
    clear hpb
    generalize w1.alloc (.cells #[.slice none 0 0, .slice none 0 0, .bool false, .bool false, .slice none 0 0, .slice none 0 0, I (-1), I (-1), .slice none 0 0] 42) = w3 at HP1 HR1 HX1 HZ1 HQ1 HG1 ⊢
    have HSE := xh (sees_any HR1.out HXX.out ⟨#[119, 105, 116, 104]⟩)
    rw [HWW.out] at HSE
    refine HSE.out.mono ?_
    rintro e w4 ⟨rfl, hg⟩
    have HP4 := xh (HP1.out.G hg)
    have HR4 := xh (HR1.out.G hg)
    have HX4 := xh (HX1.out.G hg)
    have HZ4 := xh (HZ1.out.G hg)
    have HQ4 : Hid (Qr rb W w4) := HQ1.out.trans (Qr.of hg)
    have HG4 : Hid (G w0 w4) := HG1.out.trans hg
    clear hg HP1 HR1 HX1 HZ1 HQ1 HG1 HSE HWW HXX
    go_wp2_with fail
    refine wp_region_L (S := (fun V => (∀ o, V.cell? ⟨nb + 1, o, none⟩ = ([.slice none 0 0] : List Value)[o]?) ∧ (∀ o, V.cell? ⟨pb, o, none⟩ = ([.slice none 0 0, .slice none 0 0, .bool false, .bool false, .slice none 0 0, .slice none 0 0, I (-1), I (-1), .slice none 0 0] : List Value)[o]?))) 8 (by kernel_rfl) (⟨(HZ4.out.G (G.drew (G.refl _))).c, (HP4.out.G (G.drew (G.refl _))).c⟩) (fun hHeld => ?_)
    refine wpAnyL_take (i := 0) (v := ?_) rfl (by kernel_rfl) (by kernel_rfl) (by kernel_rfl) (by kernel_rfl) (fun _ _ _ h => h) (Or.inl ⟨by rfl, ?_⟩) hHeld ?_
    rotate_left 1
    · (intro w hSw; (try dsimp only at hSw); go_simp; try with_reducible rfl)
    try simp only [Act.put, List.getElem_toArray, List.getElem_cons_zero, List.setIfInBounds_toArray, List.set_cons_zero, List.set_cons_succ]
    refine wpAnyL_take (i := 1) (v := ?_) rfl (by kernel_rfl) (by kernel_rfl) (by kernel_rfl) (by kernel_rfl) (fun _ _ _ h => h) (Or.inl ⟨by rfl, ?_⟩) hHeld ?_
    rotate_left 1
    · (intro w hSw; have q1 := hSw.1; have q2 := hSw.2; go_simp; try with_reducible rfl)
    try simp only [Act.put, List.getElem_toArray, List.getElem_cons_zero, List.getElem_cons_succ, List.setIfInBounds_toArray, List.set_cons_zero, List.set_cons_succ]
    refine wpAnyL_take (i := 2) (v := ?_) rfl (by kernel_rfl) (by kernel_rfl) (by kernel_rfl) (by kernel_rfl) (fun _ _ _ h => h) (Or.inl ⟨by rfl, ?_⟩) hHeld ?_
    rotate_left 1
    · (intro w hSw; (try dsimp only at hSw); go_simp; try with_reducible rfl)
    try simp only [Act.put, List.getElem_toArray, List.getElem_cons_zero, List.getElem_cons_succ, List.setIfInBounds_toArray, List.set_cons_zero, List.set_cons_succ]
    refine wpAnyL_take (i := 3) (v := ?_) rfl (by kernel_rfl) (by kernel_rfl) (by kernel_rfl) (by kernel_rfl) (fun _ _ _ h => h) (Or.inl ⟨by rfl, ?_⟩) hHeld ?_
    rotate_left 1
    · (intro w hSw; have q1 := hSw.1; have q2 := hSw.2; go_simp; try with_reducible rfl)
    try simp only [Act.put, List.getElem_toArray, List.getElem_cons_zero, List.getElem_cons_succ, List.setIfInBounds_toArray, List.set_cons_zero, List.set_cons_succ]
    refine wpAnyL_one (i := 4) (by kernel_rfl) rfl (by kernel_rfl) (fun K hK => ?_)
    clear hHeld
    refine (if_pos rfl).mpr ?_
    go_simp
    refine (HCC.out _ (HR4.out.G (G.drew (G.refl _))) (G.drew HG4.out)).mono ?_
    rintro e w5 ⟨⟨pp, rfl⟩, hq⟩
    have HQ5 : Hid (Qr rb W w5) := (HQ4.out.trans (Qr.of (G.drew (G.refl _)))).trans hq
    clear hq
    go_wp2
    exact ⟨rfl, ⟨pp, rfl⟩, HQ5.out⟩
end
open Go.RowKit

theorem PtM.Q {pb rb : Nat} {a b : Int} {W W' : World} (h : PtM pb a b W) (q : Qr rb W W') (hn : pb ≠ rb) : PtM pb a b W' := h.keep (q.block pb (cell_lt h.s) hn)
set_option maxRecDepth 100000 in
set_option maxHeartbeats 1000000 in
theorem endq_ok {rb g : Nat} {ts : List Tok} {i j : Nat} {a b : Int} {x : Tok} (hx : ts[j]? = some x) (hk : x.k = 7) {W : World} (h : Rd rb g ts i W) {w0 : World} (g0 : G w0 W) (HC : ∀ W, Rd rb g ts i W → G w0 W → Calls Tryz.prog 12 #[ptr rb] W fun e W' => (∃ pb cap, e = .returned (.agg #[.slice (some ⟨pb, 0, none⟩) 1 cap]) ∧ PtM pb a b W' ∧ W.heap.size ≤ pb ∧ 1 ≤ cap) ∧ Rd rb g ts j W' ∧ Qr rb W W') : Calls Tryz.prog 24 #[ptr rb, .func (.func 12) #[] #[]] W fun e W' => (∃ pb cap, e = .returned (.agg #[.slice (some ⟨pb, 0, none⟩) 1 cap]) ∧ PtM pb a b W' ∧ W.heap.size ≤ pb ∧ 1 ≤ cap) ∧ Rd rb g ts j W' ∧ Qr rb W W' := by
  have HX0 := xh (Ry.new h.Q0.1 [.slice none 0 0] 34)
  have HGN := xh h.Q0.2
  have HRB := xh h.Q0.1
  have HR0 := xh (h.G ((G.refl W).alloc (.cells #[.slice none 0 0] 34)))
  have HQ0 : Hid (Qr rb W (W.alloc (.cells #[.slice none 0 0] 34))) := Qr.of ((G.refl W).alloc _)
  have HGA := xh (g0.trans ((G.refl W).alloc (.cells #[.slice none 0 0] 34)))
  have HCC := xh HC
  have HXX := xh hx
  have HK := xh hk
  clear h g0 HC hx hk
  go_enter Tryz.func24, Tryz.ntmps24
  go_wp2_with (first | (go_at_call 12; refine Hid.out ?_) | fail)
  unfold Hid
  obtain ⟨nb, hnb⟩ : ∃ nb, nb = W.heap.size := ⟨_, rfl⟩
  have HNB : Hid (W.heap.size = nb) := hnb.symm
  rw [← hnb] at HX0 HGN ⊢
  clear hnb
  have HNA : Hid (W.heap.size < (W.alloc (.cells #[.slice none 0 0] 34)).heap.size) := by unfold Hid; simp
  generalize W.alloc (.cells #[.slice none 0 0] 34) = wa at HX0 HR0 HQ0 HGA HNA ⊢
  refine (HCC.out _ HR0.out HGA.out).mono ?_
  rintro e w1 ⟨⟨pb, cap, rfl, hpm, hpb, hcap⟩, hrd, hq⟩
  have HR1 := xh hrd
  have HX1 := xh (HX0.out.Q hq)
  have HQ1 := xh (HQ0.out.trans hq)
  have HPM := xh hpm
  have HPB : Hid (W.heap.size ≤ pb ∧ nb ≠ pb) := ⟨by have := HNA.out; omega, by have := HNB.out; have := HNA.out; omega⟩
  have HCP := xh hcap
  clear hrd hq hpm hpb hcap HR0 HX0 HQ0 HGA HCC HNA
  have HY1 := xh (Ry.new HR1.out.Q0.1 [.slice (some ⟨pb, 0, none⟩) 1 cap] 34)
  have hga : G w1 (w1.alloc (.cells #[.slice (some ⟨pb, 0, none⟩) 1 cap] 34)) := (G.refl _).alloc _
  have HR2 := xh (HR1.out.G hga)
  have HX2 := xh (HX1.out.G hga)
  have HQ2 := xh (HQ1.out.trans (Qr.of hga))
  have HM2 := xh (HPM.out.G hga)
  have HNO : Hid (nb ≠ w1.heap.size) := by have := HX1.out.z; unfold Hid; omega
  clear hga HR1 HX1 HQ1 HPM
  go_wp2_with (first | (go_at_call 33; refine Hid.out ?_) | fail)
  unfold Hid
  obtain ⟨ob, hob⟩ : ∃ ob, ob = w1.heap.size := ⟨_, rfl⟩
  rw [← hob] at HY1 HNO ⊢
  clear hob
  generalize w1.alloc (.cells #[.slice (some ⟨pb, 0, none⟩) 1 cap] 34) = w2 at HY1 HR2 HX2 HQ2 HM2 ⊢
  refine (atEnd_any HR2.out HXX.out).mono ?_
  rintro e w3 ⟨rfl, hg⟩
  have HR3 := xh (HR2.out.G hg)
  have HX3 := xh (HX2.out.G hg)
  have HY3 := xh (HY1.out.G hg)
  have HQ3 := xh (HQ2.out.trans (Qr.of hg))
  have HM3 := xh (HM2.out.G hg)
  clear hg HR2 HX2 HY1 HQ2 HM2
  rw [HK.out]
  go_wp2_with (first | (go_at_call 32; refine Hid.out ?_) | fail)
  unfold Hid
  refine (must_yes _).mono ?_
  rintro e ww ⟨rfl, rfl⟩
  have hcx := HX3.out.c
  have hfx := HX3.out.f
  have hcy := HY3.out.c
  have hno := HNO.out
  go_wp2
  refine bodyPost_ret (v := .agg #[.slice (some ⟨pb, 0, none⟩) 1 cap]) (by simp [results, Tryz.results24, go_sem, hcx]) rfl ⟨⟨pb, cap, rfl, HM3.out.set 0 _ HPB.out.2, HPB.out.1, HCP.out⟩, HR3.out.set 0 _ HX3.out.n HGN.out, HQ3.out.set 0 _ (Nat.le_of_eq HNB.out)⟩
set_option maxRecDepth 100000 in
set_option maxHeartbeats 1000000 in
theorem endq_no {rb g : Nat} {ts : List Tok} {i : Nat} {W : World} (h : Rd rb g ts i W) {w0 : World} (g0 : G w0 W) (HC : ∀ W, Rd rb g ts i W → G w0 W → Calls Tryz.prog 12 #[ptr rb] W fun e W' => (∃ pp, e = .panicked [{ v := .iface 55 (.agg #[I 101, I pp]), recovered := false }]) ∧ Qr rb W W') : Calls Tryz.prog 24 #[ptr rb, .func (.func 12) #[] #[]] W fun e W' => (∃ pp, e = .panicked [{ v := .iface 55 (.agg #[I 101, I pp]), recovered := false }]) ∧ Qr rb W W' := by
  have HR0 := xh (h.G ((G.refl W).alloc (.cells #[.slice none 0 0] 34)))
  have HQ0 : Hid (Qr rb W (W.alloc (.cells #[.slice none 0 0] 34))) := Qr.of ((G.refl W).alloc _)
  have HGA := xh (g0.trans ((G.refl W).alloc (.cells #[.slice none 0 0] 34)))
  have HCC := xh HC
  clear h g0 HC
  go_enter Tryz.func24, Tryz.ntmps24
  go_wp2_with (first | (go_at_call 12; refine Hid.out ?_) | fail)
  unfold Hid
  refine (HCC.out _ HR0.out HGA.out).mono ?_
  rintro e w1 ⟨⟨pp, rfl⟩, hq⟩
  have HQ1 := xh (HQ0.out.trans hq)
  clear hq
  go_wp2
  exact ⟨rfl, ⟨pp, rfl⟩, HQ1.out⟩
set_option maxRecDepth 100000 in
set_option maxHeartbeats 1000000 in
theorem clQ_idle (p q : Addr) (w : World) : CallsD Tryz.prog 23 #[.pointer (some p), .pointer (some q)] .returning w fun e u' w' => e = .returned (.tuple #[]) ∧ u' = .returning ∧ w' = w := by
  refine callsD_of_wpS Tryz.func23 rfl fun c₀ cs hu => ?_
  apply wpS_seq
  apply wpS_region
  simp [wpOpsS, go_sem, recoverD, hu, Tryz.ntmps23, Exit.thenS]
  refine wpS_of_wp ?_
  go_wp2
  cases c₀
  simp_all [bodyPostS, results, Tryz.results23]
set_option maxRecDepth 100000 in
set_option maxHeartbeats 1000000 in
theorem clQ_panic (bp bq : Nat) (c z c1 z1 : Int) (older : List PanicEntry) (w : World) (hp : w.cell? ⟨bp, 0, none⟩ = some (I c1)) (hpf : w.frozen? ⟨bp, 0, none⟩ = false) (hq : w.cell? ⟨bq, 0, none⟩ = some (I z1)) (hqf : w.frozen? ⟨bq, 0, none⟩ = false) (hne : bp ≠ bq) : CallsD Tryz.prog 23 #[ptr bp, ptr bq] (.panicking ({ v := .iface 55 (.agg #[I c, I z]), recovered := false } :: older)) w fun e u' w' => e = .returned (.tuple #[]) ∧ u' = .panicking ({ v := .iface 55 (.agg #[I c, I z]), recovered := true } :: older) ∧ w' = (((w.setCell ⟨bp, 0, none⟩ (I c)).setCell ⟨bq, 0, none⟩ (I z)).alloc (.cells #[I c, I z] 55)).drew := by
  have gA : G w (w.alloc (.cells #[I c, I z] 55)) := (G.refl w).alloc _
  have hp2 := (gA.cell (cell_lt hp)).trans hp
  have hq2 := (gA.cell (cell_lt hq)).trans hq
  have hpf2 : (w.alloc (.cells #[I c, I z] 55)).frozen? ⟨bp, 0, none⟩ = false := (World.frozen?_of_block (gA.block bp (cell_lt hp))).trans hpf
  have hqf2 : (w.alloc (.cells #[I c, I z] 55)).frozen? ⟨bq, 0, none⟩ = false := (World.frozen?_of_block (gA.block bq (cell_lt hq))).trans hqf
  have l1 := cell_lt hp
  have l2 := cell_lt hq
  have n1 : ¬ bp = w.heap.size := by omega
  have n2 : ¬ bq = w.heap.size := by omega
  have n3 : ¬ w.heap.size = bp := by omega
  have n4 : ¬ w.heap.size = bq := by omega
  have hne2 : ¬ bq = bp := fun e => hne e.symm
  have hta : ∀ w : World, (Instr.typeAssert (.iface 55 (.agg #[I c, I z])) 20 55 false).run Tryz.prog w = .ok (.agg #[I c, I z]) w := fun _ => by kernel_rfl
  refine callsD_of_wpS Tryz.func23 rfl fun c₀ cs hu => ?_
  apply wpS_seq
  apply wpS_region
  simp [wpOpsS, go_sem, recoverD, hu, Tryz.ntmps23, Exit.thenS]
  refine wpS_of_wp ?_
  go_wp2_with fail
  go_region
  all_goals
    go_wp2
    cases c₀
    refine ⟨rfl, _, rfl, .tuple #[], ?_, rfl, rfl, ?_⟩
    · simp [results, Tryz.results23]
    · rfl
set_option maxRecDepth 100000 in
set_option maxHeartbeats 1000000 in
theorem cauq_ok {u : ByteArray} {ts : List Tok} {w0 w : World} (g0 : G w0 w) (hlx : LexOk u ts w0) (hl0 : 0 < ts.length) (hl5 : ts.length ≤ 5000) {j : Nat} {a b : Int} {x : Tok} (hx : ts[j]? = some x) (hk : x.k = 7)
    (HW : ∀ rb g W, w0.heap.size ≤ rb → Rd rb g ts 0 W → G w0 W → Calls Tryz.prog 12 #[ptr rb] W fun e W' => (∃ pb cap, e = .returned (.agg #[.slice (some ⟨pb, 0, none⟩) 1 cap]) ∧ PtM pb a b W' ∧ W.heap.size ≤ pb ∧ 1 ≤ cap) ∧ Rd rb g ts j W' ∧ Qr rb W W') :
    Calls Tryz.prog 11 #[.string u, .func (.func 12) #[] #[]] w fun e W' => (∃ pb cap, e = .returned (.tuple #[.agg #[.slice (some ⟨pb, 0, none⟩) 1 cap], I 0, I 0]) ∧ PtM pb a b W' ∧ w.heap.size ≤ pb ∧ 1 ≤ cap) ∧ G w W' := by
  have hmf : ∀ (fn : Fn) (first cap : Array Value) (w : World), (Instr.makeFunc fn first cap).run Tryz.prog w = .ok (.func fn first cap) w := fun _ _ _ _ => rfl
  have HCZ := xh (Cz.new w 34 27 3 [.slice none 0 0] 0 0)
  have HGW := xh ((((G.refl w).alloc (.cells #[.slice none 0 0] 34)).alloc (.cells #[I 0] 27)).alloc (.cells #[I 0] 3))
  have HLX := xh hlx
  have HWW := xh HW
  have HXX := xh hx
  have HK := xh hk
  clear hx hk
  have HG0 := xh g0
  clear hlx HW g0
  go_enter_defers Tryz.func11, Tryz.ntmps11
  go_wp2_with (first | (go_at_call 13; refine Hid.out ?_) | fail)
  unfold Hid
  generalize (((w.alloc (.cells #[.slice none 0 0] 34)).alloc (.cells #[I 0] 27)).alloc (.cells #[I 0] 3)) = wa at HCZ HGW ⊢
  refine (HLX.out wa (HG0.out.trans HGW.out)).mono ?_
  rintro e w1 ⟨g, cp, rfl, hcap, htk, hgl, hg⟩
  have HC1 := xh (HCZ.out.G hg)
  have HG1 := xh (HGW.out.trans hg)
  have HTK := xh htk
  have hc1 := HC1.out.c1
  have hf1 := HC1.out.f1
  have hc2 := HC1.out.c2
  have hf2 := HC1.out.f2
  have hlI : (0 : Int) < (ts.length : Int) := by omega
  have hcI : (ts.length : Int) ≤ (cp : Int) := by omega
  have hz0 := HCZ.out.z
  clear hg htk HCZ HGW HLX
  go_wp2_with (first | (go_at_call 24; refine Hid.out ?_) | fail)
  unfold Hid
  have HC2 := xh ((HC1.out.set1 0).set2 0)
  have HG2 := xh ((HG1.out.set1 (I 0) 1).set1 (I 0) 2)
  have hz1 := HC1.out.z
  have HT2 : Hid (TkM g ts ((w1.setCell ⟨w.heap.size + 1, 0, none⟩ (I 0)).setCell ⟨w.heap.size + 2, 0, none⟩ (I 0))) := HTK.out.keep ((set_other _ _ _ _ _ (by omega)).trans (set_other _ _ _ _ _ (by omega)))
  have hsz : ((w1.setCell ⟨w.heap.size + 1, 0, none⟩ (I 0)).setCell ⟨w.heap.size + 2, 0, none⟩ (I 0)).heap.size = w1.heap.size := by simp [World.setCell]
  have hgl2 : g < w1.heap.size := by
    obtain ⟨y, hy⟩ : ∃ y, ts[0]? = some y := ⟨_, List.getElem?_eq_getElem hl0⟩
    exact cell_lt (HTK.out 0 y hy).1
  rw [show w.heap.size + 1 + 1 = w.heap.size + 2 from rfl, ← hsz]
  have HSZ : Hid (w.heap.size + 2 < ((w1.setCell ⟨w.heap.size + 1, 0, none⟩ (I 0)).setCell ⟨w.heap.size + 2, 0, none⟩ (I 0)).heap.size) := by rw [hsz]; exact hz1
  have HGL : Hid (g < ((w1.setCell ⟨w.heap.size + 1, 0, none⟩ (I 0)).setCell ⟨w.heap.size + 2, 0, none⟩ (I 0)).heap.size) := by rw [hsz]; exact hgl2
  clear HC1 HG1 HTK hc1 hf1 hc2 hf2 hsz hz1 hgl2
  generalize (w1.setCell ⟨w.heap.size + 1, 0, none⟩ (I 0)).setCell ⟨w.heap.size + 2, 0, none⟩ (I 0) = w2 at HC2 HG2 HT2 HSZ HGL ⊢
  have HRD := xh (Rd.new HT2.out HGL.out hl0 hl5)
  have HG3 := xh (HG2.out.trans ((G.refl w2).alloc (.cells #[.slice (some ⟨g, 0, none⟩) ts.length ts.length] 58)))
  have HC3 := xh (HC2.out.G ((G.refl w2).alloc (.cells #[.slice (some ⟨g, 0, none⟩) ts.length ts.length] 58)))
  have HWR : Hid (w0.heap.size ≤ w2.heap.size) := Nat.le_trans HG0.out.size HG2.out.size
  obtain ⟨rb, hrb⟩ : ∃ rb, rb = w2.heap.size := ⟨_, rfl⟩
  rw [← hrb] at HRD HSZ HWR ⊢
  generalize w2.alloc (.cells #[.slice (some ⟨g, 0, none⟩) ts.length ts.length] 58) = w3 at HRD HG3 HC3 ⊢
  clear HC2 HG2 HT2 HGL hrb
  refine (endq_ok HXX.out HK.out HRD.out (HG0.out.trans HG3.out) (fun W h g0 => HWW.out rb g W HWR.out h g0)).mono ?_
  rintro e w4 ⟨⟨pb, cap, rfl, hpm, hpb, hcp⟩, hrd, hq⟩
  have HC4 := xh (HC3.out.Q hq HSZ.out)
  have HG4 := xh (hq.G HG3.out (by have := HSZ.out; omega))
  have HPM := xh hpm
  have HPB : Hid (w.heap.size + 2 < pb) := by have := HC3.out.z; unfold Hid; omega
  clear hrd hq hpm hpb HRD HG3 HC3 HWW
  have hc0 := HC4.out.c0
  have hf0 := HC4.out.f0
  have hc1 := HC4.out.c1
  have hf1 := HC4.out.f1
  have hc2 := HC4.out.c2
  have hf2 := HC4.out.f2
  go_wp2
  refine leaves_cons (f := 23) (args := #[ptr (w.heap.size + 1), ptr (w.heap.size + 2)]) (by simp) (by simp [go_sem]) ?_
  refine (clQ_idle _ _ _).mono ?_
  rintro e u' w'' ⟨rfl, rfl, rfl⟩
  simp [Leaves, settle, results, Tryz.results11, go_sem, hc0, hc1, hc2]
  have hpb := HPB.out
  exact ⟨⟨pb, cap, ⟨rfl, rfl⟩, ((HPM.out.set 0 _ (by omega)).set 0 _ (by omega)).set 0 _ (by omega), by omega, hcp⟩, ((HG4.out.set1 _ 0).set1 _ 1).set1 _ 2⟩
set_option maxRecDepth 100000 in
set_option maxHeartbeats 1000000 in
theorem cauq_no {u : ByteArray} {ts : List Tok} {w0 w : World} (g0 : G w0 w) (hlx : LexOk u ts w0) (hl0 : 0 < ts.length) (hl5 : ts.length ≤ 5000) 
    (HW : ∀ rb g W, w0.heap.size ≤ rb → Rd rb g ts 0 W → G w0 W → Calls Tryz.prog 12 #[ptr rb] W fun e W' => (∃ pp, e = .panicked [{ v := .iface 55 (.agg #[I 101, I pp]), recovered := false }]) ∧ Qr rb W W') :
    Calls Tryz.prog 11 #[.string u, .func (.func 12) #[] #[]] w fun e W' => (∃ pp, e = .returned (.tuple #[.agg #[.slice none 0 0], I 101, I pp])) ∧ G w W' := by
  have hmf : ∀ (fn : Fn) (first cap : Array Value) (w : World), (Instr.makeFunc fn first cap).run Tryz.prog w = .ok (.func fn first cap) w := fun _ _ _ _ => rfl
  have HCZ := xh (Cz.new w 34 27 3 [.slice none 0 0] 0 0)
  have HGW := xh ((((G.refl w).alloc (.cells #[.slice none 0 0] 34)).alloc (.cells #[I 0] 27)).alloc (.cells #[I 0] 3))
  have HLX := xh hlx
  have HWW := xh HW
  have HG0 := xh g0
  clear hlx HW g0
  go_enter_defers Tryz.func11, Tryz.ntmps11
  go_wp2_with (first | (go_at_call 13; refine Hid.out ?_) | fail)
  unfold Hid
  generalize (((w.alloc (.cells #[.slice none 0 0] 34)).alloc (.cells #[I 0] 27)).alloc (.cells #[I 0] 3)) = wa at HCZ HGW ⊢
  refine (HLX.out wa (HG0.out.trans HGW.out)).mono ?_
  rintro e w1 ⟨g, cp, rfl, hcap, htk, hgl, hg⟩
  have HC1 := xh (HCZ.out.G hg)
  have HG1 := xh (HGW.out.trans hg)
  have HTK := xh htk
  have hc1 := HC1.out.c1
  have hf1 := HC1.out.f1
  have hc2 := HC1.out.c2
  have hf2 := HC1.out.f2
  have hlI : (0 : Int) < (ts.length : Int) := by omega
  have hcI : (ts.length : Int) ≤ (cp : Int) := by omega
  have hz0 := HCZ.out.z
  clear hg htk HCZ HGW HLX
  go_wp2_with (first | (go_at_call 24; refine Hid.out ?_) | fail)
  unfold Hid
  have HC2 := xh ((HC1.out.set1 0).set2 0)
  have HG2 := xh ((HG1.out.set1 (I 0) 1).set1 (I 0) 2)
  have hz1 := HC1.out.z
  have HT2 : Hid (TkM g ts ((w1.setCell ⟨w.heap.size + 1, 0, none⟩ (I 0)).setCell ⟨w.heap.size + 2, 0, none⟩ (I 0))) := HTK.out.keep ((set_other _ _ _ _ _ (by omega)).trans (set_other _ _ _ _ _ (by omega)))
  have hsz : ((w1.setCell ⟨w.heap.size + 1, 0, none⟩ (I 0)).setCell ⟨w.heap.size + 2, 0, none⟩ (I 0)).heap.size = w1.heap.size := by simp [World.setCell]
  have hgl2 : g < w1.heap.size := by
    obtain ⟨y, hy⟩ : ∃ y, ts[0]? = some y := ⟨_, List.getElem?_eq_getElem hl0⟩
    exact cell_lt (HTK.out 0 y hy).1
  rw [show w.heap.size + 1 + 1 = w.heap.size + 2 from rfl, ← hsz]
  have HSZ : Hid (w.heap.size + 2 < ((w1.setCell ⟨w.heap.size + 1, 0, none⟩ (I 0)).setCell ⟨w.heap.size + 2, 0, none⟩ (I 0)).heap.size) := by rw [hsz]; exact hz1
  have HGL : Hid (g < ((w1.setCell ⟨w.heap.size + 1, 0, none⟩ (I 0)).setCell ⟨w.heap.size + 2, 0, none⟩ (I 0)).heap.size) := by rw [hsz]; exact hgl2
  clear HC1 HG1 HTK hc1 hf1 hc2 hf2 hsz hz1 hgl2
  generalize (w1.setCell ⟨w.heap.size + 1, 0, none⟩ (I 0)).setCell ⟨w.heap.size + 2, 0, none⟩ (I 0) = w2 at HC2 HG2 HT2 HSZ HGL ⊢
  have HRD := xh (Rd.new HT2.out HGL.out hl0 hl5)
  have HG3 := xh (HG2.out.trans ((G.refl w2).alloc (.cells #[.slice (some ⟨g, 0, none⟩) ts.length ts.length] 58)))
  have HC3 := xh (HC2.out.G ((G.refl w2).alloc (.cells #[.slice (some ⟨g, 0, none⟩) ts.length ts.length] 58)))
  have HWR : Hid (w0.heap.size ≤ w2.heap.size) := Nat.le_trans HG0.out.size HG2.out.size
  obtain ⟨rb, hrb⟩ : ∃ rb, rb = w2.heap.size := ⟨_, rfl⟩
  rw [← hrb] at HRD HSZ HWR ⊢
  generalize w2.alloc (.cells #[.slice (some ⟨g, 0, none⟩) ts.length ts.length] 58) = w3 at HRD HG3 HC3 ⊢
  clear HC2 HG2 HT2 HGL hrb
  refine (endq_no HRD.out (HG0.out.trans HG3.out) (fun W h g0 => HWW.out rb g W HWR.out h g0)).mono ?_
  rintro e w4 ⟨⟨pp, rfl⟩, hq⟩
  have HC4 := xh (HC3.out.Q hq HSZ.out)
  have HG4 := xh (hq.G HG3.out (by have := HSZ.out; omega))
  clear hq HRD HG3 HC3 HWW
  go_wp2
  refine leaves_cons (f := 23) (args := #[ptr (w.heap.size + 1), ptr (w.heap.size + 2)]) (by simp) (by simp [go_sem]) ?_
  refine (clQ_panic _ _ 101 pp 0 0 [] _ HC4.out.c1 HC4.out.f1 HC4.out.c2 HC4.out.f2 (by omega)).mono ?_
  rintro e u' w'' ⟨rfl, rfl, rfl⟩
  have HC5 := xh ((((HC4.out.set1 101).set2 pp).G ((G.refl _).alloc (.cells #[I 101, I pp] 55))).G (G.drew (G.refl _)))
  have HG5 : Hid (G w (((w4.setCell ⟨w.heap.size + 1, 0, none⟩ (I 101)).setCell ⟨w.heap.size + 2, 0, none⟩ (I pp)).alloc (.cells #[I 101, I pp] 55)).drew) := G.drew (G.alloc ((HG4.out.set1 (I 101) 1).set1 (I pp) 2) _)
  clear HC4 HG4
  generalize (((w4.setCell ⟨w.heap.size + 1, 0, none⟩ (I 101)).setCell ⟨w.heap.size + 2, 0, none⟩ (I pp)).alloc (.cells #[I 101, I pp] 55)).drew = w5 at HC5 HG5 ⊢
  have hc0 := HC5.out.c0
  have hc1 := HC5.out.c1
  have hc2 := HC5.out.c2
  simp [Leaves, settle, results, Tryz.results11, go_sem, hc0, hc1, hc2]
  exact HG5.out
set_option maxRecDepth 100000 in
set_option maxHeartbeats 1000000 in
theorem pq_ok {u : ByteArray} {w : World} {a b : Int} (hc : ∀ W, G w W → w.heap.size < W.heap.size → Calls Tryz.prog 11 #[.string u, .func (.func 12) #[] #[]] W fun e W' => (∃ pb cap, e = .returned (.tuple #[.agg #[.slice (some ⟨pb, 0, none⟩) 1 cap], I 0, I 0]) ∧ PtM pb a b W' ∧ w.heap.size + 1 ≤ pb ∧ 1 ≤ cap) ∧ G W W') : Calls Tryz.prog 7 #[.string u] w fun e W' => (∃ pb cap, e = .returned (.tuple #[.agg #[.slice (some ⟨pb, 0, none⟩) 1 cap], I 0, I 0]) ∧ PtM pb a b W' ∧ w.heap.size + 1 ≤ pb ∧ 1 ≤ cap) ∧ G w W' := by
  have HC := xh hc
  have HGW := xh ((G.refl w).alloc (.cells #[.slice none 0 0] 34))
  have HC0 : Hid (∀ o, (w.alloc (.cells #[.slice none 0 0] 34)).cell? ⟨w.heap.size, o, none⟩ = ([.slice none 0 0] : List Value)[o]?) := fun o => by simp
  have HF0 : Hid (∀ o, (w.alloc (.cells #[.slice none 0 0] 34)).frozen? ⟨w.heap.size, o, none⟩ = false) := fun o => by simp
  have HZ0 : Hid (w.heap.size < (w.alloc (.cells #[.slice none 0 0] 34)).heap.size) := by unfold Hid; simp
  clear hc
  go_enter Tryz.func7, Tryz.ntmps7
  go_wp2_with (first | (go_at_call 11; refine Hid.out ?_) | fail)
  unfold Hid
  generalize w.alloc (.cells #[.slice none 0 0] 34) = wa at HGW HC0 HF0 HZ0 ⊢
  refine (HC.out wa HGW.out HZ0.out).mono ?_
  rintro e w1 ⟨⟨pb, cap, rfl, hpm, hpb, hcp⟩, hg⟩
  have hc0 := G.cells hg HC0.out HZ0.out
  have hf0 := G.frozens hg HF0.out HZ0.out
  have HG1 := xh (HGW.out.trans hg)
  clear hg HC0 HF0 HZ0 HGW HC
  go_wp2
  refine bodyPost_ret (v := .tuple #[.agg #[.slice (some ⟨pb, 0, none⟩) 1 cap], I 0, I 0]) (by simp [results, Tryz.results7, go_sem, hc0]) rfl ⟨⟨pb, cap, rfl, hpm.set 0 _ (by omega), hpb, hcp⟩, HG1.out.set1 _ 0⟩
set_option maxRecDepth 100000 in
set_option maxHeartbeats 1000000 in
theorem pq_no {u : ByteArray} {w : World} (hc : ∀ W, G w W → w.heap.size < W.heap.size → Calls Tryz.prog 11 #[.string u, .func (.func 12) #[] #[]] W fun e W' => (∃ pp, e = .returned (.tuple #[.agg #[.slice none 0 0], I 101, I pp])) ∧ G W W') : Calls Tryz.prog 7 #[.string u] w fun e W' => (∃ pp, e = .returned (.tuple #[.agg #[.slice none 0 0], I 101, I pp])) ∧ G w W' := by
  have HC := xh hc
  have HGW := xh ((G.refl w).alloc (.cells #[.slice none 0 0] 34))
  have HC0 : Hid (∀ o, (w.alloc (.cells #[.slice none 0 0] 34)).cell? ⟨w.heap.size, o, none⟩ = ([.slice none 0 0] : List Value)[o]?) := fun o => by simp
  have HF0 : Hid (∀ o, (w.alloc (.cells #[.slice none 0 0] 34)).frozen? ⟨w.heap.size, o, none⟩ = false) := fun o => by simp
  have HZ0 : Hid (w.heap.size < (w.alloc (.cells #[.slice none 0 0] 34)).heap.size) := by unfold Hid; simp
  clear hc
  go_enter Tryz.func7, Tryz.ntmps7
  go_wp2_with (first | (go_at_call 11; refine Hid.out ?_) | fail)
  unfold Hid
  generalize w.alloc (.cells #[.slice none 0 0] 34) = wa at HGW HC0 HF0 HZ0 ⊢
  refine (HC.out wa HGW.out HZ0.out).mono ?_
  rintro e w1 ⟨⟨pp, rfl⟩, hg⟩
  have hc0 := G.cells hg HC0.out HZ0.out
  have hf0 := G.frozens hg HF0.out HZ0.out
  have HG1 := xh (HGW.out.trans hg)
  clear hg HC0 HF0 HZ0 HGW HC
  go_wp2
  refine bodyPost_ret (v := .tuple #[.agg #[.slice none 0 0], I 101, I pp]) (by simp [results, Tryz.results7, go_sem, hc0]) rfl ⟨⟨pp, rfl⟩, HG1.out.set1 _ 0⟩
end Go.Proofs.YtonhocmjecgfbaaGreatDoor
