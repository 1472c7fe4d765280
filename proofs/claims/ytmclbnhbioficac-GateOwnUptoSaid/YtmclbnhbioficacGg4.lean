/- Gate: Submit. -/
import Derived.Test.YtmclbnhbioficacGg3
namespace Go.Proofs.Ytmclbnhbioficac
open Go.RowKit Go.MuLone
set_option maxRecDepth 100000 in
set_option maxHeartbeats 1000000 in
theorem sub_arg (b : Nat) (W : World) (id : Int) (h : id < 1 ∨ id > 1073741824) :
    Calls Try.prog 19 #[ptr b, I id] W fun e W' => e = .returned (.tuple #[I 0, I 1]) ∧ W' = W := by
  by_cases h1 : id < 1
  · go_enter_defers Try.func19, Try.ntmps19
    go_wp2_with fail
    exact ⟨_, results_tmp2 rfl _ _ _, rfl, rfl⟩
  · have h2 : id > 1073741824 := by omega
    go_enter_defers Try.func19, Try.ntmps19
    go_wp2_with fail
    exact ⟨_, results_tmp2 rfl _ _ _, rfl, rfl⟩
set_option maxRecDepth 100000 in
set_option maxHeartbeats 1000000 in
theorem sub_known (b : Nat) (m : GM) (K : Nat → Prop) (W : World) (h : PG W b 0 m K) (hv : Iv m) (id : Int) (hi : 1 ≤ id ∧ id ≤ 1073741824) (hk : id ∈ m.ids ∨ id ∈ m.qids) :
    Calls Try.prog 19 #[ptr b, I id] W fun e W' => e = .returned (.tuple #[I 0, I 151]) ∧ ∃ K', PG W' b 0 m K' ∧ Ste K W K' W' := by
  have c0 := h.c0
  have f0 := h.f0
  have b1 : ¬ (id < 1) := by omega
  have b2 : ¬ (id > 1073741824) := by omega
  go_enter_defers Try.func19, Try.ntmps19
  go_wp2_with (first | (go_at_call 14; refine Hid.out ?_) | fail)
  unfold Hid
  refine (lock_free muLib ⟨b, 0, none⟩ _ c0 f0).mono ?_
  rintro e w0 ⟨rfl, rfl⟩
  have H1 := hide (h.lock 1)
  clear c0 f0
  generalize W.setCell ⟨b, 0, none⟩ (.int .i32 1) = w1 at H1 ⊢
  obtain ⟨⟨vq, vi, v, l, h1⟩, hs1⟩ := H1.out
  have hcr := hv.crowd
  have hil : m.ids.length = m.ins.length := List.length_map _
  have KN := hide (isknown_any b _ v l m.ids m.q id w1 h1.hp h1.i h1.q (by omega) (by omega))
  have hkb : (decide (id ∈ m.ids) || decide (id ∈ m.q.map (·.1))) = true := by
    rcases hk with q | q
    · rw [decide_eq_true q]; rfl
    · rw [decide_eq_true (show id ∈ m.q.map (·.1) from q), Bool.or_true]
  rw [hkb] at KN
  have HH := hide h1
  have HS1 := hide hs1
  clear hkb hk h1 hs1 h hv hcr hil hi
  go_wp2_with (first | (go_at_call 36; refine Hid.out ?_) | fail)
  unfold Hid
  refine KN.out.mono ?_
  rintro e w2 ⟨rfl, hg2⟩
  have H2 : Hid (PG w2 b 1 m K ∧ Ste K W K w2) := ⟨⟨vq, vi, v, l, HH.out.G hg2⟩, HS1.out.trans (Ste.G hg2)⟩
  clear hg2 HH HS1 KN
  go_wp2_with fail
  refine leaves_cons (f := 15) (args := #[.pointer (some ⟨b, 0, none⟩)]) (by simp) (by simp [go_sem]) ?_
  refine (unlock_deferred muLib ⟨b, 0, none⟩ .returning _ H2.out.1.c0 H2.out.1.f0).mono ?_
  rintro e u' w'' ⟨rfl, rfl, rfl⟩
  exact ⟨_, results_tmp2 rfl _ _ _, rfl, K, (H2.out.1.lock 0).1, H2.out.2.trans (H2.out.1.lock 0).2⟩
set_option maxRecDepth 100000 in
set_option maxHeartbeats 1000000 in
theorem sub_crowd (b : Nat) (m : GM) (K : Nat → Prop) (W : World) (h : PG W b 0 m K) (hv : Iv m) (id : Int) (hi : 1 ≤ id ∧ id ≤ 1073741824) (hk : id ∉ m.ids ∧ id ∉ m.qids) (hfull : 64 ≤ m.q.length + m.ins.length) :
    Calls Try.prog 19 #[ptr b, I id] W fun e W' => e = .returned (.tuple #[I 0, I 153]) ∧ ∃ K', PG W' b 0 m K' ∧ Ste K W K' W' := by
  have c0 := h.c0
  have f0 := h.f0
  have b1 : ¬ (id < 1) := by omega
  have b2 : ¬ (id > 1073741824) := by omega
  go_enter_defers Try.func19, Try.ntmps19
  go_wp2_with (first | (go_at_call 14; refine Hid.out ?_) | fail)
  unfold Hid
  refine (lock_free muLib ⟨b, 0, none⟩ _ c0 f0).mono ?_
  rintro e w0 ⟨rfl, rfl⟩
  have H1 := hide (h.lock 1)
  clear c0 f0
  generalize W.setCell ⟨b, 0, none⟩ (.int .i32 1) = w1 at H1 ⊢
  obtain ⟨⟨vq, vi, v, l, h1⟩, hs1⟩ := H1.out
  have hcr := hv.crowd
  have hil : m.ids.length = m.ins.length := List.length_map _
  have KN := hide (isknown_any b _ v l m.ids m.q id w1 h1.hp h1.i h1.q (by omega) (by omega))
  have hkb : (decide (id ∈ m.ids) || decide (id ∈ m.q.map (·.1))) = false := by
    rw [decide_eq_false hk.1, decide_eq_false (show id ∉ m.q.map (·.1) from hk.2)]
    rfl
  rw [hkb] at KN
  obtain ⟨qa, qc, eq⟩ := h1.q.form
  obtain ⟨ia, ic, ei⟩ := h1.i.form
  rw [hil] at ei
  have hw : wrap64 ((m.q.length : Int) + (m.ins.length : Int)) = (m.q.length : Int) + (m.ins.length : Int) := by unfold wrap64; omega
  have hf : (64 : Int) ≤ (m.q.length : Int) + (m.ins.length : Int) := by omega
  have HH := hide h1
  have HS1 := hide hs1
  clear hkb hk h1 hs1 h hv hcr hil hi hfull
  go_wp2_with (first | (go_at_call 36; refine Hid.out ?_) | fail)
  unfold Hid
  refine KN.out.mono ?_
  rintro e w2 ⟨rfl, hg2⟩
  have hc : ∀ o, w2.cell? ⟨b, o, none⟩ = ([.int .i32 1, .int .u32 0, I m.mo, I m.un, I m.sp, vq, vi, I m.lg, I m.ck, v] : List Value)[o]? := (HH.out.G hg2).hp.cells
  rw [eq, ei] at hc
  have H2 : Hid (∀ n, PG (w2.drewN n) b 1 m K ∧ Ste K W K (w2.drewN n)) := fun n => ⟨⟨vq, vi, v, l, (HH.out.G hg2).G ((G.refl _).drewN n)⟩, (HS1.out.trans (Ste.G hg2)).trans (Ste.G ((G.refl _).drewN n))⟩
  clear hg2 HH HS1 KN eq ei
  go_wp2_with fail
  go_quiet (fail)
  go_wp2_with fail
  generalize hw3 : World.drewN w2 _ = w3
  have H3 : Hid (PG w3 b 1 m K ∧ Ste K W K w3) := by show _ ∧ _; rw [← hw3]; exact H2.out _
  clear hw3
  refine leaves_cons (f := 15) (args := #[.pointer (some ⟨b, 0, none⟩)]) (by simp) (by simp [go_sem]) ?_
  refine (unlock_deferred muLib ⟨b, 0, none⟩ .returning _ H3.out.1.c0 H3.out.1.f0).mono ?_
  rintro e u' w'' ⟨rfl, rfl, rfl⟩
  exact ⟨_, results_tmp2 rfl _ _ _, rfl, K, (H3.out.1.lock 0).1, H3.out.2.trans (H3.out.1.lock 0).2⟩
set_option maxRecDepth 100000 in
set_option maxHeartbeats 1000000 in
theorem sub_ok (b : Nat) (m : GM) (K : Nat → Prop) (W : World) (h : PG W b 0 m K) (hv : Iv m) (id : Int) (hi : 1 ≤ id ∧ id ≤ 1073741824) (hk : id ∉ m.ids ∧ id ∉ m.qids) (hroom : m.q.length + m.ins.length < 64) (hsp : m.sp < 4611686018427387904) :
    Calls Try.prog 19 #[ptr b, I id] W fun e W' => e = .returned (.tuple #[I (m.sp + 1), I 0]) ∧ ∃ K', PG W' b 0 (m.sub id) K' ∧ Ste K W K' W' := by
  have c0 := h.c0
  have f0 := h.f0
  have b1 : ¬ (id < 1) := by omega
  have b2 : ¬ (id > 1073741824) := by omega
  go_enter_defers Try.func19, Try.ntmps19
  go_wp2_with (first | (go_at_call 14; refine Hid.out ?_) | fail)
  unfold Hid
  refine (lock_free muLib ⟨b, 0, none⟩ _ c0 f0).mono ?_
  rintro e w0 ⟨rfl, rfl⟩
  have H1 := hide (h.lock 1)
  clear c0 f0
  generalize W.setCell ⟨b, 0, none⟩ (.int .i32 1) = w1 at H1 ⊢
  obtain ⟨⟨vq, vi, v, l, h1⟩, hs1⟩ := H1.out
  have hcr := hv.crowd
  have hil : m.ids.length = m.ins.length := List.length_map _
  have KN := hide (isknown_any b _ v l m.ids m.q id w1 h1.hp h1.i h1.q (by omega) (by omega))
  have hkb : (decide (id ∈ m.ids) || decide (id ∈ m.q.map (·.1))) = false := by
    rw [decide_eq_false hk.1, decide_eq_false (show id ∉ m.q.map (·.1) from hk.2)]
    rfl
  rw [hkb] at KN
  obtain ⟨qa, qc, eq⟩ := h1.q.form
  obtain ⟨ia, ic, ei⟩ := h1.i.form
  rw [hil] at ei
  have hw : wrap64 ((m.q.length : Int) + (m.ins.length : Int)) = (m.q.length : Int) + (m.ins.length : Int) := by unfold wrap64; omega
  have hf : ¬ ((64 : Int) ≤ (m.q.length : Int) + (m.ins.length : Int)) := by omega
  have hws : wrap64 (m.sp + 1) = m.sp + 1 := by have := hv.sp0; unfold wrap64; omega
  have HN1 : Hid (m.q.length + 1 ≤ maxLen) := Nat.le_trans (show m.q.length + 1 ≤ 1000 by omega) (of_decide_eq_true (by kernel_rfl))
  have HN2 : Hid ((m.q.length + 1) * 16 ≤ 140737488355328) := by show _ ≤ _; omega
  have HH := hide h1
  have HS1 := hide hs1
  clear hkb hk h1 hs1 h hv hcr hil hi hroom
  go_wp2_with (first | (go_at_call 36; refine Hid.out ?_) | fail)
  unfold Hid
  refine KN.out.mono ?_
  rintro e w2 ⟨rfl, hg2⟩
  have hc : ∀ o, w2.cell? ⟨b, o, none⟩ = ([.int .i32 1, .int .u32 0, I m.mo, I m.un, I m.sp, vq, vi, I m.lg, I m.ck, v] : List Value)[o]? := (HH.out.G hg2).hp.cells
  rw [eq, ei] at hc
  have H2 : Hid (∀ n, PGx (w2.drewN n) b 1 m K vq vi v l ∧ Ste K W K (w2.drewN n)) := fun n => ⟨(HH.out.G hg2).G ((G.refl _).drewN n), (HS1.out.trans (Ste.G hg2)).trans (Ste.G ((G.refl _).drewN n))⟩
  have HEQ := hide eq
  have HEI := hide ei
  clear hg2 HH HS1 KN eq ei
  go_wp2_with fail
  go_quiet (fail)
  generalize hw3 : World.drewN w2 _ = w3
  have H3 : Hid (PGx w3 b 1 m K vq vi v l ∧ Ste K W K w3) := by show _ ∧ _; rw [← hw3]; exact H2.out _
  clear hw3
  have hc3 : ∀ o, w3.cell? ⟨b, o, none⟩ = ([.int .i32 1, .int .u32 0, I m.mo, I m.un, I m.sp, vq, vi, I m.lg, I m.ck, v] : List Value)[o]? := H3.out.1.hp.cells
  have hz3 := H3.out.1.hp.blk.frozen
  clear hc H2
  go_wp2_with fail
  clear hc3 hz3
  have h3 := H3.out.1
  have HP4 := hide (h3.hp.field (x' := ⟨1, m.mo, m.un, (m.sp + 1), vq, vi, m.lg, m.ck⟩) 4 (I (m.sp + 1)) rfl)
  have HQ4 := hide (h3.q.off (b := b) (o := 4) (u := I (m.sp + 1)) (h3.q.ne h3.hp.blk (by decide)))
  have HI4 := hide (h3.i.off (b := b) (o := 4) (u := I (m.sp + 1)) (h3.i.ne h3.hp.blk (by decide)))
  have HC4 : Hid (Chg K W (w3.setCell ⟨b, 4, none⟩ (I (m.sp + 1)))) := H3.out.2.chg.trans (chg_setCell _ _ (.inl h3.kb))
  have HZ4 : Hid (∀ k, K k → k < (w3.setCell ⟨b, 4, none⟩ (I (m.sp + 1))).heap.size) := fun k e => by simpa using h3.lt k e
  have HH := hide h3
  clear h3
  generalize w3.setCell ⟨b, 4, none⟩ (I (m.sp + 1)) = w4 at HP4 HQ4 HI4 HC4 HZ4 ⊢
  refine wp_region_noPanic ?_
  refine wp_region_L (S := (fun V => (∀ j, V.cell? ⟨b, j, none⟩ = ([.int .i32 1, .int .u32 0, I m.mo, I m.un, I (m.sp + 1), vq, vi, I m.lg, I m.ck, v] : List Value)[j]?))) 15 (by kernel_rfl) ((HP4.out.G (G.drew (G.refl _))).cells) (fun hHeld => ?_)
  refine wpAnyL_take (i := 0) (v := ?_) rfl (by kernel_rfl) (by kernel_rfl) (by kernel_rfl) (by kernel_rfl) (fun _ _ _ h => h) (Or.inl ⟨by rfl, ?_⟩) hHeld ?_
  rotate_left 1
  · (intro w hSw; (try dsimp only at hSw); go_simp; try with_reducible rfl)
  try simp only [Act.put, List.getElem_toArray, List.getElem_cons_zero, List.setIfInBounds_toArray, List.set_cons_zero, List.set_cons_succ]
  refine wpAnyL_take (i := 1) (v := ?_) rfl (by kernel_rfl) (by kernel_rfl) (by kernel_rfl) (by kernel_rfl) (fun _ _ _ h => h) (Or.inl ⟨by rfl, ?_⟩) hHeld ?_
  rotate_left 1
  · (intro w hSw; (try dsimp only at hSw); go_simp; try with_reducible rfl)
  try simp only [Act.put, List.getElem_toArray, List.getElem_cons_zero, List.getElem_cons_succ, List.setIfInBounds_toArray, List.set_cons_zero, List.set_cons_succ]
  refine wpAnyL_take (i := 2) (v := ?_) rfl (by kernel_rfl) (by kernel_rfl) (by kernel_rfl) (by kernel_rfl) (fun _ _ _ h => h) (Or.inl ⟨by rfl, ?_⟩) hHeld ?_
  rotate_left 1
  · (intro w hSw; (try dsimp only at hSw); go_simp; try with_reducible rfl)
  try simp only [Act.put, List.getElem_toArray, List.getElem_cons_zero, List.getElem_cons_succ, List.setIfInBounds_toArray, List.set_cons_zero, List.set_cons_succ]
  refine wpAnyL_take (i := 3) (v := ?_) rfl (by kernel_rfl) (by kernel_rfl) (by kernel_rfl) (by kernel_rfl) (fun _ _ _ h => h) (Or.inl ⟨by rfl, ?_⟩) hHeld ?_
  rotate_left 1
  · (intro w hSw; (try dsimp only at hSw); go_simp; try with_reducible rfl)
  try simp only [Act.put, List.getElem_toArray, List.getElem_cons_zero, List.getElem_cons_succ, List.setIfInBounds_toArray, List.set_cons_zero, List.set_cons_succ]
  refine wpAnyL_take (i := 4) (v := ?_) rfl (by kernel_rfl) (by kernel_rfl) (by kernel_rfl) (by kernel_rfl) (fun _ _ _ h => h) (Or.inl ⟨by rfl, ?_⟩) hHeld ?_
  rotate_left 1
  · (intro w hSw; have q1 := hSw; go_simp; try with_reducible rfl)
  try simp only [Act.put, List.getElem_toArray, List.getElem_cons_zero, List.getElem_cons_succ, List.setIfInBounds_toArray, List.set_cons_zero, List.set_cons_succ]
  refine wpAnyL_take (i := 5) (v := ?_) rfl (by kernel_rfl) (by kernel_rfl) (by kernel_rfl) (by kernel_rfl) (fun _ _ _ h => h) (Or.inl ⟨by rfl, ?_⟩) hHeld ?_
  rotate_left 1
  · (intro w hSw; (try dsimp only at hSw); go_simp; try with_reducible rfl)
  try simp only [Act.put, List.getElem_toArray, List.getElem_cons_zero, List.getElem_cons_succ, List.setIfInBounds_toArray, List.set_cons_zero, List.set_cons_succ]
  refine wpAnyL_take (i := 6) (v := ?_) rfl (by kernel_rfl) (by kernel_rfl) (by kernel_rfl) (by kernel_rfl) (fun _ _ _ h => h) (Or.inl ⟨by rfl, ?_⟩) hHeld ?_
  rotate_left 1
  · (intro w hSw; (try dsimp only at hSw); go_simp; try with_reducible rfl)
  try simp only [Act.put, List.getElem_toArray, List.getElem_cons_zero, List.getElem_cons_succ, List.setIfInBounds_toArray, List.set_cons_zero, List.set_cons_succ]
  refine wpAnyL_take (i := 7) (v := ?_) rfl (by kernel_rfl) (by kernel_rfl) (by kernel_rfl) (by kernel_rfl) (fun _ _ _ h => h) (Or.inl ⟨by rfl, ?_⟩) hHeld ?_
  rotate_left 1
  · (intro w hSw; (try dsimp only at hSw); go_simp; try with_reducible rfl)
  try simp only [Act.put, List.getElem_toArray, List.getElem_cons_zero, List.getElem_cons_succ, List.setIfInBounds_toArray, List.set_cons_zero, List.set_cons_succ]
  refine wpAnyL_take (i := 8) (v := ?_) rfl (by kernel_rfl) (by kernel_rfl) (by kernel_rfl) (by kernel_rfl) (fun _ _ _ h => h) (Or.inl ⟨by rfl, ?_⟩) hHeld ?_
  rotate_left 1
  · (intro w hSw; (try dsimp only at hSw); go_simp; try with_reducible rfl)
  try simp only [Act.put, List.getElem_toArray, List.getElem_cons_zero, List.getElem_cons_succ, List.setIfInBounds_toArray, List.set_cons_zero, List.set_cons_succ]
  refine wpAnyL_take (i := 9) (v := ?_) rfl (by kernel_rfl) (by kernel_rfl) (by kernel_rfl) (by kernel_rfl) (fun _ _ _ h => h) (Or.inl ⟨by rfl, ?_⟩) hHeld ?_
  rotate_left 1
  · (intro w hSw; have q1 := hSw; go_simp; try with_reducible rfl)
  try simp only [Act.put, List.getElem_toArray, List.getElem_cons_zero, List.getElem_cons_succ, List.setIfInBounds_toArray, List.set_cons_zero, List.set_cons_succ]
  refine wpAnyL_take (i := 10) (v := ?_) rfl (by kernel_rfl) (by kernel_rfl) (by kernel_rfl) (by kernel_rfl) (fun _ _ _ h => h) (Or.inl ⟨by rfl, ?_⟩) hHeld ?_
  rotate_left 1
  · (intro w hSw; (try dsimp only at hSw); go_simp; try with_reducible rfl)
  try simp only [Act.put, List.getElem_toArray, List.getElem_cons_zero, List.getElem_cons_succ, List.setIfInBounds_toArray, List.set_cons_zero, List.set_cons_succ]
  refine wpAnyL_one (i := 11) (by kernel_rfl) rfl (by kernel_rfl) (fun K hK => ?_)
  clear hHeld
  go_simp
  have HG6 : Hid (G w4 (w4.alloc (.cells #[I id, I (m.sp + 1)] 81)).drew) := ((G.refl w4).alloc _).drew
  have HC6 : Hid (∀ j u, ([I id, I (m.sp + 1)] : List Value)[j]? = some u → (w4.alloc (.cells #[I id, I (m.sp + 1)] 81)).drew.cell? ((⟨w4.heap.size, 0, none⟩ : Addr).add j) = some u) := cell_new w4 [I id, I (m.sp + 1)] 81
  generalize (w4.alloc (.cells #[I id, I (m.sp + 1)] 81)).drew = w6 at HG6 HC6 ⊢
  refine hK.out _ _ ((HP4.out.G HG6.out).cells) (fun hHeld => ?_)
  clear hK K
  try simp only [Act.put, List.getElem_toArray, List.getElem_cons_zero, List.getElem_cons_succ, List.setIfInBounds_toArray, List.set_cons_zero, List.set_cons_succ]
  refine wpAnyL_one (i := 12) (by kernel_rfl) rfl (by kernel_rfl) (fun K hK => ?_)
  clear hHeld
  obtain ⟨i0, hi0, hz0, hz1, hz2⟩ := info_Q
  obtain ⟨v7', w7, hrun, hs7, hap7⟩ := app_one (P := Try.prog) (ts := 56) i0 _ 16 Try.underlying56 hi0 hz0 hz1 hz2 rfl (by decide) (HQ4.out.G HG6.out) ⟨w4.heap.size, 0, none⟩ 1 (id, (m.sp + 1)) HC6.out HN1.out HN2.out
  have HAP := hide (Chg.app hap7)
  obtain ⟨a7, c7, e7⟩ := hs7.form
  generalize (m.q ++ [(id, (m.sp + 1))]).length = n7 at e7
  subst e7
  have HS7 := hide hs7
  clear hap7 hs7 hi0 hz0 hz1 hz2
  refine (if_pos rfl).mpr ?_
  refine wp_of_exec (exec_append _ _ 56 rfl vq (.slice (some ⟨w4.heap.size, 0, none⟩) 1 1) rfl rfl 56 rfl hrun) ?_
  clear hrun
  have HP7 : Hid (HP w7 b ⟨1, m.mo, m.un, (m.sp + 1), vq, vi, m.lg, m.ck⟩ v l) := (HP4.out.G HG6.out).chg HAP.out.1 (fun k hk e => (HP4.out.G HG6.out).offS (HQ4.out.G HG6.out) (by decide) (by decide) e hk)
  refine hK.out _ _ (HP7.out.cells) (fun hHeld => ?_)
  clear hK K
  try simp only [Act.put, List.getElem_toArray, List.getElem_cons_zero, List.getElem_cons_succ, List.setIfInBounds_toArray, List.set_cons_zero, List.set_cons_succ]
  refine wpAnyL_take2 14 (i := 13) (v := ?_) rfl (by kernel_rfl) (by kernel_rfl) (by kernel_rfl) (by kernel_rfl) (fun _ _ _ h => h) (Or.inl ⟨by rfl, ?_⟩) hHeld ?_
  rotate_left 1
  · (intro w hSw; (try dsimp only at hSw); go_simp; try with_reducible rfl)
  try simp only [Act.put, List.getElem_toArray, List.getElem_cons_zero, List.getElem_cons_succ, List.setIfInBounds_toArray, List.set_cons_zero, List.set_cons_succ]
  refine wpAnyL_take (i := 14) (v := ?_) rfl (by kernel_rfl) (by kernel_rfl) (by kernel_rfl) (by kernel_rfl) (fun _ _ _ h => h) (Or.inl ⟨by rfl, ?_⟩) hHeld ?_
  rotate_left 1
  · (intro w hSw; (try dsimp only at hSw); go_simp; try with_reducible rfl)
  try simp only [Act.put, List.getElem_toArray, List.getElem_cons_zero, List.getElem_cons_succ, List.setIfInBounds_toArray, List.set_cons_zero, List.set_cons_succ]
  refine wpAnyL_last (by kernel_rfl) rfl (by kernel_rfl) (fun K hK => ?_)
  clear hHeld
  have hc7 : ∀ o, w7.cell? ⟨b, o, none⟩ = ([.int .i32 1, .int .u32 0, I m.mo, I m.un, I (m.sp + 1), vq, vi, I m.lg, I m.ck, v] : List Value)[o]? := HP7.out.cells
  have hz7 := HP7.out.blk.frozen
  go_simp
  refine hK.out _ _ ?_
  clear hK K
  refine NoPanic.normal ?_
  have HP8 := hide (HP7.out.field (x' := ⟨1, m.mo, m.un, (m.sp + 1), (Value.slice a7 n7 c7), vi, m.lg, m.ck⟩) 5 (Value.slice a7 n7 c7) rfl)
  have HQ8 : Hid (SwQ (w7.setCell ⟨b, 5, none⟩ (Value.slice a7 n7 c7)) (Value.slice a7 n7 c7) (m.sub id).q) := HS7.out.off (HS7.out.ne HP7.out.blk (by decide))
  have HI8 : Hid (SwI (w7.setCell ⟨b, 5, none⟩ (Value.slice a7 n7 c7)) vi m.ids) := by
    have a1 := HI4.out.G HG6.out
    have a2 : SwI w7 vi m.ids := a1.chg HAP.out.1 (fun k hk e => by
      obtain ⟨xs, hx⟩ := own_blk (HQ4.out.G HG6.out) e
      exact a1.ne hx (by decide) hk)
    exact a2.off (a2.ne HP7.out.blk (by decide))
  have HC8 : Hid (Chg K W (w7.setCell ⟨b, 5, none⟩ (Value.slice a7 n7 c7))) := ((HC4.out.trans HG6.out.chg).trans (HAP.out.1.mono (fun k e => HH.out.kq k e))).trans (chg_setCell _ _ (.inl HH.out.kb))
  have HO8 : Hid (∀ k, (Value.slice a7 n7 c7).ownBlock = some k → K k ∨ W.heap.size ≤ k) := fun k e => by
    rcases HAP.out.2 k e with q | q
    · exact .inl (HH.out.kq k q)
    · exact .inr (Nat.le_trans (HC4.out.trans HG6.out.chg (F := K)).size q)
  have HZ8 : Hid (∀ k, K k → k < (w7.setCell ⟨b, 5, none⟩ (Value.slice a7 n7 c7)).heap.size) := fun k e => by
    have h1 := HZ4.out k e
    have h2 := HG6.out.size
    have h3 := HAP.out.1.size
    simp
    omega
  clear HP7 HS7 HAP HC6 HG6 HI4 HQ4 HP4 HC4 HZ4 HN1 HN2
  generalize w7.setCell ⟨b, 5, none⟩ (Value.slice a7 n7 c7) = w8 at HP8 HQ8 HI8 HC8 HZ8 ⊢
  have hc8 : ∀ o, w8.cell? ⟨b, o, none⟩ = ([.int .i32 1, .int .u32 0, I m.mo, I m.un, I (m.sp + 1), (Value.slice a7 n7 c7), vi, I m.lg, I m.ck, v] : List Value)[o]? := HP8.out.cells
  have H9 : Hid (PG w8 b 1 (m.sub id) (fun k => K k ∨ (Value.slice a7 n7 c7).ownBlock = some k) ∧ Ste K W (fun k => K k ∨ (Value.slice a7 n7 c7).ownBlock = some k) w8) := ⟨⟨(Value.slice a7 n7 c7), vi, v, l, HP8.out, HQ8.out, HI8.out, HH.out.pm, HH.out.hi, .inl HH.out.kb, fun k e => .inl (HH.out.kv k e), fun k e => .inr e, fun k e => .inl (HH.out.ki k e), fun k e => e.elim (HZ8.out k) (fun q => HQ8.out.lt q)⟩, ⟨HC8.out, fun k e => e.elim .inl (HO8.out k)⟩⟩
  clear HP8 HQ8 HI8 HC8 HO8 HZ8 HH
  go_wp2_with fail
  refine leaves_cons (f := 15) (args := #[.pointer (some ⟨b, 0, none⟩)]) (by simp) (by simp [go_sem]) ?_
  refine (unlock_deferred muLib ⟨b, 0, none⟩ .returning _ H9.out.1.c0 H9.out.1.f0).mono ?_
  rintro e u' w'' ⟨rfl, rfl, rfl⟩
  exact ⟨_, results_tmp2 rfl _ _ _, rfl, _, (H9.out.1.lock 0).1, H9.out.2.trans (H9.out.1.lock 0).2⟩
end Go.Proofs.Ytmclbnhbioficac
