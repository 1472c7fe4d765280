/- Gate: isKnown. -/
import Derived.Test.YtmclbnhbioficacGs4
namespace Go.Proofs.Ytmclbnhbioficac
open Go.RowKit
set_option maxRecDepth 100000 in
set_option maxHeartbeats 1000000 in
theorem isknown_any (b : Nat) (x : Gx) (v : Value) (l : List It) (is : List Int) (qs : List (Int × Int)) (id : Int) (W : World) (hp : HP W b x v l) (hi : SwI W x.vi is) (hq : SwQ W x.vq qs) (hm : is.length ≤ 1000) (hn : qs.length ≤ 1000) :
    Calls Try.prog 36 #[ptr b, I id] W fun e W' => e = .returned (.bool (decide (id ∈ is) || decide (id ∈ qs.map (·.1)))) ∧ G W W' := by
  have hA := (G.refl W).alloc (.cells #[I id] 3)
  have hX := Blk.new W [I id] 3
  have KC : Hid (∀ V, G (W.alloc (.cells #[I id] 3)) V → Calls Try.prog 42 #[x.vi, I id] V fun e W' => e = .returned (.bool (decide (id ∈ is))) ∧ W' = V) := fun V hV => contains_any is x.vi id V (hi.G (hA.trans hV)) hm
  have KF : Hid (∀ V, G (W.alloc (.cells #[I id] 3)) V → Calls Try.prog 54 #[x.vq, .func (.func 53) #[] #[ptr W.heap.size]] V fun e W' => e = .returned (.bool (decide (id ∈ qs.map (·.1)))) ∧ G V W') := fun V hV => cfunc_any qs x.vq W.heap.size id V (hq.G (hA.trans hV)) (hX.G hV) hn
  have HS : Hid (∀ V, G (W.alloc (.cells #[I id] 3)) V → (fun V => (∀ o, V.cell? ⟨b, o, none⟩ = ([.int .i32 x.st, .int .u32 0, I x.mo, I x.un, I x.sp, x.vq, x.vi, I x.lg, I x.ck, v] : List Value)[o]?) ∧ (∀ o, V.cell? ⟨W.heap.size, o, none⟩ = ([I id] : List Value)[o]?)) V) := fun V hV => ⟨(hp.G (hA.trans hV)).cells, (hX.G hV).cell⟩
  have HA := hide hA
  have hcb : ∀ o, (W.alloc (.cells #[I id] 3)).cell? ⟨b, o, none⟩ = ([.int .i32 x.st, .int .u32 0, I x.mo, I x.un, I x.sp, x.vq, x.vi, I x.lg, I x.ck, v] : List Value)[o]? := (hp.G hA).cells
  have hcx := hX.cell
  obtain ⟨b2, hb2⟩ : ∃ b2, b2 = decide (id ∈ qs.map (·.1)) := ⟨_, rfl⟩
  rw [← hb2] at KF ⊢
  clear hb2 hX hA hp hi hq hm hn
  by_cases hd : id ∈ is
  · have d1 := decide_eq_true hd
    rw [d1] at KC ⊢
    have KCN : Hid (∀ n, Calls Try.prog 42 #[x.vi, I id] ((W.alloc (.cells #[I id] 3)).drewN n) fun e W' => e = .returned (.bool true) ∧ W' = (W.alloc (.cells #[I id] 3)).drewN n) := fun n => KC.out _ ((G.refl _).drewN n)
    rw [Bool.true_or]
    clear d1 hd KC KF HS
    go_enter Try.func36, Try.ntmps36
    go_wp2_with fail
    generalize W.alloc (.cells #[I id] 3) = w1 at KCN hcb hcx HA ⊢
    go_quiet (first | (go_at_call 42; with_reducible refine Calls.quiet_of_same (KCN.out _)))
    go_wp2_with fail
    go_ret
    exact ⟨rfl, HA.out.drewN _⟩
  · have d1 := decide_eq_false hd
    rw [d1] at KC ⊢
    rw [Bool.false_or]
    clear d1 hd
    go_enter Try.func36, Try.ntmps36
    go_wp2_with fail
    generalize W.alloc (.cells #[I id] 3) = w1 at KC KF HS hcb hcx HA ⊢
    clear hcb hcx
    refine wp_region_noPanic ?_
    refine wp_region_held_drew (S := (fun V => (∀ o, V.cell? ⟨b, o, none⟩ = ([.int .i32 x.st, .int .u32 0, I x.mo, I x.un, I x.sp, x.vq, x.vi, I x.lg, I x.ck, v] : List Value)[o]?) ∧ (∀ o, V.cell? ⟨W.heap.size, o, none⟩ = ([I id] : List Value)[o]?))) (by kernel_rfl) (HS.out _ (G.drew (G.refl _))) (fun hHeld => ?_)
    refine wpAnyH_take (i := 0) (v := ?_) rfl (by kernel_rfl) (by kernel_rfl) (by kernel_rfl) (fun _ _ _ h => h) (Or.inl ⟨by rfl, ?_⟩) hHeld ?_
    rotate_left 1
    · (intro w hSw; (try dsimp only at hSw); go_simp; try with_reducible rfl)
    try simp only [Act.put, List.getElem_toArray, List.getElem_cons_zero, List.setIfInBounds_toArray, List.set_cons_zero, List.set_cons_succ]
    refine wpAnyH_take (i := 1) (v := ?_) rfl (by kernel_rfl) (by kernel_rfl) (by kernel_rfl) (fun _ _ _ h => h) (Or.inl ⟨by rfl, ?_⟩) hHeld ?_
    rotate_left 1
    · (intro w hSw; (try dsimp only at hSw); go_simp; try with_reducible rfl)
    try simp only [Act.put, List.getElem_toArray, List.getElem_cons_zero, List.getElem_cons_succ, List.setIfInBounds_toArray, List.set_cons_zero, List.set_cons_succ]
    refine wpAnyH_take (i := 2) (v := ?_) rfl (by kernel_rfl) (by kernel_rfl) (by kernel_rfl) (fun _ _ _ h => h) (Or.inl ⟨by rfl, ?_⟩) hHeld ?_
    rotate_left 1
    · (intro w hSw; (try dsimp only at hSw); go_simp; try with_reducible rfl)
    try simp only [Act.put, List.getElem_toArray, List.getElem_cons_zero, List.getElem_cons_succ, List.setIfInBounds_toArray, List.set_cons_zero, List.set_cons_succ]
    refine wpAnyH_take (i := 3) (v := ?_) rfl (by kernel_rfl) (by kernel_rfl) (by kernel_rfl) (fun _ _ _ h => h) (Or.inl ⟨by rfl, ?_⟩) hHeld ?_
    rotate_left 1
    · (intro w hSw; obtain ⟨s1, s2⟩ := hSw; go_simp; try with_reducible rfl)
    try simp only [Act.put, List.getElem_toArray, List.getElem_cons_zero, List.getElem_cons_succ, List.setIfInBounds_toArray, List.set_cons_zero, List.set_cons_succ]
    refine wpAnyH_take (i := 4) (v := ?_) rfl (by kernel_rfl) (by kernel_rfl) (by kernel_rfl) (fun _ _ _ h => h) (Or.inl ⟨by rfl, ?_⟩) hHeld ?_
    rotate_left 1
    · (intro w hSw; obtain ⟨s1, s2⟩ := hSw; go_simp; try with_reducible rfl)
    try simp only [Act.put, List.getElem_toArray, List.getElem_cons_zero, List.getElem_cons_succ, List.setIfInBounds_toArray, List.set_cons_zero, List.set_cons_succ]
    refine wpAnyH_ready (rs := [5]) (by kernel_rfl) (by simp) (AllReadyH.cons rfl (fun K hK => ?_) AllReadyH.nil)
    clear hHeld
    go_simp
    refine (KC.out _ (G.drew (G.refl _))).mono ?_
    rintro e w6 ⟨rfl, rfl⟩
    go_wp2_with fail
    refine hK.out _ _ (HS.out _ (G.drew (G.refl _))) (fun hHeld => ?_)
    clear hK K
    try simp only [Act.put, List.getElem_toArray, List.getElem_cons_zero, List.getElem_cons_succ, List.setIfInBounds_toArray, List.set_cons_zero, List.set_cons_succ]
    refine wpAnyH_take (i := 6) (v := ?_) rfl (by kernel_rfl) (by kernel_rfl) (by kernel_rfl) (fun _ _ _ h => h) (Or.inl ⟨by rfl, ?_⟩) hHeld ?_
    rotate_left 1
    · (intro w hSw; (try dsimp only at hSw); go_simp; try with_reducible rfl)
    try simp only [Act.put, List.getElem_toArray, List.getElem_cons_zero, List.getElem_cons_succ, List.setIfInBounds_toArray, List.set_cons_zero, List.set_cons_succ]
    refine wpAnyH_take (i := 7) (v := ?_) rfl (by kernel_rfl) (by kernel_rfl) (by kernel_rfl) (fun _ _ _ h => h) (Or.inl ⟨by rfl, ?_⟩) hHeld ?_
    rotate_left 1
    · (intro w hSw; (try dsimp only at hSw); go_simp; try with_reducible rfl)
    try simp only [Act.put, List.getElem_toArray, List.getElem_cons_zero, List.getElem_cons_succ, List.setIfInBounds_toArray, List.set_cons_zero, List.set_cons_succ]
    refine wpAnyH_take (i := 8) (v := ?_) rfl (by kernel_rfl) (by kernel_rfl) (by kernel_rfl) (fun _ _ _ h => h) (Or.inl ⟨by rfl, ?_⟩) hHeld ?_
    rotate_left 1
    · (intro w hSw; (try dsimp only at hSw); go_simp; try with_reducible rfl)
    try simp only [Act.put, List.getElem_toArray, List.getElem_cons_zero, List.getElem_cons_succ, List.setIfInBounds_toArray, List.set_cons_zero, List.set_cons_succ]
    refine wpAnyH_take (i := 9) (v := ?_) rfl (by kernel_rfl) (by kernel_rfl) (by kernel_rfl) (fun _ _ _ h => h) (Or.inl ⟨by rfl, ?_⟩) hHeld ?_
    rotate_left 1
    · (intro w hSw; (try dsimp only at hSw); go_simp; try with_reducible rfl)
    try simp only [Act.put, List.getElem_toArray, List.getElem_cons_zero, List.getElem_cons_succ, List.setIfInBounds_toArray, List.set_cons_zero, List.set_cons_succ]
    refine wpAnyH_take (i := 10) (v := ?_) rfl (by kernel_rfl) (by kernel_rfl) (by kernel_rfl) (fun _ _ _ h => h) (Or.inl ⟨by rfl, ?_⟩) hHeld ?_
    rotate_left 1
    · (intro w hSw; obtain ⟨s1, s2⟩ := hSw; go_simp; try with_reducible rfl)
    try simp only [Act.put, List.getElem_toArray, List.getElem_cons_zero, List.getElem_cons_succ, List.setIfInBounds_toArray, List.set_cons_zero, List.set_cons_succ]
    refine wpAnyH_take (i := 11) (v := ?_) rfl (by kernel_rfl) (by kernel_rfl) (by kernel_rfl) (fun _ _ _ h => h) (Or.inl ⟨by rfl, ?_⟩) hHeld ?_
    rotate_left 1
    · (intro w hSw; (try dsimp only at hSw); go_simp; try with_reducible rfl)
    try simp only [Act.put, List.getElem_toArray, List.getElem_cons_zero, List.getElem_cons_succ, List.setIfInBounds_toArray, List.set_cons_zero, List.set_cons_succ]
    refine wpAnyH_ready (rs := [12]) (by kernel_rfl) (by simp) (AllReadyH.cons rfl (fun K hK => ?_) AllReadyH.nil)
    clear hHeld
    go_simp
    refine (KF.out _ (G.drew (G.refl _))).mono ?_
    rintro e w7 ⟨rfl, hb⟩
    have HGB := hide (G.trans (G.drew (G.refl w1)) hb)
    clear hb
    go_wp2_with fail
    refine hK.out _ _ (HS.out _ HGB.out) (fun hHeld => ?_)
    clear hK K
    try simp only [Act.put, List.getElem_toArray, List.getElem_cons_zero, List.getElem_cons_succ, List.setIfInBounds_toArray, List.set_cons_zero, List.set_cons_succ]
    refine wpAnyH_take (i := 13) (v := ?_) rfl (by kernel_rfl) (by kernel_rfl) (by kernel_rfl) (fun _ _ _ h => h) (Or.inl ⟨by rfl, ?_⟩) hHeld ?_
    rotate_left 1
    · (intro w hSw; (try dsimp only at hSw); go_simp; try with_reducible rfl)
    try simp only [Act.put, List.getElem_toArray, List.getElem_cons_zero, List.getElem_cons_succ, List.setIfInBounds_toArray, List.set_cons_zero, List.set_cons_succ]
    refine wpAnyH_take (i := 14) (v := ?_) rfl (by kernel_rfl) (by kernel_rfl) (by kernel_rfl) (fun _ _ _ h => h) (Or.inl ⟨by rfl, ?_⟩) hHeld ?_
    rotate_left 1
    · (intro w hSw; (try dsimp only at hSw); go_simp; try with_reducible rfl)
    try simp only [Act.put, List.getElem_toArray, List.getElem_cons_zero, List.getElem_cons_succ, List.setIfInBounds_toArray, List.set_cons_zero, List.set_cons_succ]
    refine wpAnyH_done (by kernel_rfl) ?_ _
    refine NoPanic.normal ?_
    go_wp2_with fail
    go_ret
    exact ⟨rfl, HA.out.trans HGB.out⟩
end Go.Proofs.Ytmclbnhbioficac
