/- A step: Write, what is told, no call. -/
import Derived.Test.YtbjbphhcmmaaoaaLwC
namespace Go.Proofs.Ytbjbphhcmmaaoaa
open Go.RowKit

set_option maxRecDepth 100000 in
set_option maxHeartbeats 4000000 in
theorem step_write (who n : Int) (dv kv : Value) (t s : Nat) (cs : List Value) (pv rv : Value) (FP FR : Nat → Prop) (mo : Option DM) (B : Nat) (hw : bits BinOp.and IntKind.i64 who 1 = (s : Int)) (hBB : B ≤ 549755813888) (xs : List Nat) (hxb : ∀ x ∈ xs, x < 256) (hxl : xs.length ≤ 1073741824) (w : World) (hdb : Bytes w dv xs) (hdF : ∀ j, Value.blk dv j → ¬ FP j ∧ ¬ FR j) (hB : fewO mo B) (h : SS w t s cs pv rv FP FR mo) : Calls Try.prog 21 #[.pointer (some ⟨t, 0, none⟩), .agg #[I 5, I who, I n, dv, kv]] w fun e w' => e = .returned (.bool true) ∧ StepA w t s cs FP FR B w' := by
  have hBf : fewO mo 549755813888 := fun m e => by obtain ⟨h1, h2, h3⟩ := hB m e; exact ⟨by omega, by omega, by omega⟩
  have HSM := hide (fun W (hW : Bytes W dv xs) => same_any dv xs hxl W hW)
  have HRD := hide (fun W v (hW : SlP W FP pv mo) (hb : Bytes W v xs) (hF : ∀ j, Value.blk v j → ¬ FP j) => uP_write FP mo pv v n xs hxb hBf W hW hb hF)
  have HDF := hide hdF
  have HRR := hide (fun W (hW : SlR W FR rv mo) (hb : Bytes W dv xs) => uR_write FR mo rv dv n xs hxb hBf W hW hb (fun j hj => (HDF.out j hj).2))
  have HDB := hide hdb
  clear hBf hdb hdF
  have HS0 := hide h
  have hs2 := h.s2
  have HO1 := hide (Blk.new w [I 5, I who, I n, dv, kv] 39)
  have HG1 := hide ((G.refl w).alloc (.cells #[I 5, I who, I n, dv, kv] 39))
  have HB := hide hB
  have hsI : (s : Int) < 2 := by omega
  have hsw : IntKind.i64.wrap (s : Int) = s := by rw [IntKind.wrap_i64]; omega
  have HNP : Hid (¬ FP t) := fun e => (HS0.out.d2 t (.inl e)).1 rfl
  have HNR : Hid (¬ FR t) := fun e => (HS0.out.d2 t (.inr e)).1 rfl
  have HOP : Hid (¬ FP w.heap.size) := fun e => by have := (HS0.out.d2 _ (.inl e)).2; omega
  have HOR : Hid (¬ FR w.heap.size) := fun e => by have := (HS0.out.d2 _ (.inr e)).2; omega
  have HDIS : Hid (∀ k, FR k → ¬ FP k) := fun k hr hp => HS0.out.d1 k hp hr
  clear h hB
  go_enter Try.func21, Try.ntmps21
  go_wp2_with fail
  generalize w.alloc (.cells #[I 5, I who, I n, dv, kv] 39) = w1 at HO1 HG1 ⊢
  have HS1 := hide (HS0.out.G HG1.out)
  have HH1 := hide (HS1.out.hd HO1.out)
  refine wp_region_noPanic ?_
  refine wp_region_held_drew (S := (fun W => Hd W t s w.heap.size pv rv [I 5, I who, I n, dv, kv])) (by kernel_rfl) (HH1.out.G (G.drew (G.refl _)) (by simp)) (fun hHeld => ?_)
  refine wpAnyH_take (i := 0) (v := ?_) rfl (by kernel_rfl) (by kernel_rfl) (by kernel_rfl) (fun _ _ _ h => h) (Or.inl ⟨by rfl, ?_⟩) hHeld ?_
  rotate_left 1
  · (intro w hSw; (try dsimp only at hSw); go_simp; try with_reducible rfl)
  try simp only [Act.put, List.getElem_toArray, List.getElem_cons_zero, List.setIfInBounds_toArray, List.set_cons_zero, List.set_cons_succ]
  refine wpAnyH_take (i := 1) (v := ?_) rfl (by kernel_rfl) (by kernel_rfl) (by kernel_rfl) (fun _ _ _ h => h) (Or.inl ⟨by rfl, ?_⟩) hHeld ?_
  rotate_left 1
  · (intro w hSw; (try dsimp only at hSw); go_simp; try with_reducible rfl)
  try simp only [Act.put, List.getElem_toArray, List.getElem_cons_zero, List.getElem_cons_succ, List.setIfInBounds_toArray, List.set_cons_zero, List.set_cons_succ]
  refine wpAnyH_take (i := 2) (v := ?_) rfl (by kernel_rfl) (by kernel_rfl) (by kernel_rfl) (fun _ _ _ h => h) (Or.inl ⟨by rfl, ?_⟩) hHeld ?_
  rotate_left 1
  · (intro w hSw; (try dsimp only at hSw); go_simp; try with_reducible rfl)
  try simp only [Act.put, List.getElem_toArray, List.getElem_cons_zero, List.getElem_cons_succ, List.setIfInBounds_toArray, List.set_cons_zero, List.set_cons_succ]
  refine wpAnyH_take (i := 3) (v := ?_) rfl (by kernel_rfl) (by kernel_rfl) (by kernel_rfl) (fun _ _ _ h => h) (Or.inl ⟨by rfl, ?_⟩) hHeld ?_
  rotate_left 1
  · (intro w hSw; (try dsimp only at hSw); go_simp; try with_reducible rfl)
  try simp only [Act.put, List.getElem_toArray, List.getElem_cons_zero, List.getElem_cons_succ, List.setIfInBounds_toArray, List.set_cons_zero, List.set_cons_succ]
  refine wpAnyH_take (i := 4) (v := ?_) rfl (by kernel_rfl) (by kernel_rfl) (by kernel_rfl) (fun _ _ _ h => h) (Or.inl ⟨by rfl, ?_⟩) hHeld ?_
  rotate_left 1
  · (intro w hSw; (try dsimp only at hSw); go_simp; try with_reducible rfl)
  try simp only [Act.put, List.getElem_toArray, List.getElem_cons_zero, List.getElem_cons_succ, List.setIfInBounds_toArray, List.set_cons_zero, List.set_cons_succ]
  refine wpAnyH_take (i := 5) (v := ?_) rfl (by kernel_rfl) (by kernel_rfl) (by kernel_rfl) (fun _ _ _ h => h) (Or.inl ⟨by rfl, ?_⟩) hHeld ?_
  rotate_left 1
  · (intro w hSw; obtain ⟨q1, q2, q3⟩ := hSw; go_simp; try with_reducible rfl)
  try simp only [Act.put, List.getElem_toArray, List.getElem_cons_zero, List.getElem_cons_succ, List.setIfInBounds_toArray, List.set_cons_zero, List.set_cons_succ]
  refine wpAnyH_take (i := 6) (v := ?_) rfl (by kernel_rfl) (by kernel_rfl) (by kernel_rfl) (fun _ _ _ h => h) (Or.inl ⟨by rfl, ?_⟩) hHeld ?_
  rotate_left 1
  · (intro w hSw; (try dsimp only at hSw); go_simp; try with_reducible rfl)
  try simp only [Act.put, List.getElem_toArray, List.getElem_cons_zero, List.getElem_cons_succ, List.setIfInBounds_toArray, List.set_cons_zero, List.set_cons_succ]
  refine wpAnyH_take (i := 7) (v := ?_) rfl (by kernel_rfl) (by kernel_rfl) (by kernel_rfl) (fun _ _ _ h => h) (Or.inl ⟨by rfl, ?_⟩) hHeld ?_
  rotate_left 1
  · (intro w hSw; obtain ⟨q1, q2, q3⟩ := hSw; go_simp; try with_reducible rfl)
  try simp only [Act.put, List.getElem_toArray, List.getElem_cons_zero, List.getElem_cons_succ, List.setIfInBounds_toArray, List.set_cons_zero, List.set_cons_succ]
  refine wpAnyH_take (i := 8) (v := ?_) rfl (by kernel_rfl) (by kernel_rfl) (by kernel_rfl) (fun _ _ _ h => h) (Or.inl ⟨by rfl, ?_⟩) hHeld ?_
  rotate_left 1
  · (intro w hSw; (try dsimp only at hSw); go_simp; try with_reducible rfl)
  try simp only [Act.put, List.getElem_toArray, List.getElem_cons_zero, List.getElem_cons_succ, List.setIfInBounds_toArray, List.set_cons_zero, List.set_cons_succ]
  refine wpAnyH_take (i := 9) (v := ?_) rfl (by kernel_rfl) (by kernel_rfl) (by kernel_rfl) (fun _ _ _ h => h) (Or.inl ⟨by rfl, ?_⟩) hHeld ?_
  rotate_left 1
  · (intro w hSw; obtain ⟨q1, q2, q3⟩ := hSw; go_simp; try with_reducible rfl)
  try simp only [Act.put, List.getElem_toArray, List.getElem_cons_zero, List.getElem_cons_succ, List.setIfInBounds_toArray, List.set_cons_zero, List.set_cons_succ]
  refine wpAnyH_ready (rs := [10]) (by kernel_rfl) (by simp) (AllReadyH.cons rfl (fun K hK => ?_) AllReadyH.nil)
  clear hHeld
  go_simp
  with_reducible refine (HSM.out _ ?_).mono ?_
  exact HDB.out.G (HG1.out.trans (G.drew (G.refl _)))
  rintro e' w2 ⟨rfl, hg, hbk⟩
  have HG2 := hide (G.trans (G.drew (G.refl _)) hg)
  have HK2 := hide hbk
  clear hg hbk
  go_wp2_with fail
  refine hK.out _ _ (HH1.out.G HG2.out (by simp)) (fun hHeld => ?_)
  clear hK K
  try simp only [Act.put, List.getElem_toArray, List.getElem_cons_zero, List.getElem_cons_succ, List.setIfInBounds_toArray, List.set_cons_zero, List.set_cons_succ]
  refine wpAnyH_ready (rs := [11]) (by kernel_rfl) (by simp) (AllReadyH.cons rfl (fun K hK => ?_) AllReadyH.nil)
  clear hHeld
  go_simp
  with_reducible refine (HRD.out _ _ ?_ ?_ ?_).mono ?_
  exact HS1.out.sp.G HG2.out
  exact HK2.out.bytes
  exact (fun j hj e => by
    obtain ⟨a, nn, c, h1, _, h2⟩ := hj
    have h3 := (HS1.out.d2 j (.inl e)).2
    cases h1
    simp at h2
    omega)
  rintro e' w3 ⟨rfl, hsl, hch⟩
  have HLw3 := hide hsl
  have HCw3 := hide hch
  clear hsl hch
  go_wp2_with fail
  refine hK.out _ _ ((HH1.out.G HG2.out (by simp)).chg HCw3.out (by simp) HNP.out HOP.out) (fun hHeld => ?_)
  clear hK K
  try simp only [Act.put, List.getElem_toArray, List.getElem_cons_zero, List.getElem_cons_succ, List.setIfInBounds_toArray, List.set_cons_zero, List.set_cons_succ]
  refine wpAnyH_take (i := 12) (v := ?_) rfl (by kernel_rfl) (by kernel_rfl) (by kernel_rfl) (fun _ _ _ h => h) (Or.inl ⟨by rfl, ?_⟩) hHeld ?_
  rotate_left 1
  · (intro w hSw; (try dsimp only at hSw); go_simp; try with_reducible rfl)
  try simp only [Act.put, List.getElem_toArray, List.getElem_cons_zero, List.getElem_cons_succ, List.setIfInBounds_toArray, List.set_cons_zero, List.set_cons_succ]
  refine wpAnyH_done (by kernel_rfl) ?_ _
  refine NoPanic.normal ?_
  go_wp2_with fail
  refine wp_region_noPanic ?_
  refine wp_region_held_drew (S := (fun W => Hd W t s w.heap.size pv rv [I 5, I who, I n, dv, kv])) (by kernel_rfl) (((HH1.out.G HG2.out (by simp)).chg HCw3.out (by simp) HNP.out HOP.out).G (G.drew (G.refl _)) (by simp)) (fun hHeld => ?_)
  refine wpAnyH_take (i := 0) (v := ?_) rfl (by kernel_rfl) (by kernel_rfl) (by kernel_rfl) (fun _ _ _ h => h) (Or.inl ⟨by rfl, ?_⟩) hHeld ?_
  rotate_left 1
  · (intro w hSw; (try dsimp only at hSw); go_simp; try with_reducible rfl)
  try simp only [Act.put, List.getElem_toArray, List.getElem_cons_zero, List.setIfInBounds_toArray, List.set_cons_zero, List.set_cons_succ]
  refine wpAnyH_take (i := 1) (v := ?_) rfl (by kernel_rfl) (by kernel_rfl) (by kernel_rfl) (fun _ _ _ h => h) (Or.inl ⟨by rfl, ?_⟩) hHeld ?_
  rotate_left 1
  · (intro w hSw; (try dsimp only at hSw); go_simp; try with_reducible rfl)
  try simp only [Act.put, List.getElem_toArray, List.getElem_cons_zero, List.getElem_cons_succ, List.setIfInBounds_toArray, List.set_cons_zero, List.set_cons_succ]
  refine wpAnyH_take (i := 2) (v := ?_) rfl (by kernel_rfl) (by kernel_rfl) (by kernel_rfl) (fun _ _ _ h => h) (Or.inl ⟨by rfl, ?_⟩) hHeld ?_
  rotate_left 1
  · (intro w hSw; (try dsimp only at hSw); go_simp; try with_reducible rfl)
  try simp only [Act.put, List.getElem_toArray, List.getElem_cons_zero, List.getElem_cons_succ, List.setIfInBounds_toArray, List.set_cons_zero, List.set_cons_succ]
  refine wpAnyH_take (i := 3) (v := ?_) rfl (by kernel_rfl) (by kernel_rfl) (by kernel_rfl) (fun _ _ _ h => h) (Or.inl ⟨by rfl, ?_⟩) hHeld ?_
  rotate_left 1
  · (intro w hSw; (try dsimp only at hSw); go_simp; try with_reducible rfl)
  try simp only [Act.put, List.getElem_toArray, List.getElem_cons_zero, List.getElem_cons_succ, List.setIfInBounds_toArray, List.set_cons_zero, List.set_cons_succ]
  refine wpAnyH_take (i := 4) (v := ?_) rfl (by kernel_rfl) (by kernel_rfl) (by kernel_rfl) (fun _ _ _ h => h) (Or.inl ⟨by rfl, ?_⟩) hHeld ?_
  rotate_left 1
  · (intro w hSw; (try dsimp only at hSw); go_simp; try with_reducible rfl)
  try simp only [Act.put, List.getElem_toArray, List.getElem_cons_zero, List.getElem_cons_succ, List.setIfInBounds_toArray, List.set_cons_zero, List.set_cons_succ]
  refine wpAnyH_take (i := 5) (v := ?_) rfl (by kernel_rfl) (by kernel_rfl) (by kernel_rfl) (fun _ _ _ h => h) (Or.inl ⟨by rfl, ?_⟩) hHeld ?_
  rotate_left 1
  · (intro w hSw; obtain ⟨q1, q2, q3⟩ := hSw; go_simp; try with_reducible rfl)
  try simp only [Act.put, List.getElem_toArray, List.getElem_cons_zero, List.getElem_cons_succ, List.setIfInBounds_toArray, List.set_cons_zero, List.set_cons_succ]
  refine wpAnyH_take (i := 6) (v := ?_) rfl (by kernel_rfl) (by kernel_rfl) (by kernel_rfl) (fun _ _ _ h => h) (Or.inl ⟨by rfl, ?_⟩) hHeld ?_
  rotate_left 1
  · (intro w hSw; (try dsimp only at hSw); go_simp; try with_reducible rfl)
  try simp only [Act.put, List.getElem_toArray, List.getElem_cons_zero, List.getElem_cons_succ, List.setIfInBounds_toArray, List.set_cons_zero, List.set_cons_succ]
  refine wpAnyH_take (i := 7) (v := ?_) rfl (by kernel_rfl) (by kernel_rfl) (by kernel_rfl) (fun _ _ _ h => h) (Or.inl ⟨by rfl, ?_⟩) hHeld ?_
  rotate_left 1
  · (intro w hSw; obtain ⟨q1, q2, q3⟩ := hSw; go_simp; try with_reducible rfl)
  try simp only [Act.put, List.getElem_toArray, List.getElem_cons_zero, List.getElem_cons_succ, List.setIfInBounds_toArray, List.set_cons_zero, List.set_cons_succ]
  refine wpAnyH_take (i := 8) (v := ?_) rfl (by kernel_rfl) (by kernel_rfl) (by kernel_rfl) (fun _ _ _ h => h) (Or.inl ⟨by rfl, ?_⟩) hHeld ?_
  rotate_left 1
  · (intro w hSw; (try dsimp only at hSw); go_simp; try with_reducible rfl)
  try simp only [Act.put, List.getElem_toArray, List.getElem_cons_zero, List.getElem_cons_succ, List.setIfInBounds_toArray, List.set_cons_zero, List.set_cons_succ]
  refine wpAnyH_take (i := 9) (v := ?_) rfl (by kernel_rfl) (by kernel_rfl) (by kernel_rfl) (fun _ _ _ h => h) (Or.inl ⟨by rfl, ?_⟩) hHeld ?_
  rotate_left 1
  · (intro w hSw; obtain ⟨q1, q2, q3⟩ := hSw; go_simp; try with_reducible rfl)
  try simp only [Act.put, List.getElem_toArray, List.getElem_cons_zero, List.getElem_cons_succ, List.setIfInBounds_toArray, List.set_cons_zero, List.set_cons_succ]
  refine wpAnyH_ready (rs := [10]) (by kernel_rfl) (by simp) (AllReadyH.cons rfl (fun K hK => ?_) AllReadyH.nil)
  clear hHeld
  go_simp
  with_reducible refine (HRR.out _ ?_ ?_).mono ?_
  exact ((HS1.out.sr.G HG2.out).chg HCw3.out HDIS.out).G (G.drew (G.refl _))
  exact ((HDB.out.G (HG1.out.trans HG2.out)).chg HCw3.out (fun j hj => (HDF.out j hj).1)).G (G.drew (G.refl _))
  rintro e' w4 ⟨rfl, hsl, hch⟩
  have HLw4 := hide hsl
  have HCw4 := hide (Chg.trans (G.drew (G.refl _)).chg hch)
  clear hsl hch
  go_wp2_with fail
  refine hK.out _ _ (((HH1.out.G HG2.out (by simp)).chg HCw3.out (by simp) HNP.out HOP.out).chg HCw4.out (by simp) HNR.out HOR.out) (fun hHeld => ?_)
  clear hK K
  try simp only [Act.put, List.getElem_toArray, List.getElem_cons_zero, List.getElem_cons_succ, List.setIfInBounds_toArray, List.set_cons_zero, List.set_cons_succ]
  refine wpAnyH_take (i := 11) (v := ?_) rfl (by kernel_rfl) (by kernel_rfl) (by kernel_rfl) (fun _ _ _ h => h) (Or.inl ⟨by rfl, ?_⟩) hHeld ?_
  rotate_left 1
  · (intro w hSw; (try dsimp only at hSw); go_simp; try with_reducible rfl)
  try simp only [Act.put, List.getElem_toArray, List.getElem_cons_zero, List.getElem_cons_succ, List.setIfInBounds_toArray, List.set_cons_zero, List.set_cons_succ]
  refine wpAnyH_done (by kernel_rfl) ?_ _
  refine NoPanic.normal ?_
  go_wp2
  go_ret
  exact ⟨rfl, ((HS1.out.G HG2.out).both HCw3.out HLw3.out HCw4.out HLw4.out (fun k hk => hk) (fun k hk => hk.imp id (fun x => x)) (few_wr HB.out n xs)).back (HG1.out.trans HG2.out)⟩
set_option maxRecDepth 100000 in
set_option maxHeartbeats 4000000 in
theorem tells_pending (who n : Int) (dv kv : Value) (t s : Nat) (cs : List Value) (pv rv : Value) (FP FR : Nat → Prop) (mo : Option DM) (B : Nat) (hw : bits BinOp.and IntKind.i64 who 1 = (s : Int)) (hBB : B ≤ 549755813888) (w : World) (hB : fewO mo B) (h : SS w t s cs pv rv FP FR mo) : Calls Try.prog 49 #[.pointer (some ⟨t, 0, none⟩), .agg #[I 9, I who, I n, dv, kv]] w fun e w' => e = .returned (.bool true) ∧ G w w' := by
  have hBf : fewO mo 549755813888 := fun m e => by obtain ⟨h1, h2, h3⟩ := hB m e; exact ⟨by omega, by omega, by omega⟩
  have HRD := hide (fun W (hW : SlP W FP pv mo) => uP_pending FP mo pv W hBf hW)
  have HRR := hide (fun W (hW : SlR W FR rv mo) => uR_pending FR mo rv W hBf hW)
  have HWT : Hid (∀ x y F1 N1 F2 N2 W, RowW W x (pnL mo) F1 N1 → RowW W y (pnL mo) F2 N2 → Calls Try.prog 33 #[x, y] W fun e w' => e = .returned (.bool true) ∧ G W w') := fun x y F1 N1 F2 N2 W h1 h2 => by
    refine writes_true x y (pnL mo) F1 F2 N1 N2 ?_ ?_ W h1 h2
    · cases mo with
      | none => simp [pnL]
      | some m => have := (hBf m rfl).p; simp only [pnL]; omega
    · cases mo with
      | none => simp [pnL]
      | some m => obtain ⟨p, _, hd⟩ := h.sp; exact fun e he => (hd.ok.p e he).2.1
  clear hBf
  have HS0 := hide h
  have hs2 := h.s2
  have HO1 := hide (Blk.new w [I 9, I who, I n, dv, kv] 39)
  have HG1 := hide ((G.refl w).alloc (.cells #[I 9, I who, I n, dv, kv] 39))
  have HB := hide hB
  have hsI : (s : Int) < 2 := by omega
  have hsw : IntKind.i64.wrap (s : Int) = s := by rw [IntKind.wrap_i64]; omega
  have HNP : Hid (¬ FP t) := fun e => (HS0.out.d2 t (.inl e)).1 rfl
  have HNR : Hid (¬ FR t) := fun e => (HS0.out.d2 t (.inr e)).1 rfl
  have HOP : Hid (¬ FP w.heap.size) := fun e => by have := (HS0.out.d2 _ (.inl e)).2; omega
  have HOR : Hid (¬ FR w.heap.size) := fun e => by have := (HS0.out.d2 _ (.inr e)).2; omega
  have HDIS : Hid (∀ k, FR k → ¬ FP k) := fun k hr hp => HS0.out.d1 k hp hr
  clear h hB
  go_enter Try.func49, Try.ntmps49
  go_wp2_with fail
  generalize w.alloc (.cells #[I 9, I who, I n, dv, kv] 39) = w1 at HO1 HG1 ⊢
  have HS1 := hide (HS0.out.G HG1.out)
  have HH1 := hide (HS1.out.hd HO1.out)
  refine wp_region_noPanic ?_
  refine wp_region_held_drew (S := (fun W => Hd W t s w.heap.size pv rv [I 9, I who, I n, dv, kv])) (by kernel_rfl) (HH1.out.G (G.drew (G.refl w1)) (by simp)) (fun hHeld => ?_)
  refine wpAnyH_take (i := 0) (v := ?_) rfl (by kernel_rfl) (by kernel_rfl) (by kernel_rfl) (fun _ _ _ h => h) (Or.inl ⟨by rfl, ?_⟩) hHeld ?_
  rotate_left 1
  · (intro w hSw; (try dsimp only at hSw); go_simp; try with_reducible rfl)
  try simp only [Act.put, List.getElem_toArray, List.getElem_cons_zero, List.setIfInBounds_toArray, List.set_cons_zero, List.set_cons_succ]
  refine wpAnyH_take (i := 1) (v := ?_) rfl (by kernel_rfl) (by kernel_rfl) (by kernel_rfl) (fun _ _ _ h => h) (Or.inl ⟨by rfl, ?_⟩) hHeld ?_
  rotate_left 1
  · (intro w hSw; (try dsimp only at hSw); go_simp; try with_reducible rfl)
  try simp only [Act.put, List.getElem_toArray, List.getElem_cons_zero, List.getElem_cons_succ, List.setIfInBounds_toArray, List.set_cons_zero, List.set_cons_succ]
  refine wpAnyH_take (i := 2) (v := ?_) rfl (by kernel_rfl) (by kernel_rfl) (by kernel_rfl) (fun _ _ _ h => h) (Or.inl ⟨by rfl, ?_⟩) hHeld ?_
  rotate_left 1
  · (intro w hSw; (try dsimp only at hSw); go_simp; try with_reducible rfl)
  try simp only [Act.put, List.getElem_toArray, List.getElem_cons_zero, List.getElem_cons_succ, List.setIfInBounds_toArray, List.set_cons_zero, List.set_cons_succ]
  refine wpAnyH_take (i := 3) (v := ?_) rfl (by kernel_rfl) (by kernel_rfl) (by kernel_rfl) (fun _ _ _ h => h) (Or.inl ⟨by rfl, ?_⟩) hHeld ?_
  rotate_left 1
  · (intro w hSw; (try dsimp only at hSw); go_simp; try with_reducible rfl)
  try simp only [Act.put, List.getElem_toArray, List.getElem_cons_zero, List.getElem_cons_succ, List.setIfInBounds_toArray, List.set_cons_zero, List.set_cons_succ]
  refine wpAnyH_take (i := 4) (v := ?_) rfl (by kernel_rfl) (by kernel_rfl) (by kernel_rfl) (fun _ _ _ h => h) (Or.inl ⟨by rfl, ?_⟩) hHeld ?_
  rotate_left 1
  · (intro w hSw; (try dsimp only at hSw); go_simp; try with_reducible rfl)
  try simp only [Act.put, List.getElem_toArray, List.getElem_cons_zero, List.getElem_cons_succ, List.setIfInBounds_toArray, List.set_cons_zero, List.set_cons_succ]
  refine wpAnyH_take (i := 5) (v := ?_) rfl (by kernel_rfl) (by kernel_rfl) (by kernel_rfl) (fun _ _ _ h => h) (Or.inl ⟨by rfl, ?_⟩) hHeld ?_
  rotate_left 1
  · (intro w hSw; obtain ⟨q1, q2, q3⟩ := hSw; go_simp; try with_reducible rfl)
  try simp only [Act.put, List.getElem_toArray, List.getElem_cons_zero, List.getElem_cons_succ, List.setIfInBounds_toArray, List.set_cons_zero, List.set_cons_succ]
  refine wpAnyH_take (i := 7) (v := ?_) rfl (by kernel_rfl) (by kernel_rfl) (by kernel_rfl) (fun _ _ _ h => h) (Or.inl ⟨by rfl, ?_⟩) hHeld ?_
  rotate_left 1
  · (intro w hSw; (try dsimp only at hSw); go_simp; try with_reducible rfl)
  try simp only [Act.put, List.getElem_toArray, List.getElem_cons_zero, List.getElem_cons_succ, List.setIfInBounds_toArray, List.set_cons_zero, List.set_cons_succ]
  refine wpAnyH_take (i := 8) (v := ?_) rfl (by kernel_rfl) (by kernel_rfl) (by kernel_rfl) (fun _ _ _ h => h) (Or.inl ⟨by rfl, ?_⟩) hHeld ?_
  rotate_left 1
  · (intro w hSw; (try dsimp only at hSw); go_simp; try with_reducible rfl)
  try simp only [Act.put, List.getElem_toArray, List.getElem_cons_zero, List.getElem_cons_succ, List.setIfInBounds_toArray, List.set_cons_zero, List.set_cons_succ]
  refine wpAnyH_take (i := 9) (v := ?_) rfl (by kernel_rfl) (by kernel_rfl) (by kernel_rfl) (fun _ _ _ h => h) (Or.inl ⟨by rfl, ?_⟩) hHeld ?_
  rotate_left 1
  · (intro w hSw; (try dsimp only at hSw); go_simp; try with_reducible rfl)
  try simp only [Act.put, List.getElem_toArray, List.getElem_cons_zero, List.getElem_cons_succ, List.setIfInBounds_toArray, List.set_cons_zero, List.set_cons_succ]
  refine wpAnyH_take (i := 10) (v := ?_) rfl (by kernel_rfl) (by kernel_rfl) (by kernel_rfl) (fun _ _ _ h => h) (Or.inl ⟨by rfl, ?_⟩) hHeld ?_
  rotate_left 1
  · (intro w hSw; (try dsimp only at hSw); go_simp; try with_reducible rfl)
  try simp only [Act.put, List.getElem_toArray, List.getElem_cons_zero, List.getElem_cons_succ, List.setIfInBounds_toArray, List.set_cons_zero, List.set_cons_succ]
  refine wpAnyH_take (i := 11) (v := ?_) rfl (by kernel_rfl) (by kernel_rfl) (by kernel_rfl) (fun _ _ _ h => h) (Or.inl ⟨by rfl, ?_⟩) hHeld ?_
  rotate_left 1
  · (intro w hSw; (try dsimp only at hSw); go_simp; try with_reducible rfl)
  try simp only [Act.put, List.getElem_toArray, List.getElem_cons_zero, List.getElem_cons_succ, List.setIfInBounds_toArray, List.set_cons_zero, List.set_cons_succ]
  refine wpAnyH_take (i := 12) (v := ?_) rfl (by kernel_rfl) (by kernel_rfl) (by kernel_rfl) (fun _ _ _ h => h) (Or.inl ⟨by rfl, ?_⟩) hHeld ?_
  rotate_left 1
  · (intro w hSw; obtain ⟨q1, q2, q3⟩ := hSw; go_simp; try with_reducible rfl)
  try simp only [Act.put, List.getElem_toArray, List.getElem_cons_zero, List.getElem_cons_succ, List.setIfInBounds_toArray, List.set_cons_zero, List.set_cons_succ]
  refine wpAnyH_ready (rs := [6]) (by kernel_rfl) (by simp) (AllReadyH.cons rfl (fun K hK => ?_) AllReadyH.nil)
  clear hHeld
  go_simp
  with_reducible refine (HRD.out _ ?_).mono ?_
  exact HS1.out.sp.G (G.drew (G.refl w1))
  rintro e' w2 ⟨xw2, rfl, hb, hx⟩
  have HG2 := hide (G.trans (G.refl _) hb)
  have HXw2 := hide hx
  clear hb hx
  go_wp2_with fail
  refine hK.out _ _ (HH1.out.G (((G.drew (G.refl w1))).trans HG2.out) (by simp)) (fun hHeld => ?_)
  clear hK K
  try simp only [Act.put, List.getElem_toArray, List.getElem_cons_zero, List.getElem_cons_succ, List.setIfInBounds_toArray, List.set_cons_zero, List.set_cons_succ]
  refine wpAnyH_ready (rs := [13]) (by kernel_rfl) (by simp) (AllReadyH.cons rfl (fun K hK => ?_) AllReadyH.nil)
  clear hHeld
  go_simp
  with_reducible refine (HRR.out _ ?_).mono ?_
  exact HS1.out.sr.G (((G.drew (G.refl w1))).trans HG2.out)
  rintro e' w3 ⟨xw3, rfl, hb, hx⟩
  have HG3 := hide (G.trans (G.refl _) hb)
  have HXw3 := hide hx
  clear hb hx
  go_wp2_with fail
  refine hK.out _ _ (HH1.out.G ((((G.drew (G.refl w1))).trans HG2.out).trans HG3.out) (by simp)) (fun hHeld => ?_)
  clear hK K
  try simp only [Act.put, List.getElem_toArray, List.getElem_cons_zero, List.getElem_cons_succ, List.setIfInBounds_toArray, List.set_cons_zero, List.set_cons_succ]
  refine wpAnyH_ready (rs := [14]) (by kernel_rfl) (by simp) (AllReadyH.cons rfl (fun K hK => ?_) AllReadyH.nil)
  clear hHeld
  go_simp
  with_reducible refine (HWT.out _ _ _ _ _ _ _ (HXw2.out.G HG3.out) HXw3.out).mono ?_
  rintro e' w4 ⟨rfl, hb⟩
  have HG4 := hide hb
  clear hb
  go_wp2_with fail
  refine hK.out _ _ (HH1.out.G (((((G.drew (G.refl w1))).trans HG2.out).trans HG3.out).trans HG4.out) (by simp)) (fun hHeld => ?_)
  clear hK K
  try simp only [Act.put, List.getElem_toArray, List.getElem_cons_zero, List.getElem_cons_succ, List.setIfInBounds_toArray, List.set_cons_zero, List.set_cons_succ]
  refine wpAnyH_take (i := 15) (v := ?_) rfl (by kernel_rfl) (by kernel_rfl) (by kernel_rfl) (fun _ _ _ h => h) (Or.inl ⟨by rfl, ?_⟩) hHeld ?_
  rotate_left 1
  · (intro w hSw; (try dsimp only at hSw); go_simp; try with_reducible rfl)
  try simp only [Act.put, List.getElem_toArray, List.getElem_cons_zero, List.getElem_cons_succ, List.setIfInBounds_toArray, List.set_cons_zero, List.set_cons_succ]
  refine wpAnyH_done (by kernel_rfl) ?_ _
  refine NoPanic.normal ?_
  go_wp2
  go_ret
  exact ⟨rfl, HG1.out.trans (((((G.drew (G.refl w1))).trans HG2.out).trans HG3.out).trans HG4.out)⟩
set_option maxRecDepth 100000 in
set_option maxHeartbeats 4000000 in
theorem tells_image (who n : Int) (dv kv : Value) (t s : Nat) (cs : List Value) (pv rv : Value) (FP FR : Nat → Prop) (mo : Option DM) (B : Nat) (hw : bits BinOp.and IntKind.i64 who 1 = (s : Int)) (hBB : B ≤ 549755813888) (w : World) (hB : fewO mo B) (h : SS w t s cs pv rv FP FR mo) : Calls Try.prog 49 #[.pointer (some ⟨t, 0, none⟩), .agg #[I 10, I who, I n, dv, kv]] w fun e w' => e = .returned (.bool true) ∧ G w w' := by
  have hBf : fewO mo 549755813888 := fun m e => by obtain ⟨h1, h2, h3⟩ := hB m e; exact ⟨by omega, by omega, by omega⟩
  have HRD := hide (fun W (hW : SlP W FP pv mo) => uP_image FP mo pv W hW)
  have HRR := hide (fun W (hW : SlR W FR rv mo) => uR_image FR mo rv W hW)
  have HWT : Hid (∀ x y W, Bytes W x (imB mo) → Bytes W y (imB mo) → Calls Try.prog 16 #[x, y] W fun e w' => e = .returned (.bool true) ∧ G W w') := fun x y W h1 h2 => by
    refine same_true x y (imB mo) ?_ W h1 h2
    cases mo with
    | none => simp [imB]
    | some m => obtain ⟨p, _, hd⟩ := h.sp; simp only [imB]; rw [hd.ok.ll]; have := hd.ok.n2; omega
  clear hBf
  have HS0 := hide h
  have hs2 := h.s2
  have HO1 := hide (Blk.new w [I 10, I who, I n, dv, kv] 39)
  have HG1 := hide ((G.refl w).alloc (.cells #[I 10, I who, I n, dv, kv] 39))
  have HB := hide hB
  have hsI : (s : Int) < 2 := by omega
  have hsw : IntKind.i64.wrap (s : Int) = s := by rw [IntKind.wrap_i64]; omega
  have HNP : Hid (¬ FP t) := fun e => (HS0.out.d2 t (.inl e)).1 rfl
  have HNR : Hid (¬ FR t) := fun e => (HS0.out.d2 t (.inr e)).1 rfl
  have HOP : Hid (¬ FP w.heap.size) := fun e => by have := (HS0.out.d2 _ (.inl e)).2; omega
  have HOR : Hid (¬ FR w.heap.size) := fun e => by have := (HS0.out.d2 _ (.inr e)).2; omega
  have HDIS : Hid (∀ k, FR k → ¬ FP k) := fun k hr hp => HS0.out.d1 k hp hr
  clear h hB
  go_enter Try.func49, Try.ntmps49
  go_wp2_with fail
  generalize w.alloc (.cells #[I 10, I who, I n, dv, kv] 39) = w1 at HO1 HG1 ⊢
  have HS1 := hide (HS0.out.G HG1.out)
  have HH1 := hide (HS1.out.hd HO1.out)
  refine wp_region_noPanic ?_
  refine wp_region_held_drew (S := (fun W => Hd W t s w.heap.size pv rv [I 10, I who, I n, dv, kv])) (by kernel_rfl) (HH1.out.G (G.drew (G.refl w1)) (by simp)) (fun hHeld => ?_)
  refine wpAnyH_take (i := 0) (v := ?_) rfl (by kernel_rfl) (by kernel_rfl) (by kernel_rfl) (fun _ _ _ h => h) (Or.inl ⟨by rfl, ?_⟩) hHeld ?_
  rotate_left 1
  · (intro w hSw; (try dsimp only at hSw); go_simp; try with_reducible rfl)
  try simp only [Act.put, List.getElem_toArray, List.getElem_cons_zero, List.setIfInBounds_toArray, List.set_cons_zero, List.set_cons_succ]
  refine wpAnyH_take (i := 1) (v := ?_) rfl (by kernel_rfl) (by kernel_rfl) (by kernel_rfl) (fun _ _ _ h => h) (Or.inl ⟨by rfl, ?_⟩) hHeld ?_
  rotate_left 1
  · (intro w hSw; (try dsimp only at hSw); go_simp; try with_reducible rfl)
  try simp only [Act.put, List.getElem_toArray, List.getElem_cons_zero, List.getElem_cons_succ, List.setIfInBounds_toArray, List.set_cons_zero, List.set_cons_succ]
  refine wpAnyH_take (i := 2) (v := ?_) rfl (by kernel_rfl) (by kernel_rfl) (by kernel_rfl) (fun _ _ _ h => h) (Or.inl ⟨by rfl, ?_⟩) hHeld ?_
  rotate_left 1
  · (intro w hSw; (try dsimp only at hSw); go_simp; try with_reducible rfl)
  try simp only [Act.put, List.getElem_toArray, List.getElem_cons_zero, List.getElem_cons_succ, List.setIfInBounds_toArray, List.set_cons_zero, List.set_cons_succ]
  refine wpAnyH_take (i := 3) (v := ?_) rfl (by kernel_rfl) (by kernel_rfl) (by kernel_rfl) (fun _ _ _ h => h) (Or.inl ⟨by rfl, ?_⟩) hHeld ?_
  rotate_left 1
  · (intro w hSw; (try dsimp only at hSw); go_simp; try with_reducible rfl)
  try simp only [Act.put, List.getElem_toArray, List.getElem_cons_zero, List.getElem_cons_succ, List.setIfInBounds_toArray, List.set_cons_zero, List.set_cons_succ]
  refine wpAnyH_take (i := 4) (v := ?_) rfl (by kernel_rfl) (by kernel_rfl) (by kernel_rfl) (fun _ _ _ h => h) (Or.inl ⟨by rfl, ?_⟩) hHeld ?_
  rotate_left 1
  · (intro w hSw; (try dsimp only at hSw); go_simp; try with_reducible rfl)
  try simp only [Act.put, List.getElem_toArray, List.getElem_cons_zero, List.getElem_cons_succ, List.setIfInBounds_toArray, List.set_cons_zero, List.set_cons_succ]
  refine wpAnyH_take (i := 5) (v := ?_) rfl (by kernel_rfl) (by kernel_rfl) (by kernel_rfl) (fun _ _ _ h => h) (Or.inl ⟨by rfl, ?_⟩) hHeld ?_
  rotate_left 1
  · (intro w hSw; obtain ⟨q1, q2, q3⟩ := hSw; go_simp; try with_reducible rfl)
  try simp only [Act.put, List.getElem_toArray, List.getElem_cons_zero, List.getElem_cons_succ, List.setIfInBounds_toArray, List.set_cons_zero, List.set_cons_succ]
  refine wpAnyH_take (i := 7) (v := ?_) rfl (by kernel_rfl) (by kernel_rfl) (by kernel_rfl) (fun _ _ _ h => h) (Or.inl ⟨by rfl, ?_⟩) hHeld ?_
  rotate_left 1
  · (intro w hSw; (try dsimp only at hSw); go_simp; try with_reducible rfl)
  try simp only [Act.put, List.getElem_toArray, List.getElem_cons_zero, List.getElem_cons_succ, List.setIfInBounds_toArray, List.set_cons_zero, List.set_cons_succ]
  refine wpAnyH_take (i := 8) (v := ?_) rfl (by kernel_rfl) (by kernel_rfl) (by kernel_rfl) (fun _ _ _ h => h) (Or.inl ⟨by rfl, ?_⟩) hHeld ?_
  rotate_left 1
  · (intro w hSw; (try dsimp only at hSw); go_simp; try with_reducible rfl)
  try simp only [Act.put, List.getElem_toArray, List.getElem_cons_zero, List.getElem_cons_succ, List.setIfInBounds_toArray, List.set_cons_zero, List.set_cons_succ]
  refine wpAnyH_take (i := 9) (v := ?_) rfl (by kernel_rfl) (by kernel_rfl) (by kernel_rfl) (fun _ _ _ h => h) (Or.inl ⟨by rfl, ?_⟩) hHeld ?_
  rotate_left 1
  · (intro w hSw; (try dsimp only at hSw); go_simp; try with_reducible rfl)
  try simp only [Act.put, List.getElem_toArray, List.getElem_cons_zero, List.getElem_cons_succ, List.setIfInBounds_toArray, List.set_cons_zero, List.set_cons_succ]
  refine wpAnyH_take (i := 10) (v := ?_) rfl (by kernel_rfl) (by kernel_rfl) (by kernel_rfl) (fun _ _ _ h => h) (Or.inl ⟨by rfl, ?_⟩) hHeld ?_
  rotate_left 1
  · (intro w hSw; (try dsimp only at hSw); go_simp; try with_reducible rfl)
  try simp only [Act.put, List.getElem_toArray, List.getElem_cons_zero, List.getElem_cons_succ, List.setIfInBounds_toArray, List.set_cons_zero, List.set_cons_succ]
  refine wpAnyH_take (i := 11) (v := ?_) rfl (by kernel_rfl) (by kernel_rfl) (by kernel_rfl) (fun _ _ _ h => h) (Or.inl ⟨by rfl, ?_⟩) hHeld ?_
  rotate_left 1
  · (intro w hSw; (try dsimp only at hSw); go_simp; try with_reducible rfl)
  try simp only [Act.put, List.getElem_toArray, List.getElem_cons_zero, List.getElem_cons_succ, List.setIfInBounds_toArray, List.set_cons_zero, List.set_cons_succ]
  refine wpAnyH_take (i := 12) (v := ?_) rfl (by kernel_rfl) (by kernel_rfl) (by kernel_rfl) (fun _ _ _ h => h) (Or.inl ⟨by rfl, ?_⟩) hHeld ?_
  rotate_left 1
  · (intro w hSw; obtain ⟨q1, q2, q3⟩ := hSw; go_simp; try with_reducible rfl)
  try simp only [Act.put, List.getElem_toArray, List.getElem_cons_zero, List.getElem_cons_succ, List.setIfInBounds_toArray, List.set_cons_zero, List.set_cons_succ]
  refine wpAnyH_ready (rs := [6]) (by kernel_rfl) (by simp) (AllReadyH.cons rfl (fun K hK => ?_) AllReadyH.nil)
  clear hHeld
  go_simp
  with_reducible refine (HRD.out _ ?_).mono ?_
  exact HS1.out.sp.G (G.drew (G.refl w1))
  rintro e' w2 ⟨xw2, rfl, hb, hx⟩
  have HG2 := hide (G.trans (G.refl _) hb)
  have HXw2 := hide hx
  clear hb hx
  go_wp2_with fail
  refine hK.out _ _ (HH1.out.G (((G.drew (G.refl w1))).trans HG2.out) (by simp)) (fun hHeld => ?_)
  clear hK K
  try simp only [Act.put, List.getElem_toArray, List.getElem_cons_zero, List.getElem_cons_succ, List.setIfInBounds_toArray, List.set_cons_zero, List.set_cons_succ]
  refine wpAnyH_ready (rs := [13]) (by kernel_rfl) (by simp) (AllReadyH.cons rfl (fun K hK => ?_) AllReadyH.nil)
  clear hHeld
  go_simp
  with_reducible refine (HRR.out _ ?_).mono ?_
  exact HS1.out.sr.G (((G.drew (G.refl w1))).trans HG2.out)
  rintro e' w3 ⟨xw3, rfl, hb, hx⟩
  have HG3 := hide (G.trans (G.refl _) hb)
  have HXw3 := hide hx
  clear hb hx
  go_wp2_with fail
  refine hK.out _ _ (HH1.out.G ((((G.drew (G.refl w1))).trans HG2.out).trans HG3.out) (by simp)) (fun hHeld => ?_)
  clear hK K
  try simp only [Act.put, List.getElem_toArray, List.getElem_cons_zero, List.getElem_cons_succ, List.setIfInBounds_toArray, List.set_cons_zero, List.set_cons_succ]
  refine wpAnyH_ready (rs := [14]) (by kernel_rfl) (by simp) (AllReadyH.cons rfl (fun K hK => ?_) AllReadyH.nil)
  clear hHeld
  go_simp
  with_reducible refine (HWT.out _ _ _ (HXw2.out.G HG3.out) HXw3.out).mono ?_
  rintro e' w4 ⟨rfl, hb⟩
  have HG4 := hide hb
  clear hb
  go_wp2_with fail
  refine hK.out _ _ (HH1.out.G (((((G.drew (G.refl w1))).trans HG2.out).trans HG3.out).trans HG4.out) (by simp)) (fun hHeld => ?_)
  clear hK K
  try simp only [Act.put, List.getElem_toArray, List.getElem_cons_zero, List.getElem_cons_succ, List.setIfInBounds_toArray, List.set_cons_zero, List.set_cons_succ]
  refine wpAnyH_take (i := 15) (v := ?_) rfl (by kernel_rfl) (by kernel_rfl) (by kernel_rfl) (fun _ _ _ h => h) (Or.inl ⟨by rfl, ?_⟩) hHeld ?_
  rotate_left 1
  · (intro w hSw; (try dsimp only at hSw); go_simp; try with_reducible rfl)
  try simp only [Act.put, List.getElem_toArray, List.getElem_cons_zero, List.getElem_cons_succ, List.setIfInBounds_toArray, List.set_cons_zero, List.set_cons_succ]
  refine wpAnyH_done (by kernel_rfl) ?_ _
  refine NoPanic.normal ?_
  go_wp2
  go_ret
  exact ⟨rfl, HG1.out.trans (((((G.drew (G.refl w1))).trans HG2.out).trans HG3.out).trans HG4.out)⟩
theorem eqStat (mo : Option DM) (w : World) : (binOp .eql 105 (.agg (stA mo)) (.agg (stA mo))).run Try.prog w = .ok (.bool true) w := by
  cases mo with
  | none => simp [stA, go_sem]
  | some m => simp [stA, go_sem]
set_option maxRecDepth 100000 in
set_option maxHeartbeats 4000000 in
theorem tells_stat (who n : Int) (dv kv : Value) (t s : Nat) (cs : List Value) (pv rv : Value) (FP FR : Nat → Prop) (mo : Option DM) (B : Nat) (hw : bits BinOp.and IntKind.i64 who 1 = (s : Int)) (hBB : B ≤ 549755813888) (w : World) (hB : fewO mo B) (h : SS w t s cs pv rv FP FR mo) : Calls Try.prog 49 #[.pointer (some ⟨t, 0, none⟩), .agg #[I 11, I who, I n, dv, kv]] w fun e w' => e = .returned (.bool true) ∧ G w w' := by
  have hBf : fewO mo 549755813888 := fun m e => by obtain ⟨h1, h2, h3⟩ := hB m e; exact ⟨by omega, by omega, by omega⟩
  have HRD := hide (fun W (hW : SlP W FP pv mo) => uP_stat FP mo pv W hW)
  have HRR := hide (fun W (hW : SlR W FR rv mo) => uR_stat FR mo rv W hW)
  have heq := eqStat mo
  generalize stA mo = sv at HRD HRR heq
  clear hBf
  have HS0 := hide h
  have hs2 := h.s2
  have HO1 := hide (Blk.new w [I 11, I who, I n, dv, kv] 39)
  have HG1 := hide ((G.refl w).alloc (.cells #[I 11, I who, I n, dv, kv] 39))
  have HB := hide hB
  have hsI : (s : Int) < 2 := by omega
  have hsw : IntKind.i64.wrap (s : Int) = s := by rw [IntKind.wrap_i64]; omega
  have HNP : Hid (¬ FP t) := fun e => (HS0.out.d2 t (.inl e)).1 rfl
  have HNR : Hid (¬ FR t) := fun e => (HS0.out.d2 t (.inr e)).1 rfl
  have HOP : Hid (¬ FP w.heap.size) := fun e => by have := (HS0.out.d2 _ (.inl e)).2; omega
  have HOR : Hid (¬ FR w.heap.size) := fun e => by have := (HS0.out.d2 _ (.inr e)).2; omega
  have HDIS : Hid (∀ k, FR k → ¬ FP k) := fun k hr hp => HS0.out.d1 k hp hr
  clear h hB
  go_enter Try.func49, Try.ntmps49
  go_wp2_with fail
  generalize w.alloc (.cells #[I 11, I who, I n, dv, kv] 39) = w1 at HO1 HG1 ⊢
  have HS1 := hide (HS0.out.G HG1.out)
  have HH1 := hide (HS1.out.hd HO1.out)
  refine wp_region_noPanic ?_
  refine wp_region_held_drew (S := (fun W => Hd W t s w.heap.size pv rv [I 11, I who, I n, dv, kv])) (by kernel_rfl) (HH1.out.G (G.drew (G.refl w1)) (by simp)) (fun hHeld => ?_)
  refine wpAnyH_take (i := 0) (v := ?_) rfl (by kernel_rfl) (by kernel_rfl) (by kernel_rfl) (fun _ _ _ h => h) (Or.inl ⟨by rfl, ?_⟩) hHeld ?_
  rotate_left 1
  · (intro w hSw; (try dsimp only at hSw); go_simp; try with_reducible rfl)
  try simp only [Act.put, List.getElem_toArray, List.getElem_cons_zero, List.setIfInBounds_toArray, List.set_cons_zero, List.set_cons_succ]
  refine wpAnyH_take (i := 1) (v := ?_) rfl (by kernel_rfl) (by kernel_rfl) (by kernel_rfl) (fun _ _ _ h => h) (Or.inl ⟨by rfl, ?_⟩) hHeld ?_
  rotate_left 1
  · (intro w hSw; (try dsimp only at hSw); go_simp; try with_reducible rfl)
  try simp only [Act.put, List.getElem_toArray, List.getElem_cons_zero, List.getElem_cons_succ, List.setIfInBounds_toArray, List.set_cons_zero, List.set_cons_succ]
  refine wpAnyH_take (i := 2) (v := ?_) rfl (by kernel_rfl) (by kernel_rfl) (by kernel_rfl) (fun _ _ _ h => h) (Or.inl ⟨by rfl, ?_⟩) hHeld ?_
  rotate_left 1
  · (intro w hSw; (try dsimp only at hSw); go_simp; try with_reducible rfl)
  try simp only [Act.put, List.getElem_toArray, List.getElem_cons_zero, List.getElem_cons_succ, List.setIfInBounds_toArray, List.set_cons_zero, List.set_cons_succ]
  refine wpAnyH_take (i := 3) (v := ?_) rfl (by kernel_rfl) (by kernel_rfl) (by kernel_rfl) (fun _ _ _ h => h) (Or.inl ⟨by rfl, ?_⟩) hHeld ?_
  rotate_left 1
  · (intro w hSw; (try dsimp only at hSw); go_simp; try with_reducible rfl)
  try simp only [Act.put, List.getElem_toArray, List.getElem_cons_zero, List.getElem_cons_succ, List.setIfInBounds_toArray, List.set_cons_zero, List.set_cons_succ]
  refine wpAnyH_take (i := 4) (v := ?_) rfl (by kernel_rfl) (by kernel_rfl) (by kernel_rfl) (fun _ _ _ h => h) (Or.inl ⟨by rfl, ?_⟩) hHeld ?_
  rotate_left 1
  · (intro w hSw; (try dsimp only at hSw); go_simp; try with_reducible rfl)
  try simp only [Act.put, List.getElem_toArray, List.getElem_cons_zero, List.getElem_cons_succ, List.setIfInBounds_toArray, List.set_cons_zero, List.set_cons_succ]
  refine wpAnyH_take (i := 5) (v := ?_) rfl (by kernel_rfl) (by kernel_rfl) (by kernel_rfl) (fun _ _ _ h => h) (Or.inl ⟨by rfl, ?_⟩) hHeld ?_
  rotate_left 1
  · (intro w hSw; obtain ⟨q1, q2, q3⟩ := hSw; go_simp; try with_reducible rfl)
  try simp only [Act.put, List.getElem_toArray, List.getElem_cons_zero, List.getElem_cons_succ, List.setIfInBounds_toArray, List.set_cons_zero, List.set_cons_succ]
  refine wpAnyH_take (i := 7) (v := ?_) rfl (by kernel_rfl) (by kernel_rfl) (by kernel_rfl) (fun _ _ _ h => h) (Or.inl ⟨by rfl, ?_⟩) hHeld ?_
  rotate_left 1
  · (intro w hSw; (try dsimp only at hSw); go_simp; try with_reducible rfl)
  try simp only [Act.put, List.getElem_toArray, List.getElem_cons_zero, List.getElem_cons_succ, List.setIfInBounds_toArray, List.set_cons_zero, List.set_cons_succ]
  refine wpAnyH_take (i := 8) (v := ?_) rfl (by kernel_rfl) (by kernel_rfl) (by kernel_rfl) (fun _ _ _ h => h) (Or.inl ⟨by rfl, ?_⟩) hHeld ?_
  rotate_left 1
  · (intro w hSw; (try dsimp only at hSw); go_simp; try with_reducible rfl)
  try simp only [Act.put, List.getElem_toArray, List.getElem_cons_zero, List.getElem_cons_succ, List.setIfInBounds_toArray, List.set_cons_zero, List.set_cons_succ]
  refine wpAnyH_take (i := 9) (v := ?_) rfl (by kernel_rfl) (by kernel_rfl) (by kernel_rfl) (fun _ _ _ h => h) (Or.inl ⟨by rfl, ?_⟩) hHeld ?_
  rotate_left 1
  · (intro w hSw; (try dsimp only at hSw); go_simp; try with_reducible rfl)
  try simp only [Act.put, List.getElem_toArray, List.getElem_cons_zero, List.getElem_cons_succ, List.setIfInBounds_toArray, List.set_cons_zero, List.set_cons_succ]
  refine wpAnyH_take (i := 10) (v := ?_) rfl (by kernel_rfl) (by kernel_rfl) (by kernel_rfl) (fun _ _ _ h => h) (Or.inl ⟨by rfl, ?_⟩) hHeld ?_
  rotate_left 1
  · (intro w hSw; (try dsimp only at hSw); go_simp; try with_reducible rfl)
  try simp only [Act.put, List.getElem_toArray, List.getElem_cons_zero, List.getElem_cons_succ, List.setIfInBounds_toArray, List.set_cons_zero, List.set_cons_succ]
  refine wpAnyH_take (i := 11) (v := ?_) rfl (by kernel_rfl) (by kernel_rfl) (by kernel_rfl) (fun _ _ _ h => h) (Or.inl ⟨by rfl, ?_⟩) hHeld ?_
  rotate_left 1
  · (intro w hSw; (try dsimp only at hSw); go_simp; try with_reducible rfl)
  try simp only [Act.put, List.getElem_toArray, List.getElem_cons_zero, List.getElem_cons_succ, List.setIfInBounds_toArray, List.set_cons_zero, List.set_cons_succ]
  refine wpAnyH_take (i := 12) (v := ?_) rfl (by kernel_rfl) (by kernel_rfl) (by kernel_rfl) (fun _ _ _ h => h) (Or.inl ⟨by rfl, ?_⟩) hHeld ?_
  rotate_left 1
  · (intro w hSw; obtain ⟨q1, q2, q3⟩ := hSw; go_simp; try with_reducible rfl)
  try simp only [Act.put, List.getElem_toArray, List.getElem_cons_zero, List.getElem_cons_succ, List.setIfInBounds_toArray, List.set_cons_zero, List.set_cons_succ]
  refine wpAnyH_ready (rs := [6]) (by kernel_rfl) (by simp) (AllReadyH.cons rfl (fun K hK => ?_) AllReadyH.nil)
  clear hHeld
  go_simp
  with_reducible refine (HRD.out _ ?_).mono ?_
  exact HS1.out.sp.G (G.drew (G.refl w1))
  rintro e' w2 ⟨rfl, hb⟩
  have HG2 := hide hb
  clear hb
  go_wp2_with fail
  refine hK.out _ _ (HH1.out.G (((G.drew (G.refl w1))).trans HG2.out) (by simp)) (fun hHeld => ?_)
  clear hK K
  try simp only [Act.put, List.getElem_toArray, List.getElem_cons_zero, List.getElem_cons_succ, List.setIfInBounds_toArray, List.set_cons_zero, List.set_cons_succ]
  refine wpAnyH_ready (rs := [13]) (by kernel_rfl) (by simp) (AllReadyH.cons rfl (fun K hK => ?_) AllReadyH.nil)
  clear hHeld
  go_simp
  with_reducible refine (HRR.out _ ?_).mono ?_
  exact HS1.out.sr.G (((G.drew (G.refl w1))).trans HG2.out)
  rintro e' w3 ⟨rfl, hb⟩
  have HG3 := hide hb
  clear hb
  go_wp2_with fail
  refine hK.out _ _ (HH1.out.G ((((G.drew (G.refl w1))).trans HG2.out).trans HG3.out) (by simp)) (fun hHeld => ?_)
  clear hK K
  try simp only [Act.put, List.getElem_toArray, List.getElem_cons_zero, List.getElem_cons_succ, List.setIfInBounds_toArray, List.set_cons_zero, List.set_cons_succ]
  refine wpAnyH_take (i := 14) (v := ?_) rfl (by kernel_rfl) (by kernel_rfl) (by kernel_rfl) (fun _ _ _ h => h) (Or.inl ⟨by rfl, ?_⟩) hHeld ?_
  rotate_left 1
  · (intro w hSw; (try dsimp only at hSw); go_simp; try with_reducible rfl)
  try simp only [Act.put, List.getElem_toArray, List.getElem_cons_zero, List.getElem_cons_succ, List.setIfInBounds_toArray, List.set_cons_zero, List.set_cons_succ]
  refine wpAnyH_take (i := 15) (v := ?_) rfl (by kernel_rfl) (by kernel_rfl) (by kernel_rfl) (fun _ _ _ h => h) (Or.inl ⟨by rfl, ?_⟩) hHeld ?_
  rotate_left 1
  · (intro w hSw; (try dsimp only at hSw); go_simp; try with_reducible rfl)
  try simp only [Act.put, List.getElem_toArray, List.getElem_cons_zero, List.getElem_cons_succ, List.setIfInBounds_toArray, List.set_cons_zero, List.set_cons_succ]
  refine wpAnyH_done (by kernel_rfl) ?_ _
  refine NoPanic.normal ?_
  go_wp2
  go_ret
  exact ⟨rfl, HG1.out.trans ((((G.drew (G.refl w1))).trans HG2.out).trans HG3.out)⟩
set_option maxRecDepth 100000 in
set_option maxHeartbeats 4000000 in
theorem tells_sectors (who n : Int) (dv kv : Value) (t s : Nat) (cs : List Value) (pv rv : Value) (FP FR : Nat → Prop) (mo : Option DM) (B : Nat) (hw : bits BinOp.and IntKind.i64 who 1 = (s : Int)) (hBB : B ≤ 549755813888) (w : World) (hB : fewO mo B) (h : SS w t s cs pv rv FP FR mo) : Calls Try.prog 49 #[.pointer (some ⟨t, 0, none⟩), .agg #[I 3, I who, I n, dv, kv]] w fun e w' => e = .returned (.bool true) ∧ G w w' := by
  have hBf : fewO mo 549755813888 := fun m e => by obtain ⟨h1, h2, h3⟩ := hB m e; exact ⟨by omega, by omega, by omega⟩
  have HRD := hide (fun W (hW : SlP W FP pv mo) => uP_sectors FP mo pv W hW)
  have HRR := hide (fun W (hW : SlR W FR rv mo) => uR_sectors FR mo rv W hW)
  generalize scN mo = sn at HRD HRR
  clear hBf
  have HS0 := hide h
  have hs2 := h.s2
  have HO1 := hide (Blk.new w [I 3, I who, I n, dv, kv] 39)
  have HG1 := hide ((G.refl w).alloc (.cells #[I 3, I who, I n, dv, kv] 39))
  have HB := hide hB
  have hsI : (s : Int) < 2 := by omega
  have hsw : IntKind.i64.wrap (s : Int) = s := by rw [IntKind.wrap_i64]; omega
  have HNP : Hid (¬ FP t) := fun e => (HS0.out.d2 t (.inl e)).1 rfl
  have HNR : Hid (¬ FR t) := fun e => (HS0.out.d2 t (.inr e)).1 rfl
  have HOP : Hid (¬ FP w.heap.size) := fun e => by have := (HS0.out.d2 _ (.inl e)).2; omega
  have HOR : Hid (¬ FR w.heap.size) := fun e => by have := (HS0.out.d2 _ (.inr e)).2; omega
  have HDIS : Hid (∀ k, FR k → ¬ FP k) := fun k hr hp => HS0.out.d1 k hp hr
  clear h hB
  go_enter Try.func49, Try.ntmps49
  go_wp2_with fail
  generalize w.alloc (.cells #[I 3, I who, I n, dv, kv] 39) = w1 at HO1 HG1 ⊢
  have HS1 := hide (HS0.out.G HG1.out)
  have HH1 := hide (HS1.out.hd HO1.out)
  refine wp_region_noPanic ?_
  refine wp_region_held_drew (S := (fun W => Hd W t s w.heap.size pv rv [I 3, I who, I n, dv, kv])) (by kernel_rfl) (HH1.out.G (G.drew (G.refl w1)) (by simp)) (fun hHeld => ?_)
  refine wpAnyH_take (i := 0) (v := ?_) rfl (by kernel_rfl) (by kernel_rfl) (by kernel_rfl) (fun _ _ _ h => h) (Or.inl ⟨by rfl, ?_⟩) hHeld ?_
  rotate_left 1
  · (intro w hSw; (try dsimp only at hSw); go_simp; try with_reducible rfl)
  try simp only [Act.put, List.getElem_toArray, List.getElem_cons_zero, List.setIfInBounds_toArray, List.set_cons_zero, List.set_cons_succ]
  refine wpAnyH_take (i := 1) (v := ?_) rfl (by kernel_rfl) (by kernel_rfl) (by kernel_rfl) (fun _ _ _ h => h) (Or.inl ⟨by rfl, ?_⟩) hHeld ?_
  rotate_left 1
  · (intro w hSw; (try dsimp only at hSw); go_simp; try with_reducible rfl)
  try simp only [Act.put, List.getElem_toArray, List.getElem_cons_zero, List.getElem_cons_succ, List.setIfInBounds_toArray, List.set_cons_zero, List.set_cons_succ]
  refine wpAnyH_take (i := 2) (v := ?_) rfl (by kernel_rfl) (by kernel_rfl) (by kernel_rfl) (fun _ _ _ h => h) (Or.inl ⟨by rfl, ?_⟩) hHeld ?_
  rotate_left 1
  · (intro w hSw; (try dsimp only at hSw); go_simp; try with_reducible rfl)
  try simp only [Act.put, List.getElem_toArray, List.getElem_cons_zero, List.getElem_cons_succ, List.setIfInBounds_toArray, List.set_cons_zero, List.set_cons_succ]
  refine wpAnyH_take (i := 3) (v := ?_) rfl (by kernel_rfl) (by kernel_rfl) (by kernel_rfl) (fun _ _ _ h => h) (Or.inl ⟨by rfl, ?_⟩) hHeld ?_
  rotate_left 1
  · (intro w hSw; (try dsimp only at hSw); go_simp; try with_reducible rfl)
  try simp only [Act.put, List.getElem_toArray, List.getElem_cons_zero, List.getElem_cons_succ, List.setIfInBounds_toArray, List.set_cons_zero, List.set_cons_succ]
  refine wpAnyH_take (i := 4) (v := ?_) rfl (by kernel_rfl) (by kernel_rfl) (by kernel_rfl) (fun _ _ _ h => h) (Or.inl ⟨by rfl, ?_⟩) hHeld ?_
  rotate_left 1
  · (intro w hSw; (try dsimp only at hSw); go_simp; try with_reducible rfl)
  try simp only [Act.put, List.getElem_toArray, List.getElem_cons_zero, List.getElem_cons_succ, List.setIfInBounds_toArray, List.set_cons_zero, List.set_cons_succ]
  refine wpAnyH_take (i := 5) (v := ?_) rfl (by kernel_rfl) (by kernel_rfl) (by kernel_rfl) (fun _ _ _ h => h) (Or.inl ⟨by rfl, ?_⟩) hHeld ?_
  rotate_left 1
  · (intro w hSw; obtain ⟨q1, q2, q3⟩ := hSw; go_simp; try with_reducible rfl)
  try simp only [Act.put, List.getElem_toArray, List.getElem_cons_zero, List.getElem_cons_succ, List.setIfInBounds_toArray, List.set_cons_zero, List.set_cons_succ]
  refine wpAnyH_take (i := 7) (v := ?_) rfl (by kernel_rfl) (by kernel_rfl) (by kernel_rfl) (fun _ _ _ h => h) (Or.inl ⟨by rfl, ?_⟩) hHeld ?_
  rotate_left 1
  · (intro w hSw; (try dsimp only at hSw); go_simp; try with_reducible rfl)
  try simp only [Act.put, List.getElem_toArray, List.getElem_cons_zero, List.getElem_cons_succ, List.setIfInBounds_toArray, List.set_cons_zero, List.set_cons_succ]
  refine wpAnyH_take (i := 8) (v := ?_) rfl (by kernel_rfl) (by kernel_rfl) (by kernel_rfl) (fun _ _ _ h => h) (Or.inl ⟨by rfl, ?_⟩) hHeld ?_
  rotate_left 1
  · (intro w hSw; (try dsimp only at hSw); go_simp; try with_reducible rfl)
  try simp only [Act.put, List.getElem_toArray, List.getElem_cons_zero, List.getElem_cons_succ, List.setIfInBounds_toArray, List.set_cons_zero, List.set_cons_succ]
  refine wpAnyH_take (i := 9) (v := ?_) rfl (by kernel_rfl) (by kernel_rfl) (by kernel_rfl) (fun _ _ _ h => h) (Or.inl ⟨by rfl, ?_⟩) hHeld ?_
  rotate_left 1
  · (intro w hSw; (try dsimp only at hSw); go_simp; try with_reducible rfl)
  try simp only [Act.put, List.getElem_toArray, List.getElem_cons_zero, List.getElem_cons_succ, List.setIfInBounds_toArray, List.set_cons_zero, List.set_cons_succ]
  refine wpAnyH_take (i := 10) (v := ?_) rfl (by kernel_rfl) (by kernel_rfl) (by kernel_rfl) (fun _ _ _ h => h) (Or.inl ⟨by rfl, ?_⟩) hHeld ?_
  rotate_left 1
  · (intro w hSw; (try dsimp only at hSw); go_simp; try with_reducible rfl)
  try simp only [Act.put, List.getElem_toArray, List.getElem_cons_zero, List.getElem_cons_succ, List.setIfInBounds_toArray, List.set_cons_zero, List.set_cons_succ]
  refine wpAnyH_take (i := 11) (v := ?_) rfl (by kernel_rfl) (by kernel_rfl) (by kernel_rfl) (fun _ _ _ h => h) (Or.inl ⟨by rfl, ?_⟩) hHeld ?_
  rotate_left 1
  · (intro w hSw; (try dsimp only at hSw); go_simp; try with_reducible rfl)
  try simp only [Act.put, List.getElem_toArray, List.getElem_cons_zero, List.getElem_cons_succ, List.setIfInBounds_toArray, List.set_cons_zero, List.set_cons_succ]
  refine wpAnyH_take (i := 12) (v := ?_) rfl (by kernel_rfl) (by kernel_rfl) (by kernel_rfl) (fun _ _ _ h => h) (Or.inl ⟨by rfl, ?_⟩) hHeld ?_
  rotate_left 1
  · (intro w hSw; obtain ⟨q1, q2, q3⟩ := hSw; go_simp; try with_reducible rfl)
  try simp only [Act.put, List.getElem_toArray, List.getElem_cons_zero, List.getElem_cons_succ, List.setIfInBounds_toArray, List.set_cons_zero, List.set_cons_succ]
  refine wpAnyH_ready (rs := [6]) (by kernel_rfl) (by simp) (AllReadyH.cons rfl (fun K hK => ?_) AllReadyH.nil)
  clear hHeld
  go_simp
  with_reducible refine (HRD.out _ ?_).mono ?_
  exact HS1.out.sp.G (G.drew (G.refl w1))
  rintro e' w2 ⟨rfl, rfl⟩
  go_wp2_with fail
  refine hK.out _ _ (HH1.out.G (G.drew (G.refl w1)) (by simp)) (fun hHeld => ?_)
  clear hK K
  try simp only [Act.put, List.getElem_toArray, List.getElem_cons_zero, List.getElem_cons_succ, List.setIfInBounds_toArray, List.set_cons_zero, List.set_cons_succ]
  refine wpAnyH_ready (rs := [13]) (by kernel_rfl) (by simp) (AllReadyH.cons rfl (fun K hK => ?_) AllReadyH.nil)
  clear hHeld
  go_simp
  with_reducible refine (HRR.out _ ?_).mono ?_
  exact HS1.out.sr.G (G.drew (G.refl w1))
  rintro e' w3 ⟨rfl, rfl⟩
  go_wp2_with fail
  refine hK.out _ _ (HH1.out.G (G.drew (G.refl w1)) (by simp)) (fun hHeld => ?_)
  clear hK K
  try simp only [Act.put, List.getElem_toArray, List.getElem_cons_zero, List.getElem_cons_succ, List.setIfInBounds_toArray, List.set_cons_zero, List.set_cons_succ]
  refine wpAnyH_take (i := 14) (v := ?_) rfl (by kernel_rfl) (by kernel_rfl) (by kernel_rfl) (fun _ _ _ h => h) (Or.inl ⟨by rfl, ?_⟩) hHeld ?_
  rotate_left 1
  · (intro w hSw; (try dsimp only at hSw); go_simp; try with_reducible rfl)
  try simp only [Act.put, List.getElem_toArray, List.getElem_cons_zero, List.getElem_cons_succ, List.setIfInBounds_toArray, List.set_cons_zero, List.set_cons_succ]
  refine wpAnyH_take (i := 15) (v := ?_) rfl (by kernel_rfl) (by kernel_rfl) (by kernel_rfl) (fun _ _ _ h => h) (Or.inl ⟨by rfl, ?_⟩) hHeld ?_
  rotate_left 1
  · (intro w hSw; (try dsimp only at hSw); go_simp; try with_reducible rfl)
  try simp only [Act.put, List.getElem_toArray, List.getElem_cons_zero, List.getElem_cons_succ, List.setIfInBounds_toArray, List.set_cons_zero, List.set_cons_succ]
  refine wpAnyH_done (by kernel_rfl) ?_ _
  refine NoPanic.normal ?_
  go_wp2
  go_ret
  exact ⟨rfl, HG1.out.trans (G.drew (G.refl w1))⟩
end Go.Proofs.Ytbjbphhcmmaaoaa
