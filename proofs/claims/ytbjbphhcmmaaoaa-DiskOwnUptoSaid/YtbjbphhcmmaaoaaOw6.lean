/- lends: Write and Load with these very bytes. -/
import Derived.Test.YtbjbphhcmmaaoaaOw5
namespace Go.Proofs.Ytbjbphhcmmaaoaa
open Go.RowKit

set_option maxRecDepth 100000 in
set_option maxHeartbeats 4000000 in
theorem loads_any (v : Value) (xs : List Nat) (hl : xs.length ≤ 1073741824) (hxb : ∀ x ∈ xs, x < 256) (w : World) (hb : Bytes w v xs) : Calls Try.prog 54 #[v] w (Made SlP w (ldM xs) (ldC xs)) := by
  have HL := hide (uP_load v xs hl hxb w hb)
  clear hb
  go_enter Try.func54, Try.ntmps54
  go_wp2_with fail
  refine HL.out.mono ?_
  rintro e w' ⟨q, rfl, h1, h2, h3⟩
  go_wp2
  go_ret2
  exact ⟨q, rfl, h1, h2, h3⟩
set_option maxRecDepth 100000 in
set_option maxHeartbeats 4000000 in
theorem lends_write (who n : Int) (dv pl kv : Value) (t s : Nat) (cs : List Value) (pv rv : Value) (FP FR : Nat → Prop) (mo : Option DM) (B : Nat) (hw : bits BinOp.and IntKind.i64 who 1 = (s : Int)) (hBB : B ≤ 549755813888) (xs : List Nat) (hxb : ∀ x ∈ xs, x < 256) (_hxl : xs.length ≤ 1073741824) (w : World) (hdb : Bytes w dv xs) (hpb : Bytes w pl xs) (hdF : ∀ j, Value.blk dv j → ¬ FP j) (hpF : ∀ j, Value.blk pl j → ¬ FP j ∧ ¬ FR j) (hB : fewO mo B) (h : SS w t s cs pv rv FP FR mo) : Calls Try.prog 41 #[.pointer (some ⟨t, 0, none⟩), .agg #[I 5, I who, I n, dv, kv], pl] w fun e w' => e = .returned (.bool true) ∧ StepA w t s cs FP FR B w' := by
  have hBf : fewO mo 549755813888 := fun m e => by obtain ⟨h1, h2, h3⟩ := hB m e; exact ⟨by omega, by omega, by omega⟩
  have HRD := hide (fun W (hW : SlP W FP pv mo) (hb : Bytes W dv xs) => uP_write FP mo pv dv n xs hxb hBf W hW hb hdF)
  have HPF := hide hpF
  have HRR := hide (fun W (hW : SlR W FR rv mo) (hb : Bytes W pl xs) => uR_write FR mo rv pl n xs hxb hBf W hW hb (fun j hj => (HPF.out j hj).2))
  have HDB := hide hdb
  have HPB := hide hpb
  clear hBf hdb hdF hpb hpF
  have HS0 := hide h
  have hs2 := h.s2
  have HO1 := hide (Blk.new w [I 5, I who, I n, dv, kv] 39)
  have HG1 := hide ((G.refl w).alloc (.cells #[I 5, I who, I n, dv, kv] 39))
  have HB := hide hB
  have hsI : (s : Int) < 2 := by omega
  have hsw : IntKind.i64.wrap (s : Int) = s := by rw [IntKind.wrap_i64]; omega
  have HNP : Hid (¬ FP t) := fun e => (HS0.out.d2 t (.inl e)).1 rfl
  have HNR : Hid (¬ FR t) := fun e => (HS0.out.d2 t (.inr e)).1 rfl
  have HOP : Hid (¬ FP w.heap.size) := fun e => by have := (HS0.out.d2 _ (.inl e)).2; omega
  have HOR : Hid (¬ FR w.heap.size) := fun e => by have := (HS0.out.d2 _ (.inr e)).2; omega
  have HDIS : Hid (∀ k, FR k → ¬ FP k) := fun k hr hp => HS0.out.d1 k hp hr
  clear h hB
  go_enter Try.func41, Try.ntmps41
  go_wp2_with fail
  generalize w.alloc (.cells #[I 5, I who, I n, dv, kv] 39) = w1 at HO1 HG1 ⊢
  have HS1 := hide (HS0.out.G HG1.out)
  have HH1 := hide (HS1.out.hd HO1.out)
  refine wp_region_noPanic ?_
  refine wp_region_held_drew (S := (fun W => Hd W t s w.heap.size pv rv [I 5, I who, I n, dv, kv])) (by kernel_rfl) (HH1.out.G (G.drew (G.refl _)) (by simp)) (fun hHeld => ?_)
  refine wpAnyH_take (i := 0) (v := ?_) rfl (by kernel_rfl) (by kernel_rfl) (by kernel_rfl) (fun _ _ _ h => h) (Or.inl ⟨by rfl, ?_⟩) hHeld ?_
  rotate_left 1
  · (intro w hSw; (try dsimp only at hSw); go_simp; try with_reducible rfl)
  try simp only [Act.put, List.getElem_toArray, List.getElem_cons_zero, List.setIfInBounds_toArray, List.set_cons_zero, List.set_cons_succ]
  refine wpAnyH_take (i := 1) (v := ?_) rfl (by kernel_rfl) (by kernel_rfl) (by kernel_rfl) (fun _ _ _ h => h) (Or.inl ⟨by rfl, ?_⟩) hHeld ?_
  rotate_left 1
  · (intro w hSw; (try dsimp only at hSw); go_simp; try with_reducible rfl)
  try simp only [Act.put, List.getElem_toArray, List.getElem_cons_zero, List.getElem_cons_succ, List.setIfInBounds_toArray, List.set_cons_zero, List.set_cons_succ]
  refine wpAnyH_take (i := 2) (v := ?_) rfl (by kernel_rfl) (by kernel_rfl) (by kernel_rfl) (fun _ _ _ h => h) (Or.inl ⟨by rfl, ?_⟩) hHeld ?_
  rotate_left 1
  · (intro w hSw; (try dsimp only at hSw); go_simp; try with_reducible rfl)
  try simp only [Act.put, List.getElem_toArray, List.getElem_cons_zero, List.getElem_cons_succ, List.setIfInBounds_toArray, List.set_cons_zero, List.set_cons_succ]
  refine wpAnyH_take (i := 3) (v := ?_) rfl (by kernel_rfl) (by kernel_rfl) (by kernel_rfl) (fun _ _ _ h => h) (Or.inl ⟨by rfl, ?_⟩) hHeld ?_
  rotate_left 1
  · (intro w hSw; (try dsimp only at hSw); go_simp; try with_reducible rfl)
  try simp only [Act.put, List.getElem_toArray, List.getElem_cons_zero, List.getElem_cons_succ, List.setIfInBounds_toArray, List.set_cons_zero, List.set_cons_succ]
  refine wpAnyH_take (i := 4) (v := ?_) rfl (by kernel_rfl) (by kernel_rfl) (by kernel_rfl) (fun _ _ _ h => h) (Or.inl ⟨by rfl, ?_⟩) hHeld ?_
  rotate_left 1
  · (intro w hSw; (try dsimp only at hSw); go_simp; try with_reducible rfl)
  try simp only [Act.put, List.getElem_toArray, List.getElem_cons_zero, List.getElem_cons_succ, List.setIfInBounds_toArray, List.set_cons_zero, List.set_cons_succ]
  refine wpAnyH_take (i := 5) (v := ?_) rfl (by kernel_rfl) (by kernel_rfl) (by kernel_rfl) (fun _ _ _ h => h) (Or.inl ⟨by rfl, ?_⟩) hHeld ?_
  rotate_left 1
  · (intro w hSw; obtain ⟨q1, q2, q3⟩ := hSw; go_simp; try with_reducible rfl)
  try simp only [Act.put, List.getElem_toArray, List.getElem_cons_zero, List.getElem_cons_succ, List.setIfInBounds_toArray, List.set_cons_zero, List.set_cons_succ]
  refine wpAnyH_take (i := 6) (v := ?_) rfl (by kernel_rfl) (by kernel_rfl) (by kernel_rfl) (fun _ _ _ h => h) (Or.inl ⟨by rfl, ?_⟩) hHeld ?_
  rotate_left 1
  · (intro w hSw; (try dsimp only at hSw); go_simp; try with_reducible rfl)
  try simp only [Act.put, List.getElem_toArray, List.getElem_cons_zero, List.getElem_cons_succ, List.setIfInBounds_toArray, List.set_cons_zero, List.set_cons_succ]
  refine wpAnyH_take (i := 7) (v := ?_) rfl (by kernel_rfl) (by kernel_rfl) (by kernel_rfl) (fun _ _ _ h => h) (Or.inl ⟨by rfl, ?_⟩) hHeld ?_
  rotate_left 1
  · (intro w hSw; obtain ⟨q1, q2, q3⟩ := hSw; go_simp; try with_reducible rfl)
  try simp only [Act.put, List.getElem_toArray, List.getElem_cons_zero, List.getElem_cons_succ, List.setIfInBounds_toArray, List.set_cons_zero, List.set_cons_succ]
  refine wpAnyH_take (i := 8) (v := ?_) rfl (by kernel_rfl) (by kernel_rfl) (by kernel_rfl) (fun _ _ _ h => h) (Or.inl ⟨by rfl, ?_⟩) hHeld ?_
  rotate_left 1
  · (intro w hSw; (try dsimp only at hSw); go_simp; try with_reducible rfl)
  try simp only [Act.put, List.getElem_toArray, List.getElem_cons_zero, List.getElem_cons_succ, List.setIfInBounds_toArray, List.set_cons_zero, List.set_cons_succ]
  refine wpAnyH_take (i := 9) (v := ?_) rfl (by kernel_rfl) (by kernel_rfl) (by kernel_rfl) (fun _ _ _ h => h) (Or.inl ⟨by rfl, ?_⟩) hHeld ?_
  rotate_left 1
  · (intro w hSw; obtain ⟨q1, q2, q3⟩ := hSw; go_simp; try with_reducible rfl)
  try simp only [Act.put, List.getElem_toArray, List.getElem_cons_zero, List.getElem_cons_succ, List.setIfInBounds_toArray, List.set_cons_zero, List.set_cons_succ]
  refine wpAnyH_ready (rs := [10]) (by kernel_rfl) (by simp) (AllReadyH.cons rfl (fun K hK => ?_) AllReadyH.nil)
  clear hHeld
  go_simp
  with_reducible refine (HRD.out _ ?_ ?_).mono ?_
  exact HS1.out.sp.G (G.drew (G.refl _))
  exact HDB.out.G (HG1.out.trans (G.drew (G.refl _)))
  rintro e' w3 ⟨rfl, hsl, hch⟩
  have HLw3 := hide hsl
  have HCw3 := hide (Chg.trans (G.drew (G.refl _)).chg hch)
  clear hsl hch
  go_wp2_with fail
  refine hK.out _ _ (HH1.out.chg HCw3.out (by simp) HNP.out HOP.out) (fun hHeld => ?_)
  clear hK K
  try simp only [Act.put, List.getElem_toArray, List.getElem_cons_zero, List.getElem_cons_succ, List.setIfInBounds_toArray, List.set_cons_zero, List.set_cons_succ]
  refine wpAnyH_take (i := 11) (v := ?_) rfl (by kernel_rfl) (by kernel_rfl) (by kernel_rfl) (fun _ _ _ h => h) (Or.inl ⟨by rfl, ?_⟩) hHeld ?_
  rotate_left 1
  · (intro w hSw; (try dsimp only at hSw); go_simp; try with_reducible rfl)
  try simp only [Act.put, List.getElem_toArray, List.getElem_cons_zero, List.getElem_cons_succ, List.setIfInBounds_toArray, List.set_cons_zero, List.set_cons_succ]
  refine wpAnyH_done (by kernel_rfl) ?_ _
  refine NoPanic.normal ?_
  go_wp2_with fail
  refine wp_region_noPanic ?_
  refine wp_region_held_drew (S := (fun W => Hd W t s w.heap.size pv rv [I 5, I who, I n, dv, kv])) (by kernel_rfl) ((HH1.out.chg HCw3.out (by simp) HNP.out HOP.out).G (G.drew (G.refl _)) (by simp)) (fun hHeld => ?_)
  refine wpAnyH_take (i := 0) (v := ?_) rfl (by kernel_rfl) (by kernel_rfl) (by kernel_rfl) (fun _ _ _ h => h) (Or.inl ⟨by rfl, ?_⟩) hHeld ?_
  rotate_left 1
  · (intro w hSw; (try dsimp only at hSw); go_simp; try with_reducible rfl)
  try simp only [Act.put, List.getElem_toArray, List.getElem_cons_zero, List.setIfInBounds_toArray, List.set_cons_zero, List.set_cons_succ]
  refine wpAnyH_take (i := 1) (v := ?_) rfl (by kernel_rfl) (by kernel_rfl) (by kernel_rfl) (fun _ _ _ h => h) (Or.inl ⟨by rfl, ?_⟩) hHeld ?_
  rotate_left 1
  · (intro w hSw; (try dsimp only at hSw); go_simp; try with_reducible rfl)
  try simp only [Act.put, List.getElem_toArray, List.getElem_cons_zero, List.getElem_cons_succ, List.setIfInBounds_toArray, List.set_cons_zero, List.set_cons_succ]
  refine wpAnyH_take (i := 2) (v := ?_) rfl (by kernel_rfl) (by kernel_rfl) (by kernel_rfl) (fun _ _ _ h => h) (Or.inl ⟨by rfl, ?_⟩) hHeld ?_
  rotate_left 1
  · (intro w hSw; (try dsimp only at hSw); go_simp; try with_reducible rfl)
  try simp only [Act.put, List.getElem_toArray, List.getElem_cons_zero, List.getElem_cons_succ, List.setIfInBounds_toArray, List.set_cons_zero, List.set_cons_succ]
  refine wpAnyH_take (i := 3) (v := ?_) rfl (by kernel_rfl) (by kernel_rfl) (by kernel_rfl) (fun _ _ _ h => h) (Or.inl ⟨by rfl, ?_⟩) hHeld ?_
  rotate_left 1
  · (intro w hSw; (try dsimp only at hSw); go_simp; try with_reducible rfl)
  try simp only [Act.put, List.getElem_toArray, List.getElem_cons_zero, List.getElem_cons_succ, List.setIfInBounds_toArray, List.set_cons_zero, List.set_cons_succ]
  refine wpAnyH_take (i := 4) (v := ?_) rfl (by kernel_rfl) (by kernel_rfl) (by kernel_rfl) (fun _ _ _ h => h) (Or.inl ⟨by rfl, ?_⟩) hHeld ?_
  rotate_left 1
  · (intro w hSw; (try dsimp only at hSw); go_simp; try with_reducible rfl)
  try simp only [Act.put, List.getElem_toArray, List.getElem_cons_zero, List.getElem_cons_succ, List.setIfInBounds_toArray, List.set_cons_zero, List.set_cons_succ]
  refine wpAnyH_take (i := 5) (v := ?_) rfl (by kernel_rfl) (by kernel_rfl) (by kernel_rfl) (fun _ _ _ h => h) (Or.inl ⟨by rfl, ?_⟩) hHeld ?_
  rotate_left 1
  · (intro w hSw; obtain ⟨q1, q2, q3⟩ := hSw; go_simp; try with_reducible rfl)
  try simp only [Act.put, List.getElem_toArray, List.getElem_cons_zero, List.getElem_cons_succ, List.setIfInBounds_toArray, List.set_cons_zero, List.set_cons_succ]
  refine wpAnyH_take (i := 6) (v := ?_) rfl (by kernel_rfl) (by kernel_rfl) (by kernel_rfl) (fun _ _ _ h => h) (Or.inl ⟨by rfl, ?_⟩) hHeld ?_
  rotate_left 1
  · (intro w hSw; (try dsimp only at hSw); go_simp; try with_reducible rfl)
  try simp only [Act.put, List.getElem_toArray, List.getElem_cons_zero, List.getElem_cons_succ, List.setIfInBounds_toArray, List.set_cons_zero, List.set_cons_succ]
  refine wpAnyH_take (i := 7) (v := ?_) rfl (by kernel_rfl) (by kernel_rfl) (by kernel_rfl) (fun _ _ _ h => h) (Or.inl ⟨by rfl, ?_⟩) hHeld ?_
  rotate_left 1
  · (intro w hSw; obtain ⟨q1, q2, q3⟩ := hSw; go_simp; try with_reducible rfl)
  try simp only [Act.put, List.getElem_toArray, List.getElem_cons_zero, List.getElem_cons_succ, List.setIfInBounds_toArray, List.set_cons_zero, List.set_cons_succ]
  refine wpAnyH_take (i := 8) (v := ?_) rfl (by kernel_rfl) (by kernel_rfl) (by kernel_rfl) (fun _ _ _ h => h) (Or.inl ⟨by rfl, ?_⟩) hHeld ?_
  rotate_left 1
  · (intro w hSw; (try dsimp only at hSw); go_simp; try with_reducible rfl)
  try simp only [Act.put, List.getElem_toArray, List.getElem_cons_zero, List.getElem_cons_succ, List.setIfInBounds_toArray, List.set_cons_zero, List.set_cons_succ]
  refine wpAnyH_ready (rs := [9]) (by kernel_rfl) (by simp) (AllReadyH.cons rfl (fun K hK => ?_) AllReadyH.nil)
  clear hHeld
  go_simp
  with_reducible refine (HRR.out _ ?_ ?_).mono ?_
  exact (HS1.out.sr.chg HCw3.out HDIS.out).G (G.drew (G.refl _))
  exact ((HPB.out.G HG1.out).chg HCw3.out (fun j hj => (HPF.out j hj).1)).G (G.drew (G.refl _))
  rintro e' w4 ⟨rfl, hsl, hch⟩
  have HLw4 := hide hsl
  have HCw4 := hide (Chg.trans (G.drew (G.refl _)).chg hch)
  clear hsl hch
  go_wp2_with fail
  refine hK.out _ _ ((HH1.out.chg HCw3.out (by simp) HNP.out HOP.out).chg HCw4.out (by simp) HNR.out HOR.out) (fun hHeld => ?_)
  clear hK K
  try simp only [Act.put, List.getElem_toArray, List.getElem_cons_zero, List.getElem_cons_succ, List.setIfInBounds_toArray, List.set_cons_zero, List.set_cons_succ]
  refine wpAnyH_take (i := 10) (v := ?_) rfl (by kernel_rfl) (by kernel_rfl) (by kernel_rfl) (fun _ _ _ h => h) (Or.inl ⟨by rfl, ?_⟩) hHeld ?_
  rotate_left 1
  · (intro w hSw; (try dsimp only at hSw); go_simp; try with_reducible rfl)
  try simp only [Act.put, List.getElem_toArray, List.getElem_cons_zero, List.getElem_cons_succ, List.setIfInBounds_toArray, List.set_cons_zero, List.set_cons_succ]
  refine wpAnyH_done (by kernel_rfl) ?_ _
  refine NoPanic.normal ?_
  go_wp2
  go_ret
  exact ⟨rfl, (HS1.out.both HCw3.out HLw3.out HCw4.out HLw4.out (fun k hk => hk) (fun k hk => hk.imp id (fun x => x)) (few_wr HB.out n xs)).back HG1.out⟩
set_option maxRecDepth 100000 in
set_option maxHeartbeats 4000000 in
theorem lends_load (who n : Int) (dv pl kv : Value) (t s : Nat) (cs : List Value) (pv rv : Value) (FP FR : Nat → Prop) (mo : Option DM) (B : Nat) (hw : bits BinOp.and IntKind.i64 who 1 = (s : Int)) (hBB : B ≤ 549755813888) (xs : List Nat) (hxb : ∀ x ∈ xs, x < 256) (_hxl : xs.length ≤ 1073741824) (w : World) (hdb : Bytes w dv xs) (hpb : Bytes w pl xs) (hB : fewO mo B) (h : SS w t s cs pv rv FP FR mo) : Calls Try.prog 41 #[.pointer (some ⟨t, 0, none⟩), .agg #[I 2, I who, I n, dv, kv], pl] w fun e w' => e = .returned (.bool true) ∧ StepA w t s cs FP FR B w' := by
  have hBf : fewO mo 549755813888 := fun m e => by obtain ⟨h1, h2, h3⟩ := hB m e; exact ⟨by omega, by omega, by omega⟩
  have HN1 := hide (fun W (hW : Bytes W dv xs) => loads_any dv xs _hxl hxb W hW)
  have HN2 := hide (fun W (hW : Bytes W pl xs) => uR_load pl xs _hxl hxb W hW)
  have HFW := hide (few_ld xs B)
  have HDB := hide hdb
  have HPB := hide hpb
  clear hBf hdb hpb
  have HS0 := hide h
  have hs2 := h.s2
  have HO1 := hide (Blk.new w [I 2, I who, I n, dv, kv] 39)
  have HG1 := hide ((G.refl w).alloc (.cells #[I 2, I who, I n, dv, kv] 39))
  have hsI : (s : Int) < 2 := by omega
  have hsw : IntKind.i64.wrap (s : Int) = s := by rw [IntKind.wrap_i64]; omega
  clear h hB
  go_enter Try.func41, Try.ntmps41
  go_wp2_with fail
  have hco := HO1.out.cell
  generalize w.alloc (.cells #[I 2, I who, I n, dv, kv] 39) = w1 at HO1 HG1 hco ⊢
  have HS1 := hide (HS0.out.G HG1.out)
  refine (HN1.out _ (HDB.out.G HG1.out)).mono ?_
  rintro e' w2 ⟨q1, rfl, hg2, hp2, hq1⟩
  have HG2 := hide hg2
  have HP2 := hide hp2
  have HQ1' := hide hq1
  clear hg2 hp2 hq1 hco
  have hco := (HO1.out.G HG2.out).cell
  go_wp2_with fail
  refine (HN2.out _ ((HPB.out.G HG1.out).G HG2.out)).mono ?_
  rintro e' w3 ⟨q2, rfl, hg3, hp3, hq2⟩
  have HG3 := hide hg3
  have HP3 := hide hp3
  have HQ2' := hide hq2
  clear hg3 hp3 hq2 hco HN1 HN2
  have hct := (HS1.out.bt.G (HG2.out.trans HG3.out)).cell
  have hcf := (HS1.out.bt.G (HG2.out.trans HG3.out)).frozen
  have hx1 : ∃ y, cs[s]? = some y := ⟨_, HS0.out.cp⟩
  have hx2 : ∃ y, cs[2 + s]? = some y := ⟨_, HS0.out.cr⟩
  obtain ⟨y1, hy1⟩ := hx1
  obtain ⟨y2, hy2⟩ := hx2
  have hc1 : w3.cell? ⟨t, s, none⟩ = some y1 := (hct s).trans hy1
  have hc2 : w3.cell? ⟨t, 2 + s, none⟩ = some y2 := (hct (2 + s)).trans hy2
  have hst : ¬ (s = 2 + s) := by omega
  have hst2 : ¬ (2 + s = s) := by omega
  clear hct hy1 hy2
  go_wp2_with fail
  refine wp_region_noPanic ?_
  refine wp_region_held_drew (S := (fun _ => True)) (by kernel_rfl) (trivial) (fun hHeld => ?_)
  refine wpAnyH_take (i := 0) (v := ?_) rfl (by kernel_rfl) (by kernel_rfl) (by kernel_rfl) (fun _ _ _ h => h) (Or.inl ⟨by rfl, ?_⟩) hHeld ?_
  rotate_left 1
  · (intro w hSw; (try dsimp only at hSw); go_simp; try with_reducible rfl)
  try simp only [Act.put, List.getElem_toArray, List.getElem_cons_zero, List.setIfInBounds_toArray, List.set_cons_zero, List.set_cons_succ]
  refine wpAnyH_take (i := 1) (v := ?_) rfl (by kernel_rfl) (by kernel_rfl) (by kernel_rfl) (fun _ _ _ h => h) (Or.inl ⟨by rfl, ?_⟩) hHeld ?_
  rotate_left 1
  · (intro w hSw; (try dsimp only at hSw); go_simp; try with_reducible rfl)
  try simp only [Act.put, List.getElem_toArray, List.getElem_cons_zero, List.getElem_cons_succ, List.setIfInBounds_toArray, List.set_cons_zero, List.set_cons_succ]
  refine wpAnyH_take (i := 2) (v := ?_) rfl (by kernel_rfl) (by kernel_rfl) (by kernel_rfl) (fun _ _ _ h => h) (Or.inl ⟨by rfl, ?_⟩) hHeld ?_
  rotate_left 1
  · (intro w hSw; (try dsimp only at hSw); go_simp; try with_reducible rfl)
  try simp only [Act.put, List.getElem_toArray, List.getElem_cons_zero, List.getElem_cons_succ, List.setIfInBounds_toArray, List.set_cons_zero, List.set_cons_succ]
  refine wpAnyH_take (i := 3) (v := ?_) rfl (by kernel_rfl) (by kernel_rfl) (by kernel_rfl) (fun _ _ _ h => h) (Or.inl ⟨by rfl, ?_⟩) hHeld ?_
  rotate_left 1
  · (intro w hSw; (try dsimp only at hSw); go_simp; try with_reducible rfl)
  try simp only [Act.put, List.getElem_toArray, List.getElem_cons_zero, List.getElem_cons_succ, List.setIfInBounds_toArray, List.set_cons_zero, List.set_cons_succ]
  refine wpAnyH_take (i := 4) (v := ?_) rfl (by kernel_rfl) (by kernel_rfl) (by kernel_rfl) (fun _ _ _ h => h) (Or.inl ⟨by rfl, ?_⟩) hHeld ?_
  rotate_left 1
  · (intro w hSw; (try dsimp only at hSw); go_simp; try with_reducible rfl)
  try simp only [Act.put, List.getElem_toArray, List.getElem_cons_zero, List.getElem_cons_succ, List.setIfInBounds_toArray, List.set_cons_zero, List.set_cons_succ]
  refine wpAnyH_take (i := 5) (v := ?_) rfl (by kernel_rfl) (by kernel_rfl) (by kernel_rfl) (fun _ _ _ h => h) (Or.inl ⟨by rfl, ?_⟩) hHeld ?_
  rotate_left 1
  · (intro w hSw; (try dsimp only at hSw); go_simp; try with_reducible rfl)
  try simp only [Act.put, List.getElem_toArray, List.getElem_cons_zero, List.getElem_cons_succ, List.setIfInBounds_toArray, List.set_cons_zero, List.set_cons_succ]
  refine wpAnyH_take (i := 6) (v := ?_) rfl (by kernel_rfl) (by kernel_rfl) (by kernel_rfl) (fun _ _ _ h => h) (Or.inl ⟨by rfl, ?_⟩) hHeld ?_
  rotate_left 1
  · (intro w hSw; (try dsimp only at hSw); go_simp; try with_reducible rfl)
  try simp only [Act.put, List.getElem_toArray, List.getElem_cons_zero, List.getElem_cons_succ, List.setIfInBounds_toArray, List.set_cons_zero, List.set_cons_succ]
  refine wpAnyH_take (i := 7) (v := ?_) rfl (by kernel_rfl) (by kernel_rfl) (by kernel_rfl) (fun _ _ _ h => h) (Or.inl ⟨by rfl, ?_⟩) hHeld ?_
  rotate_left 1
  · (intro w hSw; (try dsimp only at hSw); go_simp; try with_reducible rfl)
  try simp only [Act.put, List.getElem_toArray, List.getElem_cons_zero, List.getElem_cons_succ, List.setIfInBounds_toArray, List.set_cons_zero, List.set_cons_succ]
  refine wpAnyH_take (i := 8) (v := ?_) rfl (by kernel_rfl) (by kernel_rfl) (by kernel_rfl) (fun _ _ _ h => h) (Or.inl ⟨by rfl, ?_⟩) hHeld ?_
  rotate_left 1
  · (intro w hSw; (try dsimp only at hSw); go_simp; try with_reducible rfl)
  try simp only [Act.put, List.getElem_toArray, List.getElem_cons_zero, List.getElem_cons_succ, List.setIfInBounds_toArray, List.set_cons_zero, List.set_cons_succ]
  refine wpAnyH_take (i := 10) (v := ?_) rfl (by kernel_rfl) (by kernel_rfl) (by kernel_rfl) (fun _ _ _ h => h) (Or.inl ⟨by rfl, ?_⟩) hHeld ?_
  rotate_left 1
  · (intro w hSw; (try dsimp only at hSw); go_simp; try with_reducible rfl)
  try simp only [Act.put, List.getElem_toArray, List.getElem_cons_zero, List.getElem_cons_succ, List.setIfInBounds_toArray, List.set_cons_zero, List.set_cons_succ]
  refine wpAnyH_take (i := 11) (v := ?_) rfl (by kernel_rfl) (by kernel_rfl) (by kernel_rfl) (fun _ _ _ h => h) (Or.inl ⟨by rfl, ?_⟩) hHeld ?_
  rotate_left 1
  · (intro w hSw; (try dsimp only at hSw); go_simp; try with_reducible rfl)
  try simp only [Act.put, List.getElem_toArray, List.getElem_cons_zero, List.getElem_cons_succ, List.setIfInBounds_toArray, List.set_cons_zero, List.set_cons_succ]
  refine wpAnyH_ready (rs := [9]) (by kernel_rfl) (by simp) (AllReadyH.cons rfl (fun K hK => ?_) AllReadyH.nil)
  clear hHeld
  go_simp
  refine hK.out _ _ (trivial) (fun hHeld => ?_)
  clear hK K
  try simp only [Act.put, List.getElem_toArray, List.getElem_cons_zero, List.getElem_cons_succ]
  refine wpAnyH_take (i := 12) (v := ?_) rfl (by kernel_rfl) (by kernel_rfl) (by kernel_rfl) (fun _ _ _ h => h) (Or.inl ⟨by rfl, ?_⟩) hHeld ?_
  rotate_left 1
  · (intro w hSw; (try dsimp only at hSw); go_simp; try with_reducible rfl)
  try simp only [Act.put, List.getElem_toArray, List.getElem_cons_zero, List.getElem_cons_succ, List.setIfInBounds_toArray, List.set_cons_zero, List.set_cons_succ]
  refine wpAnyH_ready (rs := [13]) (by kernel_rfl) (by simp) (AllReadyH.cons rfl (fun K hK => ?_) AllReadyH.nil)
  clear hHeld
  go_simp
  refine hK.out _ _ (trivial) (fun hHeld => ?_)
  clear hK K
  try simp only [Act.put, List.getElem_toArray, List.getElem_cons_zero, List.getElem_cons_succ]
  refine wpAnyH_done (by kernel_rfl) ?_ _
  refine NoPanic.normal ?_
  have HEND := hide (((HS1.out.made HG2.out HG3.out HP2.out HP3.out HFW.out).back HG1.out).on (G.drew (G.refl _)))
  generalize ((w3.setCell ⟨t, s, none⟩ (.pointer q1)).setCell ⟨t, 2 + s, none⟩ (.pointer q2)).drew = w4 at HEND ⊢
  have HQ1 := HQ1'.out
  have HQ2 := HQ2'.out
  generalize ldM xs = mo'' at HQ1 HQ2
  clear HP2 HP3 HQ1' HQ2' HFW hc1 hc2 hcf hst hst2
  cases mo'' with
  | none =>
    obtain rfl : q1 = none := by cases q1 with
      | none => rfl
      | some _ => simp at HQ1
    obtain rfl : q2 = none := by cases q2 with
      | none => rfl
      | some _ => simp at HQ2
    go_wp2
    go_ret
    exact ⟨rfl, HEND.out⟩
  | some m =>
    obtain ⟨a1, rfl⟩ : ∃ a, q1 = some a := Option.isSome_iff_exists.1 (by rw [HQ1]; rfl)
    obtain ⟨a2, rfl⟩ : ∃ a, q2 = some a := Option.isSome_iff_exists.1 (by rw [HQ2]; rfl)
    go_wp2
    go_ret
    exact ⟨rfl, HEND.out⟩
end Go.Proofs.Ytbjbphhcmmaaoaa
