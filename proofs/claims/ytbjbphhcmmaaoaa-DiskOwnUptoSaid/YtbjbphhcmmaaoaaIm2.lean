/- does. -/
import Derived.Test.YtbjbphhcmmaaoaaIm1
namespace Go.Proofs.Ytbjbphhcmmaaoaa
open Go.RowKit

theorem One.cells {w w1 w2 w3 : World} {q : Addr} {F : Nat → Prop} {m' : DM} {B : Nat} {t : TypeId} {L : List Value} (h : One w2 q F m' B w3) (hb : Blk w1 w.heap.size t L) (g : G w1 w2) (_ : G w w1) (hF : ∀ k, F k → k < w.heap.size) : ∀ j, w3.cell? ⟨w.heap.size, j, none⟩ = L[j]? := by
  obtain ⟨_, _, _, hc, _⟩ := h
  exact ((hb.G g).chg hc (fun e => Nat.lt_irrefl _ (hF _ e))).cell
set_option maxRecDepth 100000 in
set_option maxHeartbeats 4000000 in
theorem does_write (who n : Int) (dv kv : Value) (q : Addr) (F : Nat → Prop) (m : DM) (B : Nat) (hBB : B ≤ 549755813888) (hB : m.few B) (xs : List Nat) (hxb : ∀ x ∈ xs, x < 256) (hxl : xs.length ≤ 1073741824) (w : World) (hdb : Bytes w dv xs) (hdn : dv = .slice none 0 0 ∨ ∃ ad n c, dv = .slice (some ad) n c) (h : SlP w F (.pointer (some q)) (some m)) (hFl : ∀ k, F k → k < w.heap.size) : Calls Try.prog 10 #[.pointer (some q), .agg #[I 5, I who, I n, dv, kv]] w fun e w' => e = .returned (.tuple #[]) ∧ One w q F (m.write n xs).1 B w' := by
  have HS0 := hide h
  have HFL := hide hFl
  have HB := hide hB
  have HO1 := hide (Blk.new w [I 5, I who, I n, dv, kv] 39)
  have HG1 := hide ((G.refl w).alloc (.cells #[I 5, I who, I n, dv, kv] 39))
  clear h hB hFl
  have HDB := hide hdb
  have HDN := hide hdn
  have HXB := hide hxb
  have HXL := hide hxl
  clear hdb hdn hxb hxl
  go_enter Try.func10, Try.ntmps10
  go_wp2_with fail
  generalize w.alloc (.cells #[I 5, I who, I n, dv, kv] 39) = w1 at HO1 HG1 ⊢
  have HS1 := hide (HS0.out.G HG1.out)
  refine wp_region_noPanic ?_
  refine wp_region_held_drew (S := (fun W => ∀ j, W.cell? ⟨w.heap.size, j, none⟩ = ([I 5, I who, I n, dv, kv] : List Value)[j]?)) (by kernel_rfl) ((HO1.out.G (G.drew (G.refl _))).cell) (fun hHeld => ?_)
  refine wpAnyH_take (i := 0) (v := ?_) rfl (by kernel_rfl) (by kernel_rfl) (by kernel_rfl) (fun _ _ _ h => h) (Or.inl ⟨by rfl, ?_⟩) hHeld ?_
  rotate_left 1
  · (intro w hSw; (try dsimp only at hSw); go_simp; try with_reducible rfl)
  try simp only [Act.put, List.getElem_toArray, List.getElem_cons_zero, List.setIfInBounds_toArray, List.set_cons_zero, List.set_cons_succ]
  refine wpAnyH_take (i := 1) (v := ?_) rfl (by kernel_rfl) (by kernel_rfl) (by kernel_rfl) (fun _ _ _ h => h) (Or.inl ⟨by rfl, ?_⟩) hHeld ?_
  rotate_left 1
  · (intro w hSw; (try dsimp only at hSw); go_simp; try with_reducible rfl)
  try simp only [Act.put, List.getElem_toArray, List.getElem_cons_zero, List.getElem_cons_succ, List.setIfInBounds_toArray, List.set_cons_zero, List.set_cons_succ]
  refine wpAnyH_take (i := 2) (v := ?_) rfl (by kernel_rfl) (by kernel_rfl) (by kernel_rfl) (fun _ _ _ h => h) (Or.inl ⟨by rfl, ?_⟩) hHeld ?_
  rotate_left 1
  · (intro w hSw; have q3 := hSw; go_simp; try with_reducible rfl)
  try simp only [Act.put, List.getElem_toArray, List.getElem_cons_zero, List.getElem_cons_succ, List.setIfInBounds_toArray, List.set_cons_zero, List.set_cons_succ]
  refine wpAnyH_take (i := 3) (v := ?_) rfl (by kernel_rfl) (by kernel_rfl) (by kernel_rfl) (fun _ _ _ h => h) (Or.inl ⟨by rfl, ?_⟩) hHeld ?_
  rotate_left 1
  · (intro w hSw; (try dsimp only at hSw); go_simp; try with_reducible rfl)
  try simp only [Act.put, List.getElem_toArray, List.getElem_cons_zero, List.getElem_cons_succ, List.setIfInBounds_toArray, List.set_cons_zero, List.set_cons_succ]
  refine wpAnyH_take (i := 4) (v := ?_) rfl (by kernel_rfl) (by kernel_rfl) (by kernel_rfl) (fun _ _ _ h => h) (Or.inl ⟨by rfl, ?_⟩) hHeld ?_
  rotate_left 1
  · (intro w hSw; have q3 := hSw; go_simp; try with_reducible rfl)
  try simp only [Act.put, List.getElem_toArray, List.getElem_cons_zero, List.getElem_cons_succ, List.setIfInBounds_toArray, List.set_cons_zero, List.set_cons_succ]
  refine wpAnyH_ready (rs := [5]) (by kernel_rfl) (by simp) (AllReadyH.cons rfl (fun K hK => ?_) AllReadyH.nil)
  clear hHeld
  obtain ⟨v2, w2, hrun, hg2, hk2, hb2⟩ := app_bytes 28 HXL.out (HDB.out.G (HG1.out.trans (G.drew (G.refl _)))) HDN.out
  have HG2 := hide (G.trans (G.drew (G.refl _)) hg2)
  have HK2 := hide hk2
  have HB2 := hide hb2
  clear hg2 hk2 hb2
  refine (if_pos rfl).mpr ?_
  refine wp_of_exec (exec_append _ _ 28 rfl (.slice none 0 0) dv rfl rfl 28 rfl hrun) ?_
  clear hrun
  refine hK.out _ _ ((HO1.out.G HG2.out).cell) (fun hHeld => ?_)
  clear hK K
  try simp only [Act.put, List.getElem_toArray, List.getElem_cons_zero, List.getElem_cons_succ, List.setIfInBounds_toArray, List.set_cons_zero, List.set_cons_succ]
  refine wpAnyH_ready (rs := [6]) (by kernel_rfl) (by simp) (AllReadyH.cons rfl (fun K hK => ?_) AllReadyH.nil)
  clear hHeld
  go_simp
  with_reducible refine (o_write q F m B hBB HB.out v2 n xs HXB.out _ ?_ ?_ ?_).mono ?_
  exact HS1.out.G HG2.out
  exact HK2.out
  exact (fun j hj e => by have h1 := HB2.out j hj; have h2 := HFL.out j e; have h3 := HG1.out.size; simp only [World.drew] at h1; omega)
  rintro e' w3 ⟨rfl, hone⟩
  have HN := hide hone
  clear hone
  go_wp2_with fail
  refine hK.out _ _ ((One.cells HN.out HO1.out HG2.out HG1.out HFL.out)) (fun hHeld => ?_)
  clear hK K
  try simp only [Act.put, List.getElem_toArray, List.getElem_cons_zero, List.getElem_cons_succ, List.setIfInBounds_toArray, List.set_cons_zero, List.set_cons_succ]
  refine wpAnyH_done (by kernel_rfl) ?_ _
  refine NoPanic.normal ?_
  go_wp2
  go_end0
  exact ⟨rfl, HN.out.back (HG1.out.trans HG2.out)⟩
set_option maxRecDepth 100000 in
set_option maxHeartbeats 4000000 in
theorem does_flush (who n : Int) (dv kv : Value) (q : Addr) (F : Nat → Prop) (m : DM) (B : Nat) (hBB : B ≤ 549755813888) (hB : m.few B) (w : World) (h : SlP w F (.pointer (some q)) (some m)) (hFl : ∀ k, F k → k < w.heap.size) : Calls Try.prog 10 #[.pointer (some q), .agg #[I 6, I who, I n, dv, kv]] w fun e w' => e = .returned (.tuple #[]) ∧ One w q F m.flush.1 B w' := by
  have HS0 := hide h
  have HFL := hide hFl
  have HB := hide hB
  have HO1 := hide (Blk.new w [I 6, I who, I n, dv, kv] 39)
  have HG1 := hide ((G.refl w).alloc (.cells #[I 6, I who, I n, dv, kv] 39))
  clear h hB hFl
  go_enter Try.func10, Try.ntmps10
  go_wp2_with fail
  generalize w.alloc (.cells #[I 6, I who, I n, dv, kv] 39) = w1 at HO1 HG1 ⊢
  have HS1 := hide (HS0.out.G HG1.out)
  refine (o_flush q F m B hBB HB.out _ HS1.out).mono ?_
  rintro e' w3 ⟨rfl, hone⟩
  have HN := hide hone
  clear hone
  go_wp2
  go_end0
  exact ⟨rfl, HN.out.back HG1.out⟩
set_option maxRecDepth 100000 in
set_option maxHeartbeats 4000000 in
theorem does_cut (who n : Int) (dv kv : Value) (q : Addr) (F : Nat → Prop) (m : DM) (B : Nat) (_hBB : B ≤ 549755813888) (hB : m.few B) (hn : n ≤ 9223372036854775807) (w : World) (h : SlP w F (.pointer (some q)) (some m)) (hFl : ∀ k, F k → k < w.heap.size) : Calls Try.prog 10 #[.pointer (some q), .agg #[I 7, I who, I n, dv, kv]] w fun e w' => e = .returned (.tuple #[]) ∧ One w q F (m.cut n).1 B w' := by
  have HS0 := hide h
  have HFL := hide hFl
  have HB := hide hB
  have HO1 := hide (Blk.new w [I 7, I who, I n, dv, kv] 39)
  have HG1 := hide ((G.refl w).alloc (.cells #[I 7, I who, I n, dv, kv] 39))
  clear h hB hFl
  go_enter Try.func10, Try.ntmps10
  go_wp2_with fail
  have hco := HO1.out.cell
  generalize w.alloc (.cells #[I 7, I who, I n, dv, kv] 39) = w1 at HO1 HG1 hco ⊢
  have HS1 := hide (HS0.out.G HG1.out)
  refine (o_cut q F m B HB.out n hn _ HS1.out).mono ?_
  rintro e' w3 ⟨rfl, hone⟩
  have HN := hide hone
  clear hone hco
  go_wp2
  go_end0
  exact ⟨rfl, HN.out.back HG1.out⟩
set_option maxRecDepth 100000 in
set_option maxHeartbeats 4000000 in
theorem does_crash (who n : Int) (dv kv : Value) (q : Addr) (F : Nat → Prop) (m : DM) (B : Nat) (hBB : B ≤ 549755813888) (hB : m.few B) (ks : List Bool) (hkl : ks.length ≤ 1073741824) (w : World) (hkv : Keeps w kv ks) (hks : kv = .slice none 0 0 ∨ ∃ ad n c, kv = .slice (some ad) n c) (h : SlP w F (.pointer (some q)) (some m)) (hFl : ∀ k, F k → k < w.heap.size) : Calls Try.prog 10 #[.pointer (some q), .agg #[I 8, I who, I n, dv, kv]] w fun e w' => e = .returned (.tuple #[]) ∧ One w q F (m.crash ks).1 B w' := by
  have HS0 := hide h
  have HFL := hide hFl
  have HB := hide hB
  have HO1 := hide (Blk.new w [I 8, I who, I n, dv, kv] 39)
  have HG1 := hide ((G.refl w).alloc (.cells #[I 8, I who, I n, dv, kv] 39))
  clear h hB hFl
  have HKV := hide hkv
  have HKS := hide hks
  have HKL := hide hkl
  clear hkv hks hkl
  obtain ⟨v2, w2, hrun, hg2, hk2, hb2⟩ := app_keep 23 HKL.out (HKV.out.G HG1.out) HKS.out
  have HRUN := hide hrun
  have HG2 := hide hg2
  have HK2 := hide hk2
  have HB2 := hide hb2
  clear hg2 hk2 hb2 hrun
  go_enter Try.func10, Try.ntmps10
  go_wp2_with (first | (at_builtin; refine wpList_append_run rfl _ _ 23 rfl (.slice none 0 0) kv rfl rfl HRUN.out ?_) | fail)
  generalize w.alloc (.cells #[I 8, I who, I n, dv, kv] 39) = w1 at HO1 HG1 HRUN HG2 HB2 ⊢
  have HS1 := hide (HS0.out.G HG1.out)
  refine (o_crash q F m B hBB HB.out v2 ks (by have := HKL.out; omega) _ (HS1.out.G HG2.out) HK2.out (fun j hj e => by have h1 := HB2.out j hj; have h2 := HFL.out j e; have h3 := HG1.out.size; omega)).mono ?_
  rintro e' w3 ⟨rfl, hone⟩
  have HN := hide hone
  clear hone
  go_wp2
  go_end0
  exact ⟨rfl, HN.out.back (HG1.out.trans HG2.out)⟩
set_option maxRecDepth 100000 in
set_option maxHeartbeats 4000000 in
theorem does_none (k who n : Int) (dv kv : Value) (v : Value) (h5 : ¬ k = 5) (h6 : ¬ k = 6) (h7 : ¬ k = 7) (h8 : ¬ k = 8) (w : World) : Calls Try.prog 10 #[v, .agg #[I k, I who, I n, dv, kv]] w fun e w' => e = .returned (.tuple #[]) ∧ G w w' := by
  have HG1 := hide ((G.refl w).alloc (.cells #[I k, I who, I n, dv, kv] 39))
  go_enter Try.func10, Try.ntmps10
  go_wp2
  go_end0
  exact ⟨rfl, HG1.out⟩
/-- What 'does' does. -/
theorem does_any (o : Op) (q : Addr) (F : Nat → Prop) (m : DM) (B : Nat) (hBB : B ≤ 549755813888) (hB : m.few B) (w : World) (ho : OpOk w o) (h : SlP w F (.pointer (some q)) (some m)) (hFl : ∀ k, F k → k < w.heap.size) :
    Calls Try.prog 10 #[.pointer (some q), o.V] w fun e w' => e = .returned (.tuple #[]) ∧ ∃ m' : DM, m'.n = m.n ∧ One w q F m' B w' := by
  obtain ⟨k, who, n, dv, kv⟩ := o
  obtain ⟨hn, ⟨xs, x1, x2, x3⟩, ⟨ks, k1, k2⟩, kn, _, _, dn⟩ := ho
  simp only at hn x3 k2 kn dn
  obtain ⟨s1, _⟩ := spent_keep m
  by_cases e5 : k = 5
  · subst e5
    refine (does_write who n dv kv q F m B hBB hB xs x1 x2 w x3 dn h hFl).mono fun e w' ⟨he, h1⟩ => ⟨he, _, ?_, h1⟩
    unfold DM.write
    repeat' split
    all_goals first | rfl | exact s1
  by_cases e6 : k = 6
  · subst e6
    refine (does_flush who n dv kv q F m B hBB hB w h hFl).mono fun e w' ⟨he, h1⟩ => ⟨he, _, ?_, h1⟩
    unfold DM.flush
    split
    all_goals exact s1
  by_cases e7 : k = 7
  · subst e7
    refine (does_cut who n dv kv q F m B hBB hB hn w h hFl).mono fun e w' ⟨he, h1⟩ => ⟨he, _, ?_, h1⟩
    unfold DM.cut
    repeat' split
    all_goals rfl
  by_cases e8 : k = 8
  · subst e8
    exact (does_crash who n dv kv q F m B hBB hB ks k1 w k2 kn h hFl).mono fun e w' ⟨he, h1⟩ => ⟨he, (m.crash ks).1, rfl, h1⟩
  exact (does_none k who n dv kv _ e5 e6 e7 e8 w).mono fun e w' ⟨he, g⟩ => ⟨he, m, rfl, F, h.G g, ⟨by have := hB.w; omega, by have := hB.f; omega, by have := hB.p; omega⟩, g.chg, fun k hk => .inl hk⟩
end Go.Proofs.Ytbjbphhcmmaaoaa
