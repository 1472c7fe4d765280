/- A step: New, Load; all kinds. -/
import Derived.Test.YtbjbphhcmmaaoaaLwD
namespace Go.Proofs.Ytbjbphhcmmaaoaa
open Go.RowKit

def nwM (n : Int) : Option DM := if 1 ≤ n ∧ n ≤ 4096 then some (DM.new n.toNat) else none
def nwC (n : Int) : Int := if 1 ≤ n ∧ n ≤ 4096 then 0 else 1
def ldM (xs : List Nat) : Option DM := if loadsB xs then some (DM.load xs) else none
def ldC (xs : List Nat) : Int := if loadsB xs then 0 else 22
/-- A disk that was just made, or none. -/
def Made (SL : World → (Nat → Prop) → Value → Option DM → Prop) (w : World) (mo : Option DM) (c : Int) (e : Ending) (w' : World) : Prop := ∃ q, e = .returned (.tuple #[.pointer q, .int .i64 c]) ∧ G w w' ∧ SL w' (fun k => w.heap.size ≤ k ∧ k < w'.heap.size) (.pointer q) mo ∧ q.isSome = mo.isSome
theorem uP_new (n : Int) (w : World) : Calls Try.prog 23 #[.int .i64 n] w (Made SlP w (nwM n) (nwC n)) := by
  by_cases h : 1 ≤ n ∧ n ≤ 4096
  · obtain ⟨k, rfl⟩ : ∃ k : Nat, n = k := ⟨n.toNat, by omega⟩
    refine (new_yes k (by omega) (by omega) w).mono ?_
    rintro e w' ⟨rfl, hg, hd⟩
    exact ⟨some ⟨w.heap.size + 1, 0, none⟩, by simp only [nwC, if_pos h], hg, by simp only [nwM, if_pos h]; exact ⟨_, rfl, hd⟩, by simp only [nwM, if_pos h]; rfl⟩
  · refine (new_no n (by omega) w).mono ?_
    rintro e w' ⟨rfl, rfl⟩
    exact ⟨none, by simp only [nwC, if_neg h], G.refl _, by simp only [nwM, if_neg h]; rfl, by simp only [nwM, if_neg h]; rfl⟩
theorem uR_new (n : Int) (w : World) : Calls Try.prog 57 #[.int .i64 n] w (Made SlR w (nwM n) (nwC n)) := by
  by_cases h : 1 ≤ n ∧ n ≤ 4096
  · obtain ⟨k, rfl⟩ : ∃ k : Nat, n = k := ⟨n.toNat, by omega⟩
    refine (rnew_yes k (by omega) (by omega) w).mono ?_
    rintro e w' ⟨rfl, hg, hd⟩
    exact ⟨some ⟨w.heap.size + 1, 0, none⟩, by simp only [nwC, if_pos h], hg, by simp only [nwM, if_pos h]; exact ⟨_, rfl, hd⟩, by simp only [nwM, if_pos h]; rfl⟩
  · refine (rnew_no n (by omega) w).mono ?_
    rintro e w' ⟨rfl, rfl⟩
    exact ⟨none, by simp only [nwC, if_neg h], G.refl _, by simp only [nwM, if_neg h]; rfl, by simp only [nwM, if_neg h]; rfl⟩
theorem uP_load (v : Value) (xs : List Nat) (hl : xs.length ≤ 1073741824) (hxb : ∀ x ∈ xs, x < 256) (w : World) (hb : Bytes w v xs) : Calls Try.prog 12 #[v] w (Made SlP w (ldM xs) (ldC xs)) := by
  obtain ⟨ba, cap, rfl, hcap, hb⟩ := hb
  cases h : loadsB xs with
  | true =>
    have hne : xs ≠ [] := fun e => by subst e; simp [loadsB] at h
    obtain ⟨b, oo, rfl, hli⟩ := hb.resolve_left hne
    refine (load_yes xs b oo cap hcap h hxb w hli).mono ?_
    rintro e w' ⟨p, rfl, hg, hd⟩
    exact ⟨some ⟨p, 0, none⟩, by simp only [ldC, h, if_true], hg, by simp only [ldM, h, if_true]; exact ⟨_, rfl, hd⟩, by simp only [ldM, h, if_true]; rfl⟩
  | false =>
    refine (load_no xs ba cap (by omega) h w).mono ?_
    rintro e w' ⟨rfl, rfl⟩
    exact ⟨none, by simp only [ldC, h]; rfl, G.refl _, by simp only [ldM, h]; rfl, by simp only [ldM, h]; rfl⟩
theorem uR_load (v : Value) (xs : List Nat) (hl : xs.length ≤ 1073741824) (hxb : ∀ x ∈ xs, x < 256) (w : World) (hb : Bytes w v xs) : Calls Try.prog 55 #[v] w (Made SlR w (ldM xs) (ldC xs)) := by
  cases h : loadsB xs with
  | true =>
    refine (rload_yes v xs h hxb w hb).mono ?_
    rintro e w' ⟨p, rfl, hg, hd⟩
    exact ⟨some ⟨p, 0, none⟩, by simp only [ldC, h, if_true], hg, by simp only [ldM, h, if_true]; exact ⟨_, rfl, hd⟩, by simp only [ldM, h, if_true]; rfl⟩
  | false =>
    refine (rload_no v xs hl h w hb).mono ?_
    rintro e w' ⟨rfl, rfl⟩
    exact ⟨none, by simp only [ldC, h]; rfl, G.refl _, by simp only [ldM, h]; rfl, by simp only [ldM, h]; rfl⟩
theorem few_nw (n : Int) (B : Nat) : fewO (nwM n) (B + 1) := fun m e => by
  unfold nwM at e
  split at e
  · cases e; exact ⟨Nat.zero_le _, Nat.zero_le _, Nat.zero_le _⟩
  · cases e
theorem few_ld (xs : List Nat) (B : Nat) : fewO (ldM xs) (B + 1) := fun m e => by
  unfold ldM at e
  split at e
  · cases e; exact ⟨Nat.zero_le _, Nat.zero_le _, Nat.zero_le _⟩
  · cases e
/-- Both disks are new, and are laid into Two. -/
theorem SS.made {w w1 w2 : World} {t s : Nat} {cs : List Value} {pv rv : Value} {FP FR : Nat → Prop} {mo mo' : Option DM} {B : Nat} {p q : Value} (h : SS w t s cs pv rv FP FR mo) (g1 : Go.Proofs.Ytbjbphhcmmaaoaa.G w w1) (g2 : Go.Proofs.Ytbjbphhcmmaaoaa.G w1 w2) (hp : SlP w1 (fun k => w.heap.size ≤ k ∧ k < w1.heap.size) p mo') (hr : SlR w2 (fun k => w1.heap.size ≤ k ∧ k < w2.heap.size) q mo') (hB : fewO mo' (B + 1)) : StepA w t s cs FP FR B ((w2.setCell ⟨t, s, none⟩ p).setCell ⟨t, 2 + s, none⟩ q) := by
  have ht := h.bt.lt
  have hcl := h.cl
  have hs := h.s2
  have s1 := g1.size
  have s2 := g2.size
  have hc : Chg (fun k => k = t) w2 ((w2.setCell ⟨t, s, none⟩ p).setCell ⟨t, 2 + s, none⟩ q) := (chg1 _ _ _ _).trans (chg1 _ _ _ _)
  refine ⟨(cs.set s p).set (2 + s) q, p, q, fun k => w.heap.size ≤ k ∧ k < w1.heap.size, fun k => w1.heap.size ≤ k ∧ k < w2.heap.size, mo', ⟨?_, by simp [hcl], hs, ?_, ?_, ?_, ?_, fun k h1 h2 => by omega, fun k hk => ?_⟩, ?_, fun k hk => ?_, fun j h1 h2 => ?_, hB⟩
  · exact ((h.bt.G (g1.trans g2)).set s p).set (2 + s) q
  · rw [List.getElem?_set_ne (by omega), List.getElem?_set_self (by omega)]
  · rw [List.getElem?_set_self (by simp; omega)]
  · exact (hp.G g2).chg hc (fun k hk => by omega)
  · exact hr.chg hc (fun k hk => by omega)
  · have : ((w2.setCell ⟨t, s, none⟩ p).setCell ⟨t, 2 + s, none⟩ q).heap.size = w2.heap.size := by simp
    rw [this]
    omega
  · exact ((g1.trans g2).chg).trans (hc.mono (fun k e => .inr (.inr e)))
  · omega
  · rw [List.getElem?_set_ne (by omega), List.getElem?_set_ne (by omega)]
set_option maxRecDepth 100000 in
set_option maxHeartbeats 4000000 in
theorem makes_new (who n : Int) (dv kv : Value) (t s : Nat) (cs : List Value) (pv rv : Value) (FP FR : Nat → Prop) (mo : Option DM) (B : Nat) (hw : bits BinOp.and IntKind.i64 who 1 = (s : Int)) (_hBB : B ≤ 549755813888) (w : World) (_hB : fewO mo B) (h : SS w t s cs pv rv FP FR mo) : Calls Try.prog 44 #[.pointer (some ⟨t, 0, none⟩), .agg #[I 1, I who, I n, dv, kv]] w fun e w' => e = .returned (.bool true) ∧ StepA w t s cs FP FR B w' := by
  have HN1 := hide (uP_new n)
  have HN2 := hide (uR_new n)
  have HFW := hide (few_nw n B)
  have HS0 := hide h
  have hs2 := h.s2
  have HO1 := hide (Blk.new w [I 1, I who, I n, dv, kv] 39)
  have HG1 := hide ((G.refl w).alloc (.cells #[I 1, I who, I n, dv, kv] 39))
  have hsI : (s : Int) < 2 := by omega
  have hsw : IntKind.i64.wrap (s : Int) = s := by rw [IntKind.wrap_i64]; omega
  have hcl := h.cl
  clear h
  go_enter Try.func44, Try.ntmps44
  go_wp2_with fail
  have hco := HO1.out.cell
  generalize w.alloc (.cells #[I 1, I who, I n, dv, kv] 39) = w1 at HO1 HG1 hco ⊢
  have HS1 := hide (HS0.out.G HG1.out)
  refine (HN1.out _).mono ?_
  rintro e' w2 ⟨q1, rfl, hg2, hp2, hq1⟩
  have HG2 := hide hg2
  have HP2 := hide hp2
  have HQ1' := hide hq1
  clear hg2 hp2 hq1 hco
  have hco := (HO1.out.G HG2.out).cell
  go_wp2_with fail
  refine (HN2.out _).mono ?_
  rintro e' w3 ⟨q2, rfl, hg3, hp3, hq2⟩
  have HG3 := hide hg3
  have HP3 := hide hp3
  have HQ2' := hide hq2
  clear hg3 hp3 hq2 hco HN1 HN2
  have hct := (HS1.out.bt.G (HG2.out.trans HG3.out)).cell
  have hcf := (HS1.out.bt.G (HG2.out.trans HG3.out)).frozen
  have hx1 : ∃ y, cs[s]? = some y := ⟨_, HS0.out.cp⟩
  have hx2 : ∃ y, cs[2 + s]? = some y := ⟨_, HS0.out.cr⟩
  obtain ⟨y1, hy1⟩ := hx1
  obtain ⟨y2, hy2⟩ := hx2
  have hc1 : w3.cell? ⟨t, s, none⟩ = some y1 := (hct s).trans hy1
  have hc2 : w3.cell? ⟨t, 2 + s, none⟩ = some y2 := (hct (2 + s)).trans hy2
  have hst : ¬ (s = 2 + s) := by omega
  have hst2 : ¬ (2 + s = s) := by omega
  clear hct hy1 hy2 hcl
  go_wp2_with fail
  refine wp_region_noPanic ?_
  refine wp_region_held_drew (S := (fun _ => True)) (by kernel_rfl) (trivial) (fun hHeld => ?_)
  refine wpAnyH_take (i := 0) (v := ?_) rfl (by kernel_rfl) (by kernel_rfl) (by kernel_rfl) (fun _ _ _ h => h) (Or.inl ⟨by rfl, ?_⟩) hHeld ?_
  rotate_left 1
  · (intro w hSw; (try dsimp only at hSw); go_simp; try with_reducible rfl)
  try simp only [Act.put, List.getElem_toArray, List.getElem_cons_zero, List.setIfInBounds_toArray, List.set_cons_zero, List.set_cons_succ]
  refine wpAnyH_take (i := 1) (v := ?_) rfl (by kernel_rfl) (by kernel_rfl) (by kernel_rfl) (fun _ _ _ h => h) (Or.inl ⟨by rfl, ?_⟩) hHeld ?_
  rotate_left 1
  · (intro w hSw; (try dsimp only at hSw); go_simp; try with_reducible rfl)
  try simp only [Act.put, List.getElem_toArray, List.getElem_cons_zero, List.getElem_cons_succ, List.setIfInBounds_toArray, List.set_cons_zero, List.set_cons_succ]
  refine wpAnyH_take (i := 2) (v := ?_) rfl (by kernel_rfl) (by kernel_rfl) (by kernel_rfl) (fun _ _ _ h => h) (Or.inl ⟨by rfl, ?_⟩) hHeld ?_
  rotate_left 1
  · (intro w hSw; (try dsimp only at hSw); go_simp; try with_reducible rfl)
  try simp only [Act.put, List.getElem_toArray, List.getElem_cons_zero, List.getElem_cons_succ, List.setIfInBounds_toArray, List.set_cons_zero, List.set_cons_succ]
  refine wpAnyH_take (i := 3) (v := ?_) rfl (by kernel_rfl) (by kernel_rfl) (by kernel_rfl) (fun _ _ _ h => h) (Or.inl ⟨by rfl, ?_⟩) hHeld ?_
  rotate_left 1
  · (intro w hSw; (try dsimp only at hSw); go_simp; try with_reducible rfl)
  try simp only [Act.put, List.getElem_toArray, List.getElem_cons_zero, List.getElem_cons_succ, List.setIfInBounds_toArray, List.set_cons_zero, List.set_cons_succ]
  refine wpAnyH_take (i := 4) (v := ?_) rfl (by kernel_rfl) (by kernel_rfl) (by kernel_rfl) (fun _ _ _ h => h) (Or.inl ⟨by rfl, ?_⟩) hHeld ?_
  rotate_left 1
  · (intro w hSw; (try dsimp only at hSw); go_simp; try with_reducible rfl)
  try simp only [Act.put, List.getElem_toArray, List.getElem_cons_zero, List.getElem_cons_succ, List.setIfInBounds_toArray, List.set_cons_zero, List.set_cons_succ]
  refine wpAnyH_take (i := 5) (v := ?_) rfl (by kernel_rfl) (by kernel_rfl) (by kernel_rfl) (fun _ _ _ h => h) (Or.inl ⟨by rfl, ?_⟩) hHeld ?_
  rotate_left 1
  · (intro w hSw; (try dsimp only at hSw); go_simp; try with_reducible rfl)
  try simp only [Act.put, List.getElem_toArray, List.getElem_cons_zero, List.getElem_cons_succ, List.setIfInBounds_toArray, List.set_cons_zero, List.set_cons_succ]
  refine wpAnyH_take (i := 6) (v := ?_) rfl (by kernel_rfl) (by kernel_rfl) (by kernel_rfl) (fun _ _ _ h => h) (Or.inl ⟨by rfl, ?_⟩) hHeld ?_
  rotate_left 1
  · (intro w hSw; (try dsimp only at hSw); go_simp; try with_reducible rfl)
  try simp only [Act.put, List.getElem_toArray, List.getElem_cons_zero, List.getElem_cons_succ, List.setIfInBounds_toArray, List.set_cons_zero, List.set_cons_succ]
  refine wpAnyH_take (i := 7) (v := ?_) rfl (by kernel_rfl) (by kernel_rfl) (by kernel_rfl) (fun _ _ _ h => h) (Or.inl ⟨by rfl, ?_⟩) hHeld ?_
  rotate_left 1
  · (intro w hSw; (try dsimp only at hSw); go_simp; try with_reducible rfl)
  try simp only [Act.put, List.getElem_toArray, List.getElem_cons_zero, List.getElem_cons_succ, List.setIfInBounds_toArray, List.set_cons_zero, List.set_cons_succ]
  refine wpAnyH_take (i := 8) (v := ?_) rfl (by kernel_rfl) (by kernel_rfl) (by kernel_rfl) (fun _ _ _ h => h) (Or.inl ⟨by rfl, ?_⟩) hHeld ?_
  rotate_left 1
  · (intro w hSw; (try dsimp only at hSw); go_simp; try with_reducible rfl)
  try simp only [Act.put, List.getElem_toArray, List.getElem_cons_zero, List.getElem_cons_succ, List.setIfInBounds_toArray, List.set_cons_zero, List.set_cons_succ]
  refine wpAnyH_take (i := 10) (v := ?_) rfl (by kernel_rfl) (by kernel_rfl) (by kernel_rfl) (fun _ _ _ h => h) (Or.inl ⟨by rfl, ?_⟩) hHeld ?_
  rotate_left 1
  · (intro w hSw; (try dsimp only at hSw); go_simp; try with_reducible rfl)
  try simp only [Act.put, List.getElem_toArray, List.getElem_cons_zero, List.getElem_cons_succ, List.setIfInBounds_toArray, List.set_cons_zero, List.set_cons_succ]
  refine wpAnyH_take (i := 11) (v := ?_) rfl (by kernel_rfl) (by kernel_rfl) (by kernel_rfl) (fun _ _ _ h => h) (Or.inl ⟨by rfl, ?_⟩) hHeld ?_
  rotate_left 1
  · (intro w hSw; (try dsimp only at hSw); go_simp; try with_reducible rfl)
  try simp only [Act.put, List.getElem_toArray, List.getElem_cons_zero, List.getElem_cons_succ, List.setIfInBounds_toArray, List.set_cons_zero, List.set_cons_succ]
  refine wpAnyH_ready (rs := [9]) (by kernel_rfl) (by simp) (AllReadyH.cons rfl (fun K hK => ?_) AllReadyH.nil)
  clear hHeld
  go_simp
  refine hK.out _ _ (trivial) (fun hHeld => ?_)
  clear hK K
  try simp only [Act.put, List.getElem_toArray, List.getElem_cons_zero, List.getElem_cons_succ]
  refine wpAnyH_take (i := 12) (v := ?_) rfl (by kernel_rfl) (by kernel_rfl) (by kernel_rfl) (fun _ _ _ h => h) (Or.inl ⟨by rfl, ?_⟩) hHeld ?_
  rotate_left 1
  · (intro w hSw; (try dsimp only at hSw); go_simp; try with_reducible rfl)
  try simp only [Act.put, List.getElem_toArray, List.getElem_cons_zero, List.getElem_cons_succ, List.setIfInBounds_toArray, List.set_cons_zero, List.set_cons_succ]
  refine wpAnyH_ready (rs := [13]) (by kernel_rfl) (by simp) (AllReadyH.cons rfl (fun K hK => ?_) AllReadyH.nil)
  clear hHeld
  go_simp
  refine hK.out _ _ (trivial) (fun hHeld => ?_)
  clear hK K
  try simp only [Act.put, List.getElem_toArray, List.getElem_cons_zero, List.getElem_cons_succ]
  refine wpAnyH_done (by kernel_rfl) ?_ _
  refine NoPanic.normal ?_
  have HEND := hide (((HS1.out.made HG2.out HG3.out HP2.out HP3.out HFW.out).back HG1.out).on (G.drew (G.refl _)))
  generalize ((w3.setCell ⟨t, s, none⟩ (.pointer q1)).setCell ⟨t, 2 + s, none⟩ (.pointer q2)).drew = w4 at HEND ⊢
  have HQ1 := HQ1'.out
  have HQ2 := HQ2'.out
  generalize nwM n = mo'' at HQ1 HQ2
  clear HP2 HP3 HQ1' HQ2' HFW hc1 hc2 hcf hst hst2
  cases mo'' with
  | none =>
    obtain rfl : q1 = none := by cases q1 with
      | none => rfl
      | some _ => simp at HQ1
    obtain rfl : q2 = none := by cases q2 with
      | none => rfl
      | some _ => simp at HQ2
    go_wp2
    go_ret
    exact ⟨rfl, HEND.out⟩
  | some m =>
    obtain ⟨a1, rfl⟩ : ∃ a, q1 = some a := Option.isSome_iff_exists.1 (by rw [HQ1]; rfl)
    obtain ⟨a2, rfl⟩ : ∃ a, q2 = some a := Option.isSome_iff_exists.1 (by rw [HQ2]; rfl)
    go_wp2
    go_ret
    exact ⟨rfl, HEND.out⟩
set_option maxRecDepth 100000 in
set_option maxHeartbeats 4000000 in
theorem makes_load (who n : Int) (dv kv : Value) (t s : Nat) (cs : List Value) (pv rv : Value) (FP FR : Nat → Prop) (mo : Option DM) (B : Nat) (hw : bits BinOp.and IntKind.i64 who 1 = (s : Int)) (_hBB : B ≤ 549755813888) (xs : List Nat) (hxb : ∀ x ∈ xs, x < 256) (hxl : xs.length ≤ 1073741824) (w : World) (hdb : Bytes w dv xs) (_hB : fewO mo B) (h : SS w t s cs pv rv FP FR mo) : Calls Try.prog 44 #[.pointer (some ⟨t, 0, none⟩), .agg #[I 2, I who, I n, dv, kv]] w fun e w' => e = .returned (.bool true) ∧ StepA w t s cs FP FR B w' := by
  have HSM := hide (fun W (hW : Bytes W dv xs) => same_any dv xs hxl W hW)
  have HN1 := hide (fun v W (hW : Bytes W v xs) => uP_load v xs hxl hxb W hW)
  have HN2 := hide (fun W (hW : Bytes W dv xs) => uR_load dv xs hxl hxb W hW)
  have HFW := hide (few_ld xs B)
  have HDB := hide hdb
  have HS0 := hide h
  have hs2 := h.s2
  have HO1 := hide (Blk.new w [I 2, I who, I n, dv, kv] 39)
  have HG1 := hide ((G.refl w).alloc (.cells #[I 2, I who, I n, dv, kv] 39))
  have hsI : (s : Int) < 2 := by omega
  have hsw : IntKind.i64.wrap (s : Int) = s := by rw [IntKind.wrap_i64]; omega
  have hcl := h.cl
  clear h hdb
  go_enter Try.func44, Try.ntmps44
  go_wp2_with fail
  have hco := HO1.out.cell
  generalize w.alloc (.cells #[I 2, I who, I n, dv, kv] 39) = w0 at HO1 HG1 hco ⊢
  refine (HSM.out _ (HDB.out.G HG1.out)).mono ?_
  rintro e' w1 ⟨rfl, hg, hbk⟩
  have HG0 := hide hg
  have HK0 := hide hbk
  clear hg hbk HSM
  have HS1 := hide (HS0.out.G (HG1.out.trans HG0.out))
  go_wp2_with fail
  refine (HN1.out _ _ HK0.out.bytes).mono ?_
  rintro e' w2 ⟨q1, rfl, hg2, hp2, hq1⟩
  have HG2 := hide hg2
  have HP2 := hide hp2
  have HQ1' := hide hq1
  clear hg2 hp2 hq1 hco
  have hco := ((HO1.out.G HG0.out).G HG2.out).cell
  go_wp2_with fail
  refine (HN2.out _ (((HDB.out.G HG1.out).G HG0.out).G HG2.out)).mono ?_
  rintro e' w3 ⟨q2, rfl, hg3, hp3, hq2⟩
  have HG3 := hide hg3
  have HP3 := hide hp3
  have HQ2' := hide hq2
  clear hg3 hp3 hq2 hco HN1 HN2
  have hct := (HS1.out.bt.G (HG2.out.trans HG3.out)).cell
  have hcf := (HS1.out.bt.G (HG2.out.trans HG3.out)).frozen
  have hx1 : ∃ y, cs[s]? = some y := ⟨_, HS0.out.cp⟩
  have hx2 : ∃ y, cs[2 + s]? = some y := ⟨_, HS0.out.cr⟩
  obtain ⟨y1, hy1⟩ := hx1
  obtain ⟨y2, hy2⟩ := hx2
  have hc1 : w3.cell? ⟨t, s, none⟩ = some y1 := (hct s).trans hy1
  have hc2 : w3.cell? ⟨t, 2 + s, none⟩ = some y2 := (hct (2 + s)).trans hy2
  have hst : ¬ (s = 2 + s) := by omega
  have hst2 : ¬ (2 + s = s) := by omega
  clear hct hy1 hy2 hcl
  go_wp2_with fail
  refine wp_region_noPanic ?_
  refine wp_region_held_drew (S := (fun _ => True)) (by kernel_rfl) (trivial) (fun hHeld => ?_)
  refine wpAnyH_take (i := 0) (v := ?_) rfl (by kernel_rfl) (by kernel_rfl) (by kernel_rfl) (fun _ _ _ h => h) (Or.inl ⟨by rfl, ?_⟩) hHeld ?_
  rotate_left 1
  · (intro w hSw; (try dsimp only at hSw); go_simp; try with_reducible rfl)
  try simp only [Act.put, List.getElem_toArray, List.getElem_cons_zero, List.setIfInBounds_toArray, List.set_cons_zero, List.set_cons_succ]
  refine wpAnyH_take (i := 1) (v := ?_) rfl (by kernel_rfl) (by kernel_rfl) (by kernel_rfl) (fun _ _ _ h => h) (Or.inl ⟨by rfl, ?_⟩) hHeld ?_
  rotate_left 1
  · (intro w hSw; (try dsimp only at hSw); go_simp; try with_reducible rfl)
  try simp only [Act.put, List.getElem_toArray, List.getElem_cons_zero, List.getElem_cons_succ, List.setIfInBounds_toArray, List.set_cons_zero, List.set_cons_succ]
  refine wpAnyH_take (i := 2) (v := ?_) rfl (by kernel_rfl) (by kernel_rfl) (by kernel_rfl) (fun _ _ _ h => h) (Or.inl ⟨by rfl, ?_⟩) hHeld ?_
  rotate_left 1
  · (intro w hSw; (try dsimp only at hSw); go_simp; try with_reducible rfl)
  try simp only [Act.put, List.getElem_toArray, List.getElem_cons_zero, List.getElem_cons_succ, List.setIfInBounds_toArray, List.set_cons_zero, List.set_cons_succ]
  refine wpAnyH_take (i := 3) (v := ?_) rfl (by kernel_rfl) (by kernel_rfl) (by kernel_rfl) (fun _ _ _ h => h) (Or.inl ⟨by rfl, ?_⟩) hHeld ?_
  rotate_left 1
  · (intro w hSw; (try dsimp only at hSw); go_simp; try with_reducible rfl)
  try simp only [Act.put, List.getElem_toArray, List.getElem_cons_zero, List.getElem_cons_succ, List.setIfInBounds_toArray, List.set_cons_zero, List.set_cons_succ]
  refine wpAnyH_take (i := 4) (v := ?_) rfl (by kernel_rfl) (by kernel_rfl) (by kernel_rfl) (fun _ _ _ h => h) (Or.inl ⟨by rfl, ?_⟩) hHeld ?_
  rotate_left 1
  · (intro w hSw; (try dsimp only at hSw); go_simp; try with_reducible rfl)
  try simp only [Act.put, List.getElem_toArray, List.getElem_cons_zero, List.getElem_cons_succ, List.setIfInBounds_toArray, List.set_cons_zero, List.set_cons_succ]
  refine wpAnyH_take (i := 5) (v := ?_) rfl (by kernel_rfl) (by kernel_rfl) (by kernel_rfl) (fun _ _ _ h => h) (Or.inl ⟨by rfl, ?_⟩) hHeld ?_
  rotate_left 1
  · (intro w hSw; (try dsimp only at hSw); go_simp; try with_reducible rfl)
  try simp only [Act.put, List.getElem_toArray, List.getElem_cons_zero, List.getElem_cons_succ, List.setIfInBounds_toArray, List.set_cons_zero, List.set_cons_succ]
  refine wpAnyH_take (i := 6) (v := ?_) rfl (by kernel_rfl) (by kernel_rfl) (by kernel_rfl) (fun _ _ _ h => h) (Or.inl ⟨by rfl, ?_⟩) hHeld ?_
  rotate_left 1
  · (intro w hSw; (try dsimp only at hSw); go_simp; try with_reducible rfl)
  try simp only [Act.put, List.getElem_toArray, List.getElem_cons_zero, List.getElem_cons_succ, List.setIfInBounds_toArray, List.set_cons_zero, List.set_cons_succ]
  refine wpAnyH_take (i := 7) (v := ?_) rfl (by kernel_rfl) (by kernel_rfl) (by kernel_rfl) (fun _ _ _ h => h) (Or.inl ⟨by rfl, ?_⟩) hHeld ?_
  rotate_left 1
  · (intro w hSw; (try dsimp only at hSw); go_simp; try with_reducible rfl)
  try simp only [Act.put, List.getElem_toArray, List.getElem_cons_zero, List.getElem_cons_succ, List.setIfInBounds_toArray, List.set_cons_zero, List.set_cons_succ]
  refine wpAnyH_take (i := 8) (v := ?_) rfl (by kernel_rfl) (by kernel_rfl) (by kernel_rfl) (fun _ _ _ h => h) (Or.inl ⟨by rfl, ?_⟩) hHeld ?_
  rotate_left 1
  · (intro w hSw; (try dsimp only at hSw); go_simp; try with_reducible rfl)
  try simp only [Act.put, List.getElem_toArray, List.getElem_cons_zero, List.getElem_cons_succ, List.setIfInBounds_toArray, List.set_cons_zero, List.set_cons_succ]
  refine wpAnyH_take (i := 10) (v := ?_) rfl (by kernel_rfl) (by kernel_rfl) (by kernel_rfl) (fun _ _ _ h => h) (Or.inl ⟨by rfl, ?_⟩) hHeld ?_
  rotate_left 1
  · (intro w hSw; (try dsimp only at hSw); go_simp; try with_reducible rfl)
  try simp only [Act.put, List.getElem_toArray, List.getElem_cons_zero, List.getElem_cons_succ, List.setIfInBounds_toArray, List.set_cons_zero, List.set_cons_succ]
  refine wpAnyH_take (i := 11) (v := ?_) rfl (by kernel_rfl) (by kernel_rfl) (by kernel_rfl) (fun _ _ _ h => h) (Or.inl ⟨by rfl, ?_⟩) hHeld ?_
  rotate_left 1
  · (intro w hSw; (try dsimp only at hSw); go_simp; try with_reducible rfl)
  try simp only [Act.put, List.getElem_toArray, List.getElem_cons_zero, List.getElem_cons_succ, List.setIfInBounds_toArray, List.set_cons_zero, List.set_cons_succ]
  refine wpAnyH_ready (rs := [9]) (by kernel_rfl) (by simp) (AllReadyH.cons rfl (fun K hK => ?_) AllReadyH.nil)
  clear hHeld
  go_simp
  refine hK.out _ _ (trivial) (fun hHeld => ?_)
  clear hK K
  try simp only [Act.put, List.getElem_toArray, List.getElem_cons_zero, List.getElem_cons_succ]
  refine wpAnyH_take (i := 12) (v := ?_) rfl (by kernel_rfl) (by kernel_rfl) (by kernel_rfl) (fun _ _ _ h => h) (Or.inl ⟨by rfl, ?_⟩) hHeld ?_
  rotate_left 1
  · (intro w hSw; (try dsimp only at hSw); go_simp; try with_reducible rfl)
  try simp only [Act.put, List.getElem_toArray, List.getElem_cons_zero, List.getElem_cons_succ, List.setIfInBounds_toArray, List.set_cons_zero, List.set_cons_succ]
  refine wpAnyH_ready (rs := [13]) (by kernel_rfl) (by simp) (AllReadyH.cons rfl (fun K hK => ?_) AllReadyH.nil)
  clear hHeld
  go_simp
  refine hK.out _ _ (trivial) (fun hHeld => ?_)
  clear hK K
  try simp only [Act.put, List.getElem_toArray, List.getElem_cons_zero, List.getElem_cons_succ]
  refine wpAnyH_done (by kernel_rfl) ?_ _
  refine NoPanic.normal ?_
  have HEND := hide (((HS1.out.made HG2.out HG3.out HP2.out HP3.out HFW.out).back (HG1.out.trans HG0.out)).on (G.drew (G.refl _)))
  generalize ((w3.setCell ⟨t, s, none⟩ (.pointer q1)).setCell ⟨t, 2 + s, none⟩ (.pointer q2)).drew = w4 at HEND ⊢
  have HQ1 := HQ1'.out
  have HQ2 := HQ2'.out
  generalize ldM xs = mo'' at HQ1 HQ2
  clear HP2 HP3 HQ1' HQ2' HFW hc1 hc2 hcf hst hst2
  cases mo'' with
  | none =>
    obtain rfl : q1 = none := by cases q1 with
      | none => rfl
      | some _ => simp at HQ1
    obtain rfl : q2 = none := by cases q2 with
      | none => rfl
      | some _ => simp at HQ2
    go_wp2
    go_ret
    exact ⟨rfl, HEND.out⟩
  | some m =>
    obtain ⟨a1, rfl⟩ : ∃ a, q1 = some a := Option.isSome_iff_exists.1 (by rw [HQ1]; rfl)
    obtain ⟨a2, rfl⟩ : ∃ a, q2 = some a := Option.isSome_iff_exists.1 (by rw [HQ2]; rfl)
    go_wp2
    go_ret
    exact ⟨rfl, HEND.out⟩
end Go.Proofs.Ytbjbphhcmmaaoaa
