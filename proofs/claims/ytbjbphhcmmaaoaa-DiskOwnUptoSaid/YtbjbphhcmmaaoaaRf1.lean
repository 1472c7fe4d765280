/- The document's disks: what is known of them; Same, New, Load, Sectors, operation, Cut, Stat. -/
import Derived.Test.YtbjbphhcmmaaoaaDk11
namespace Go.Proofs.Ytbjbphhcmmaaoaa
open Go.RowKit

/-- Bytes in memory, as a slice. -/
def Bytes (w : World) (v : Value) (xs : List Nat) : Prop := ∃ ba cap, v = .slice ba xs.length cap ∧ xs.length ≤ cap ∧ (xs = [] ∨ ∃ b o, ba = some ⟨b, o, none⟩ ∧ Lies w ⟨b, o, none⟩ xs)
theorem Bytes.chg {F : Nat → Prop} {w w' : World} {v : Value} {xs : List Nat} (h : Bytes w v xs) (k : Chg F w w') (hF : ∀ j, Value.blk v j → ¬ F j) : Bytes w' v xs := by
  obtain ⟨ba, cap, h1, h2, h3⟩ := h
  refine ⟨ba, cap, h1, h2, ?_⟩
  rcases h3 with h3 | ⟨b, o, rfl, h4⟩
  · exact .inl h3
  · by_cases hx : xs = []
    · exact .inl hx
    · exact .inr ⟨b, o, rfl, h4.chg k (hF b ⟨_, _, _, h1, List.length_pos_iff.2 hx, rfl⟩)⟩
theorem Bytes.G {w w' : World} {v : Value} {xs : List Nat} (h : Bytes w v xs) (k : Go.Proofs.Ytbjbphhcmmaaoaa.G w w') : Bytes w' v xs := h.chg (F := fun _ => False) k.chg (fun _ _ h => h)
theorem Blk.lies {w : World} {b e : Nat} {xs : List Nat} (h : Blk w b e (xs.map bv)) : Lies w ⟨b, 0, none⟩ xs := fun j x hj => by
  rw [Addr.add_mid, Nat.zero_add, h.cell, List.getElem?_map, hj]; rfl
theorem Blk.bytes {w : World} {b e : Nat} {xs : List Nat} (h : Blk w b e (xs.map bv)) : Bytes w (.slice (some ⟨b, 0, none⟩) xs.length xs.length) xs := ⟨_, _, rfl, Nat.le_refl _, .inr ⟨b, 0, rfl, h.lies⟩⟩
def rfuse (m : DM) : Int := if m.off then 0 else match m.fuse with | some k => k | none => -1
def rheadC (m : DM) (ls wv : Value) : List Value := [ls, wv, I (rfuse m), .bool m.off, I m.writes, I m.flushes]
/-- The document's disk at block p is m; all its blocks are of F. -/
structure RD (w : World) (F : Nat → Prop) (p : Nat) (m : DM) : Prop where
  ok : m.ok
  h : ∃ (lb : Nat) (wv : Value), Blk w p 98 (rheadC m (.slice (some ⟨lb, 0, none⟩) (m.n * 128) (m.n * 128)) wv) ∧ Blk w lb 5 (m.laid.map bv) ∧ RowW w wv m.pend F (fun k => k = lb) ∧ F lb
  f : F p
theorem RD.mono {w : World} {F F' : Nat → Prop} {p : Nat} {m : DM} (h : RD w F p m) (hF : ∀ k, F k → F' k) : RD w F' p m := by
  obtain ⟨ok, ⟨lb, ps, h1, h2, h3, h4⟩, f⟩ := h
  exact ⟨ok, ⟨lb, ps, h1, h2, h3.mono hF (fun _ h => h), hF _ h4⟩, hF _ f⟩
theorem RD.chg {w w' : World} {F F' : Nat → Prop} {p : Nat} {m : DM} (h : RD w F p m) (k : Chg F' w w') (hF : ∀ k, F k → ¬ F' k) : RD w' F p m := by
  obtain ⟨ok, ⟨lb, ps, h1, h2, h3, h4⟩, f⟩ := h
  exact ⟨ok, ⟨lb, ps, h1.chg k (hF _ f), h2.chg k (hF _ h4), h3.chg k hF, h4⟩, f⟩
theorem RD.G {w w' : World} {F : Nat → Prop} {p : Nat} {m : DM} (h : RD w F p m) (k : Go.Proofs.Ytbjbphhcmmaaoaa.G w w') : RD w' F p m := h.chg (F' := fun _ => False) k.chg (fun _ _ => id)
theorem Blk.rheadC {w : World} {p : Nat} {m : DM} {ls ps : Value} (hb : Blk w p 98 (rheadC m ls ps)) : ∀ o, w.cell? ⟨p, o, none⟩ = [ls, ps, I (rfuse m), .bool m.off, I m.writes, I m.flushes][o]? := hb.cell
set_option maxRecDepth 100000 in
set_option maxHeartbeats 4000000 in
theorem same_any (v : Value) (xs : List Nat) (hx : xs.length ≤ 1073741824) (w : World) (h : Bytes w v xs) : Calls Try.prog 45 #[v] w fun e w' => e = .returned (.slice (some ⟨w.heap.size, 0, none⟩) xs.length xs.length) ∧ G w w' ∧ Blk w' w.heap.size 5 (xs.map bv) := by
  obtain ⟨ba, cap, rfl, hcap, hb⟩ := h
  have HMK := hide (run_mk xs.length hx w)
  have HB := hide hb
  go_enter Try.func45, Try.ntmps45
  go_wp2_with fail
  rw [HMK.out]
  have HG1 := hide ((G.refl w).alloc (.cells ((List.replicate xs.length 0).map bv).toArray 5))
  have HB1 := hide (Blk.new w ((List.replicate xs.length 0).map bv) 5)
  generalize w.alloc (.cells ((List.replicate xs.length 0).map bv).toArray 5) = w1 at HG1 HB1 ⊢
  clear HMK hb
  by_cases h0 : xs = []
  · subst h0
    go_wp2_with fail
    have hr := run_copy_none (P := Try.prog) w1 28 28 3 5 (some ⟨w.heap.size, 0, none⟩) ba 0 0 0 cap Try.underlying28 size_u8 rfl
    rw [hr]
    go_wp2
    go_ret
    exact ⟨rfl, HG1.out, HB1.out⟩
  · obtain ⟨b, oo, rfl, hl⟩ := HB.out.resolve_left h0
    have HLI := hide (hl.G HG1.out)
    have hll : (xs.map bv).length = ((List.replicate xs.length 0).map bv).length := by simp
    clear hl
    go_wp2_with fail
    rw [run_copy_cells (P := Try.prog) w1 28 28 _ 5 w.heap.size 0 xs.length xs.length ⟨b, oo, none⟩ xs.length cap (xs.map bv) Try.underlying28 size_u8 (by rw [List.length_map]; exact (Nat.min_self _).symm) HLI.out.cells (fun j hj => (HB1.out.there 0 (xs.map bv).length (by omega) j hj).1) (fun j hj => HB1.out.frozen _) (one_map _)]
    have HB2 := hide (HB1.out.whole (xs.map bv) hll)
    have HG2 : Hid (G w (w1.setCells w.heap.size 0 (xs.map bv))) := G.setCells _ HG1.out (Nat.le_refl _)
    generalize w1.setCells w.heap.size 0 (xs.map bv) = w2 at HB2 HG2 ⊢
    clear hll
    go_wp2
    go_ret
    exact ⟨rfl, HG2.out, HB2.out⟩
set_option maxRecDepth 100000 in
set_option maxHeartbeats 4000000 in
theorem rnew_no (n : Int) (h : n < 1 ∨ 4096 < n) (w : World) : Calls Try.prog 57 #[.int .i64 n] w fun e w' => e = .returned (.tuple #[.pointer none, .int .i64 1]) ∧ w' = w := by
  rcases h with h | h
  · go_enter Try.func57, Try.ntmps57
    go_wp2
    go_ret2
    exact ⟨rfl, rfl⟩
  · have h0 : ¬ n < 1 := by omega
    go_enter Try.func57, Try.ntmps57
    go_wp2
    go_ret2
    exact ⟨rfl, rfl⟩
set_option maxRecDepth 100000 in
set_option maxHeartbeats 4000000 in
theorem rnew_yes (n : Nat) (h1 : 1 ≤ n) (h2 : n ≤ 4096) (w : World) : Calls Try.prog 57 #[.int .i64 n] w fun e w' => e = .returned (.tuple #[.pointer (some ⟨w.heap.size + 1, 0, none⟩), .int .i64 0]) ∧ G w w' ∧ RD w' (fun k => w.heap.size ≤ k ∧ k < w'.heap.size) (w.heap.size + 1) (DM.new n) := by
  have i1 : ¬ (n : Int) < 1 := by omega
  have i2 : ¬ (4096 : Int) < n := by omega
  have HOK := hide (DM.new_ok n h1 h2)
  have HMK : Hid ((Instr.makeSlice 28 (.int .i64 (128 * (n : Int))) (.int .i64 (128 * (n : Int)))).run Try.prog w = .ok (.slice (some ⟨w.heap.size, 0, none⟩) (n * 128) (n * 128)) (w.alloc (.cells ((List.replicate (n * 128) 0).map bv).toArray 5))) := by
    have := run_mk (n * 128) (by omega) w
    rw [show ((n * 128 : Nat) : Int) = 128 * (n : Int) by omega] at this
    exact this
  have hs : (w.alloc (.cells ((List.replicate (n * 128) 0).map bv).toArray 5)).heap.size = w.heap.size + 1 := by simp
  go_enter Try.func57, Try.ntmps57
  go_wp2_with fail
  rw [HMK.out]
  have HG1 := hide ((G.refl w).alloc (.cells ((List.replicate (n * 128) 0).map bv).toArray 5))
  have HB1 := hide (Blk.new w ((List.replicate (n * 128) 0).map bv) 5)
  generalize w.alloc (.cells ((List.replicate (n * 128) 0).map bv).toArray 5) = w1 at HG1 HB1 hs ⊢
  clear HMK
  go_wp2
  go_ret2
  refine ⟨rfl, HG1.out.alloc _, HOK.out, ⟨w.heap.size, .slice none 0 0, ?_, ?_, ⟨⟨[], rfl, World.ownsRow_nil _ _ _ _, fun i e d h => by simp [DM.new] at h⟩, fun g hg => by simp [Value.ownBlock] at hg⟩, ⟨Nat.le_refl _, by simp; omega⟩⟩, by omega, by simp; omega⟩
  · have := Blk.new w1 (rheadC (DM.new n) (.slice (some ⟨w.heap.size, 0, none⟩) (n * 128) (n * 128)) (.slice none 0 0)) 98
    rw [hs] at this
    exact this
  · exact HB1.out.G ((G.refl _).alloc _)
set_option maxRecDepth 100000 in
set_option maxHeartbeats 4000000 in
theorem rload_no (v : Value) (xs : List Nat) (hl : xs.length ≤ 1073741824) (h : loadsB xs = false) (w : World) (hb : Bytes w v xs) : Calls Try.prog 55 #[v] w fun e w' => e = .returned (.tuple #[.pointer none, .int .i64 22]) ∧ w' = w := by
  obtain ⟨ba, cap, rfl, _, _⟩ := hb
  unfold loadsB at h
  obtain ⟨z, hz⟩ : ∃ z, z = xs.length / 128 := ⟨_, rfl⟩
  have i3 : (xs.length : Int) / 128 = (z : Int) := by omega
  have i4 : (xs.length : Int).tdiv 128 = (z : Int) := by rw [Int.tdiv_eq_ediv_of_nonneg (by omega)]; exact i3
  rw [← hz] at h
  by_cases h1 : xs.length % 128 = 0
  · have i1 : (xs.length : Int) % 128 = 0 := by omega
    have i2 : (xs.length : Int).tmod 128 = 0 := by rw [Int.tmod_eq_emod_of_nonneg (by omega)]; exact i1
    by_cases c1 : 1 ≤ z
    · by_cases c2 : z ≤ 4096
      · simp [h1, c1, c2] at h
      · have j1 : ¬ (z : Int) < 1 := by omega
        have j2 : (4096 : Int) < z := by omega
        clear h c1 c2 h1 hz
        go_enter Try.func55, Try.ntmps55
        go_wp2
        go_ret2
        exact ⟨rfl, rfl⟩
    · have j1 : (z : Int) < 1 := by omega
      clear h c1 h1 hz
      go_enter Try.func55, Try.ntmps55
      go_wp2
      go_ret2
      exact ⟨rfl, rfl⟩
  · have i1 : ¬ (xs.length : Int) % 128 = 0 := by omega
    clear h hz
    go_enter Try.func55, Try.ntmps55
    go_wp2
    go_ret2
    exact ⟨rfl, rfl⟩
set_option maxRecDepth 100000 in
set_option maxHeartbeats 4000000 in
theorem rload_yes (v : Value) (xs : List Nat) (h : loadsB xs = true) (hxb : ∀ x ∈ xs, x < 256) (w : World) (hb : Bytes w v xs) : Calls Try.prog 55 #[v] w fun e w' => ∃ p, e = .returned (.tuple #[.pointer (some ⟨p, 0, none⟩), .int .i64 0]) ∧ G w w' ∧ RD w' (fun k => w.heap.size ≤ k ∧ k < w'.heap.size) p (DM.load xs) := by
  unfold loadsB at h
  simp only [Bool.and_eq_true, beq_iff_eq, decide_eq_true_eq] at h
  obtain ⟨⟨h1, h2⟩, h3⟩ := h
  obtain ⟨n, hn⟩ : ∃ n, n = xs.length / 128 := ⟨_, rfl⟩
  have hll : xs.length = n * 128 := by omega
  have hn1 : 1 ≤ n := by omega
  have hn2 : n ≤ 4096 := by omega
  have HDM : Hid (DM.load xs = ⟨n, xs, [], false, none, 0, 0⟩) := by unfold Hid DM.load; rw [← hn]
  have HSA := hide (same_any v xs (by omega) w hb)
  obtain ⟨ba, cap, rfl, _, _⟩ := hb
  have HXB := hide hxb
  have i1 : (xs.length : Int) % 128 = 0 := by omega
  have i3 : (xs.length : Int) / 128 = (n : Int) := by omega
  have i4 : (xs.length : Int).tdiv 128 = (n : Int) := by rw [Int.tdiv_eq_ediv_of_nonneg (by omega)]; exact i3
  have i2 : (xs.length : Int).tmod 128 = 0 := by rw [Int.tmod_eq_emod_of_nonneg (by omega)]; exact i1
  have j1 : ¬ (n : Int) < 1 := by omega
  have j2 : ¬ (4096 : Int) < n := by omega
  have HLL := hide hll
  clear h1 h2 h3 hn hxb hll
  go_enter Try.func55, Try.ntmps55
  go_wp2_with fail
  refine HSA.out.mono ?_
  rintro e w1 ⟨rfl, hg, hbk⟩
  have HG := hide hg
  have HB := hide hbk
  clear hg hbk HSA i1 i2 i3 i4
  go_wp2
  go_ret2
  rw [HDM.out]
  refine ⟨w1.heap.size, rfl, HG.out.alloc _, ⟨hn1, hn2, HLL.out, HXB.out, fun e he => by simp at he, fun _ => rfl, fun k hk => by simp at hk⟩, ⟨w.heap.size, .slice none 0 0, ?_, HB.out.G ((G.refl _).alloc _), ⟨⟨[], rfl, World.ownsRow_nil _ _ _ _, fun i e d h => by simp at h⟩, fun g hg => by simp [Value.ownBlock] at hg⟩, ⟨Nat.le_refl _, by have := HB.out.lt; simp; omega⟩⟩, HG.out.size, by simp⟩
  have := Blk.new w1 (rheadC ⟨n, xs, [], false, none, 0, 0⟩ (.slice (some ⟨w.heap.size, 0, none⟩) xs.length xs.length) (.slice none 0 0)) 98
  simp only
  rw [← HLL.out]
  exact this
set_option maxRecDepth 100000 in
set_option maxHeartbeats 4000000 in
theorem rsectors_any (F : Nat → Prop) (m : DM) (p : Nat) (w : World) (h : RD w F p m) : Calls Try.prog 52 #[.pointer (some ⟨p, 0, none⟩)] w fun e w' => e = .returned (.int .i64 m.n) ∧ w' = w := by
  obtain ⟨ok, ⟨lb, ps, hb, _⟩, _⟩ := h
  have hc := hb.rheadC
  have h2 := ok.n2
  clear hb ok
  obtain ⟨z, hz⟩ : ∃ z, z = m.n * 128 := ⟨_, rfl⟩
  rw [← hz] at hc
  have i3 : (z : Int) / 128 = (m.n : Int) := by omega
  have i4 : (z : Int).tdiv 128 = (m.n : Int) := by rw [Int.tdiv_eq_ediv_of_nonneg (by omega)]; exact i3
  have hzl : z ≤ 524288 := by omega
  clear hz
  go_enter Try.func52, Try.ntmps52
  go_wp2
  go_ret
  exact ⟨rfl, rfl⟩
set_option maxRecDepth 100000 in
set_option maxHeartbeats 4000000 in
theorem rsectors_nil (w : World) : Calls Try.prog 52 #[.pointer none] w fun e w' => e = .returned (.int .i64 0) ∧ w' = w := by
  go_enter Try.func52, Try.ntmps52
  go_wp2
  go_ret
  exact ⟨rfl, rfl⟩
theorem RD.head {w w' : World} {F : Nat → Prop} {p : Nat} {m m' : DM} {lb : Nat} {ps : Value} (h : RD w F p m) (hb : Blk w p 98 (Go.Proofs.Ytbjbphhcmmaaoaa.rheadC m (.slice (some ⟨lb, 0, none⟩) (m.n * 128) (m.n * 128)) ps)) (k : Chg (fun k => k = p) w w') (hb' : Blk w' p 98 (Go.Proofs.Ytbjbphhcmmaaoaa.rheadC m' (.slice (some ⟨lb, 0, none⟩) (m.n * 128) (m.n * 128)) ps)) (hok : m'.ok) (h1 : m'.n = m.n) (h2 : m'.laid = m.laid) (h3 : m'.pend = m.pend) : RD w' F p m' := by
  obtain ⟨ok, ⟨lb', ps', q1, q2, q3, q4⟩, f⟩ := h
  have := (q1.type hb).2
  simp [Go.Proofs.Ytbjbphhcmmaaoaa.rheadC] at this
  obtain ⟨rfl, rfl⟩ := this
  refine ⟨hok, ⟨lb', ps', ?_, ?_, ?_, q4⟩, f⟩
  · rw [h1]; exact hb'
  · rw [h2]; exact q2.chg k (fun e => by subst e; exact absurd (q2.type q1).1 (by decide))
  · rw [h3]
    obtain ⟨⟨ds, r1, r2, r3⟩, r4⟩ := q3
    exact ⟨⟨ds, r1, own_chg r2 k (fun g hg e => by subst e; exact own_ne r2 q1 (by decide) hg), fun i e d hi hd => ⟨(r3 i e d hi hd).1.chg k (fun e' => (r3 i e d hi hd).1.ne q1 (by decide) e'), (r3 i e d hi hd).2⟩⟩, r4⟩
set_option maxRecDepth 100000 in
set_option maxHeartbeats 4000000 in
theorem rop_any (F : Nat → Prop) (m : DM) (p : Nat) (hoff : m.off = false) (w : World) (h : RD w F p m) : Calls Try.prog 58 #[.pointer (some ⟨p, 0, none⟩)] w fun e w' => e = .returned (.bool m.spent.2) ∧ RD w' F p m.spent.1 ∧ Chg (fun k => k = p) w w' ∧ w'.heap.size = w.heap.size := by
  have HP := hide h
  obtain ⟨ok, ⟨lb, ps, hb, _⟩, _⟩ := h
  have HSO := hide (spent_ok ok)
  have HSS := hide (spent_same m)
  have hf := ok.f
  have HB := hide hb
  have hc := hb.rheadC
  have hz := hb.frozen
  clear hb ok
  cases hfu : m.fuse with
  | none =>
    have hr : rfuse m = -1 := by unfold rfuse; rw [hoff, hfu]; rfl
    have HS : Hid (m.spent = (m, true)) := by unfold Hid DM.spent; rw [hoff, hfu]; rfl
    rw [hr] at hc
    clear hr hf
    go_enter Try.func58, Try.ntmps58
    go_wp2
    go_ret
    rw [HS.out]
    exact ⟨rfl, HP.out, Chg.refl _ _, rfl⟩
  | some k =>
    have hk := hf k hfu
    cases k with
    | zero =>
      have hr : rfuse m = 0 := by unfold rfuse; rw [hoff, hfu]; rfl
      have HS : Hid (m.spent = ({ m with off := true, fuse := none }, false)) := by unfold Hid DM.spent; rw [hoff, hfu]; rfl
      have HRF := hide hr
      rw [hr] at hc
      clear hr hf hk
      go_enter Try.func58, Try.ntmps58
      go_wp2
      go_ret
      refine ⟨by rw [HS.out]; rfl, HP.out.head HB.out (chg1 _ _ _ _) ?_ HSO.out HSS.out.1 HSS.out.2.1 HSS.out.2.2.1, chg1 _ _ _ _, by simp⟩
      rw [HS.out]
      have := HB.out.set 3 (.bool true)
      simp only [rheadC, List.set_cons_succ, List.set_cons_zero, HRF.out] at this
      exact this
    | succ k =>
      have hr : rfuse m = ((k + 1 : Nat) : Int) := by unfold rfuse; rw [hoff, hfu]; rfl
      have HS : Hid (m.spent = ({ m with fuse := some k }, true)) := by unfold Hid DM.spent; rw [hoff, hfu]; rfl
      have HRF := hide hr
      obtain ⟨z, hz1⟩ : ∃ z : Int, z = ((k + 1 : Nat) : Int) := ⟨_, rfl⟩
      rw [hr, ← hz1] at hc
      have h1 : 1 ≤ z := by omega
      have h2 : z ≤ 9223372036854775807 := by omega
      have HZ := hide hz1
      clear hr hf hk hz1
      go_enter Try.func58, Try.ntmps58
      go_wp2
      go_ret
      refine ⟨by rw [HS.out]; rfl, HP.out.head HB.out (chg1 _ _ _ _) ?_ HSO.out HSS.out.1 HSS.out.2.1 HSS.out.2.2.1, chg1 _ _ _ _, by simp⟩
      rw [HS.out]
      have := HB.out.set 2 (I (z - 1))
      have hq : rfuse ({ m with fuse := some k } : DM) = z - 1 := by
        unfold rfuse
        simp only [hoff]
        have := HZ.out
        simp; omega
      unfold rheadC at this ⊢
      rw [hq]
      exact this
set_option maxRecDepth 100000 in
set_option maxHeartbeats 4000000 in
theorem rcut_any (F : Nat → Prop) (m : DM) (p : Nat) (n : Int) (hn : n ≤ 9223372036854775807) (w : World) (h : RD w F p m) : Calls Try.prog 48 #[.pointer (some ⟨p, 0, none⟩), .int .i64 n] w fun e w' => e = .returned (.int .i64 (m.cut n).2) ∧ RD w' F p (m.cut n).1 ∧ Chg F w w' ∧ w'.heap.size = w.heap.size := by
  have HP := hide h
  obtain ⟨ok, ⟨lb, ps, hb, _⟩, hf⟩ := h
  have HB := hide hb
  have HF := hide hf
  have HO := hide ok
  have hc := hb.rheadC
  have hz := hb.frozen
  clear hb ok hf
  by_cases h0 : n < 0
  · have e1 : m.cut n = (m, 1) := by simp [DM.cut, h0]
    rw [e1]
    clear e1
    go_enter Try.func48, Try.ntmps48
    go_wp2
    go_ret
    exact ⟨rfl, HP.out, Chg.refl _ _, rfl⟩
  · cases ho : m.off with
    | true =>
      have e1 : m.cut n = (m, 2) := by simp [DM.cut, h0, ho]
      rw [e1]
      clear e1
      rw [ho] at hc
      go_enter Try.func48, Try.ntmps48
      go_wp2
      go_ret
      exact ⟨rfl, HP.out, Chg.refl _ _, rfl⟩
    | false =>
      have e1 : m.cut n = ({ m with fuse := some n.toNat }, 0) := by simp [DM.cut, h0, ho]
      rw [e1]
      clear e1
      have HO1 := hide ho
      rw [ho] at hc
      clear ho
      go_enter Try.func48, Try.ntmps48
      go_wp2
      go_ret
      refine ⟨rfl, HP.out.head HB.out (chg1 _ _ _ _) ?_ ?_ rfl rfl rfl, (chg1 _ _ _ _).mono (fun k e => by subst e; exact HF.out), by simp⟩
      · have := HB.out.set 2 (.int .i64 n)
        have hq : rfuse ({ m with fuse := some n.toNat } : DM) = n := by
          unfold rfuse
          simp only [HO1.out]
          simp; omega
        unfold rheadC at this ⊢
        rw [hq]
        exact this
      · have q := HO.out
        exact ⟨q.n1, q.n2, q.ll, q.lb, q.p, fun e => absurd (HO1.out.symm.trans e) (by decide), fun k e => by have : n.toNat = k := Option.some.inj e; omega⟩
set_option maxRecDepth 100000 in
set_option maxHeartbeats 4000000 in
theorem rcut_nil (n : Int) (w : World) : Calls Try.prog 48 #[.pointer none, .int .i64 n] w fun e w' => e = .returned (.int .i64 1) ∧ w' = w := by
  go_enter Try.func48, Try.ntmps48
  go_wp2
  go_ret
  exact ⟨rfl, rfl⟩
end Go.Proofs.Ytbjbphhcmmaaoaa
