/- Wire: a frame's bytes; framed. -/
import Derived.Test.YtnjeingpjoadjaaW1
namespace Go.Proofs.Ytnjeingpjoadjaa
open Go.RowKit

/-- A frame's first six bytes, its first eight, all of it. -/
def hd6 (k n : Nat) : List Nat := [165, 90, k, n / 65536, n / 256 % 256, n % 256]
def hd8 (k n : Nat) : List Nat := hd6 k n ++ [(sumF 255 (0, 0) ((hd6 k n).drop 2)).2, (sumF 255 (0, 0) ((hd6 k n).drop 2)).1]
def tl4 (l : List Nat) : List Nat := [(sumF 65521 (1, 0) (l.drop 2)).2 / 256, (sumF 65521 (1, 0) (l.drop 2)).2 % 256, (sumF 65521 (1, 0) (l.drop 2)).1 / 256, (sumF 65521 (1, 0) (l.drop 2)).1 % 256]
def frB (k : Nat) (b : List Nat) : List Nat := (hd8 k b.length ++ b) ++ tl4 (hd8 k b.length ++ b)
theorem hd6_by (k n : Nat) (hk : k < 256) (hn : n ≤ 2097152) : By (hd6 k n) := fun x hx => by
  simp [hd6] at hx; omega
theorem hd8_by (k n : Nat) (hk : k < 256) (hn : n ≤ 2097152) : By (hd8 k n) := fun x hx => by
  obtain ⟨b1, b2⟩ := sumF_lt 255 (by decide) ((hd6 k n).drop 2) (0, 0) (by decide) (by decide)
  rw [hd8, List.mem_append] at hx
  rcases hx with hx | hx
  · exact hd6_by k n hk hn x hx
  · simp at hx; omega
theorem By.app {a b : List Nat} (h : By a) (k : By b) : By (a ++ b) := fun x hx => (List.mem_append.1 hx).elim (h x) (k x)
theorem tl4_by (l : List Nat) : By (tl4 l) := fun x hx => by
  obtain ⟨b1, b2⟩ := sumF_lt 65521 (by decide) (l.drop 2) (1, 0) (by decide) (by decide)
  simp [tl4] at hx; omega
theorem frB_by (k : Nat) (b : List Nat) (hk : k < 256) (hb : By b) (hn : b.length ≤ 2097152) : By (frB k b) := ((hd8_by k _ hk hn).app hb).app (tl4_by _)
theorem hd8_len (k n : Nat) : (hd8 k n).length = 8 := rfl
theorem frB_len (k : Nat) (b : List Nat) : (frB k b).length = 12 + b.length := by simp [frB, hd8_len, tl4]; omega
theorem mk_B (W : World) (c : Nat) (z : Int) (hz : z = (c : Int)) (hc : c ≤ 140737488355328) : ∃ w', (Instr.makeSlice 22 (.int .i64 0) (.int .i64 z)).run Try.prog W = .ok (.slice (some ⟨W.heap.size, 0, none⟩) 0 c) w' ∧ SwB w' (.slice (some ⟨W.heap.size, 0, none⟩) 0 c) [] ∧ G W w' ∧ Fresh W (.slice (some ⟨W.heap.size, 0, none⟩) 0 c) := by
  subst hz
  obtain ⟨i, hi, h0, h1, h2⟩ := info_B
  have hm : (140737488355328 : Nat) ≤ maxLen := of_decide_eq_true (by kernel_rfl)
  obtain ⟨w', q1, q2, q3⟩ := run_make_own (P := Try.prog) W 0 22 5 i _ 1 Try.underlying22 hi h0 h1 .i64 .i64 c (by rw [h2]; omega) (by omega) (Nat.zero_le _)
  exact ⟨w', q1, Sw.of_row (E := eB) (b := 0) (n := 0) (by simpa [Enc.fl] using q2) rfl, ⟨q3.os, q3.tape, q3.output, q3.size, fun k hk => q3.block k hk (by simp)⟩, fun k e => by simp [Value.ownBlock] at e; omega⟩
set_option maxRecDepth 100000 in
set_option maxHeartbeats 1000000 in
theorem framed_any (k : Nat) (b : List Nat) (v : Value) (W : World) (h : Rb W v b) (hb : By b) (hk : k < 256) (hn : b.length ≤ 2097152) :
    Calls Try.prog 10 #[bv k, v] W fun e W' => ∃ v', e = .returned v' ∧ SwB W' v' (frB k b) ∧ G W W' ∧ Fresh W v' := by
  obtain ⟨p, cap, rfl⟩ := h.form
  obtain ⟨w1, hmk, hs1, hg1, hf1⟩ := mk_B W (b.length + 12) ((b.length : Int) + 12) (by omega) (by omega)
  -- the first six
  have hA1 := (G.refl w1).alloc (.cells (eB.fl (hd6 k b.length)).toArray 5)
  obtain ⟨v2, w2, hr2, hs2, hg2, hf2⟩ := grow_B 22 (hs1.G hA1) (Row.lit w1 5 (hd6 k b.length) 6 (by simp [hd6])) (hg1.trans hA1) hf1 (by simp [hd6])
  have KH := hide (head_any (hd6 k b.length) v2 w2 hs2.toRow (hd6_by k _ hk hn) (by simp [hd6]) (by simp [hd6]))
  have HMK := hide hmk
  have HR2 := hide hr2
  have HS2 := hide (And.intro hs2 (And.intro hg2 hf2))
  have HH := hide h
  have HB := hide hb
  have HK := hide hk
  have HN := hide hn
  obtain ⟨n, hnn⟩ : ∃ n, n = b.length := ⟨_, rfl⟩
  rw [← hnn] at HMK HR2 HS2 KH HN ⊢
  have HNN := hide hnn
  have e1 : wrap64 (8 + (n : Int)) = 8 + (n : Int) := by unfold wrap64; omega
  have e2 : wrap64 (8 + (n : Int) + 4) = ((n + 12 : Nat) : Int) := by unfold wrap64; omega
  have e3 : ((n : Int) / 65536) % 256 = ((n / 65536 : Nat) : Int) := by omega
  have e4 : ((n : Int) / 256) % 256 = ((n / 256 % 256 : Nat) : Int) := by omega
  have e5 : (n : Int) % 256 = ((n % 256 : Nat) : Int) := by omega
  have HE := hide (And.intro e3 (And.intro e4 e5))
  clear h hmk hs1 hg1 hf1 hA1 hr2 hs2 hg2 hf2 hb hk hn hnn e3 e4 e5
  go_enter Try.func10, Try.ntmps10
  go_wp2_with fail
  rw [HMK.out]
  generalize W.heap.size = gw at HR2 HMK
  go_wp2_with (first | (at_builtin; refine Hid.out ?_) | fail)
  unfold Hid
  rw [HE.out.1, HE.out.2.1, HE.out.2.2]
  refine wpList_append_run rfl _ _ 22 rfl (.slice (some ⟨gw, 0, none⟩) 0 (n + 12)) (.slice (some ⟨w1.heap.size, 0, none⟩) 6 6) rfl rfl HR2.out ?_
  clear HR2 HMK HE
  go_wp2_with fail
  refine KH.out.mono ?_
  rintro e w3 ⟨rfl, hg3⟩
  have et : ((hd6 k n).drop 2).take 4 = (hd6 k n).drop 2 := rfl
  rw [et]
  obtain ⟨hs2, hg2, hf2⟩ := HS2.out
  -- the head's sum
  have hA4 := (G.refl w3).alloc (.cells (eB.fl [(sumF 255 (0, 0) ((hd6 k n).drop 2)).2, (sumF 255 (0, 0) ((hd6 k n).drop 2)).1]).toArray 35)
  obtain ⟨v5, w5, hr5, hs5, hg5, hf5⟩ := grow_B 22 (hs2.G (hg3.trans hA4)) (Row.lit w3 35 [(sumF 255 (0, 0) ((hd6 k n).drop 2)).2, (sumF 255 (0, 0) ((hd6 k n).drop 2)).1] 2 (by simp)) (hg2.trans (hg3.trans hA4)) hf2 (by simp [hd6])
  have hs5' : SwB w5 v5 (hd8 k n) := hs5
  have hnl := HNN.out
  have hhn := HN.out
  obtain ⟨v6, w6, hr6, hs6, hg6, hf6⟩ := grow_B 22 hs5' (HH.out.G hg5) hg5 hf5 (by rw [hd8_len, ← hnl]; omega)
  have hby : By (hd8 k n ++ b) := (hd8_by k n HK.out hhn).app HB.out
  have KH2 := hide (whole_any (hd8 k n ++ b) v6 w6 hs6.toRow hby (by rw [List.length_append, hd8_len, ← hnl]; omega) (by rw [List.length_append, hd8_len]; omega))
  have HS6 := hide (And.intro hs6 (And.intro hg6 hf6))
  have HR5 := hide hr5
  have HR6 := hide hr6
  rw [← hnl] at HR6
  have HL6 : Hid ((hd8 k n ++ b).length ≤ 2097160) := by show _ ≤ _; rw [List.length_append, hd8_len, ← hnl]; omega
  clear hg3 et hs2 hg2 hf2 hA4 hr5 hs5 hg5 hf5 hs5' hnl hhn hr6 hs6 hg6 hf6 hby HS2 KH HH
  generalize sumF 255 (0, 0) ((hd6 k n).drop 2) = sh at HR5 ⊢
  have hB := Blk.new w3 [bv 0, bv 0] 35
  have hc := hB.cell
  have hf := hB.frozen
  clear hB
  go_wp2_with (first | (at_builtin; refine wpList_append_run rfl _ _ 22 rfl v2 (.slice (some ⟨w3.heap.size, 0, none⟩) 2 2) rfl rfl HR5.out ?_) | (at_builtin; refine wpList_append_run rfl _ _ 22 rfl v5 (.slice p n cap) rfl rfl HR6.out ?_) | fail)
  refine KH2.out.mono ?_
  rintro e w7 ⟨rfl, hg7⟩
  obtain ⟨hs6, hg6, hf6⟩ := HS6.out
  have hA8 := (G.refl w7).alloc (.cells (eB.fl (tl4 (hd8 k n ++ b))).toArray 37)
  have hl6 := HL6.out
  obtain ⟨v9, w9, hr9, hs9, hg9, hf9⟩ := grow_B 22 (hs6.G (hg7.trans hA8)) (Row.lit w7 37 (tl4 (hd8 k n ++ b)) 4 (by simp [tl4])) (hg6.trans (hg7.trans hA8)) hf6 (by simp only [tl4, List.length_cons, List.length_nil]; omega)
  have HR9 := hide hr9
  have HF : Hid (∃ u, v9 = u ∧ SwB w9 u (frB k b) ∧ G W w9 ∧ Fresh W u) := ⟨_, rfl, by rw [frB, ← HNN.out]; exact hs9, hg9, hf9⟩
  clear hg7 hs6 hg6 hf6 hA8 hl6 hr9 hs9 hg9 hf9 HS6 HL6 KH2 HR5 HR6 hc hf
  unfold tl4 at HR9
  generalize sumF 65521 (1, 0) ((hd8 k n ++ b).drop 2) = sw at HR9 ⊢
  have hB := Blk.new w7 [bv 0, bv 0, bv 0, bv 0] 37
  have hc := hB.cell
  have hf := hB.frozen
  clear hB
  go_wp2_with (first | (at_builtin; refine wpList_append_run rfl _ _ 22 rfl v6 (.slice (some ⟨w7.heap.size, 0, none⟩) 4 4) rfl rfl HR9.out ?_) | fail)
  go_ret
  obtain ⟨u, rfl, r1, r2, r3⟩ := HF.out
  exact ⟨_, rfl, r1, r2, r3⟩
end Go.Proofs.Ytnjeingpjoadjaa
