/- Wire: rows above 2^47 bytes. -/
import Derived.Test.YtnjeingpjoadjaaW4
import Derived.Deep.DeepAppendWide
namespace Go.Proofs.Ytnjeingpjoadjaa
open Go.RowKit

theorem Sw.rowAt {α : Type} {E : Enc α} {ty : TypeId} {w : World} {v : Value} {l : List α} {B : Nat} (h : Sw E ty w v l) (hf : ∀ k, v.ownBlock = some k → B ≤ k) : w.ownsRow B ty E.s v l.length (E.fl l) := by
  refine ⟨E.len l, ?_⟩
  rcases h with ⟨rfl, rfl⟩ | ⟨g, cap, rest, rfl, hb, hl, hc, hm⟩
  · exact .inl ⟨rfl, rfl⟩
  · refine .inr ⟨g, cap, (E.fl l ++ rest).toArray, rfl, hf g rfl, hb.h, hc, hm, ?_, ?_⟩
    · simp [E.len]; omega
    · simp [← E.len]
theorem grow_Bw {W w : World} {v x : Value} {l ns : List Nat} (tr : TypeId) (h : SwB w v l) (hx : Rb w x ns) (hg : G W w) (hf : Fresh W v) (hb : l.length + ns.length ≤ 200000000000000) :
    ∃ v' w', (Builtin.append_ #[22, 22] tr #[v, x]).run Try.prog w = .ok v' w' ∧ SwB w' v' (l ++ ns) ∧ G W w' ∧ Fresh W v' := by
  obtain ⟨i, hi, h0, h1, h2⟩ := info_B
  obtain ⟨p, cap, rfl, hc, hn, hr⟩ := hx
  cases p with
  | none =>
    have h0 : ns = [] := by
      cases ns with
      | nil => rfl
      | cons y r => obtain ⟨g, o, cs, q, _⟩ := hr 0 y rfl; cases q
    subst h0
    have := hn rfl
    subst this
    exact ⟨v, w, run_append_owned_none (P := Try.prog) w 0 22 tr 5 i 1 Try.underlying22 hi v l.length (eB.fl l) h.row, by simpa using h, hg, hf⟩
  | some a =>
    have hcells : ∀ j u, (eB.fl ns)[j]? = some u → w.cell? (a.add j) = some u := fun j u hj => by
      have hjl := (List.getElem?_eq_some_iff.1 hj).1
      rw [eB.len] at hjl
      cases ns with
      | nil => simp at hjl
      | cons y r =>
        obtain ⟨g, o, cs, q, _⟩ := hr 0 y rfl
        cases q
        exact Row.cells (cap := cap) (by decide) ⟨_, cap, rfl, hc, hn, hr⟩ j u hj
    have hm : (200000000000000 : Nat) ≤ maxLen := of_decide_eq_true (by kernel_rfl)
    obtain ⟨v', w', hrr, q2, q3, _⟩ := run_append_own_wide (P := Try.prog) w W.heap.size 22 tr 5 i _ 1 1 Try.underlying22 hi h0 h1 h2 rfl (by decide) v l.length (eB.fl l) (h.rowAt hf) a ns.length cap (eB.fl ns) (eB.len ns) hcells (eB.ones ns) (Nat.le_trans hb hm) (by omega) hg.size
    rw [← eB.app] at q2
    refine ⟨v', w', hrr, Sw.of_row (b := W.heap.size) q2 (by simp), ?_, ?_⟩
    · exact ⟨q3.os.trans hg.os, q3.tape.trans hg.tape, q3.output.trans hg.output, Nat.le_trans hg.size q3.size, fun k hk => (q3.block k (Nat.lt_of_lt_of_le hk hg.size) (fun e => by have := hf k e.symm; omega)).trans (hg.block k hk)⟩
    · intro k hk
      rcases q2.2 with ⟨rfl, _⟩ | ⟨g, c2, cur, rfl, hbg, _⟩
      · simp [Value.ownBlock] at hk
      · simp [Value.ownBlock] at hk; omega
theorem mk_Bw (W : World) (c : Nat) (z : Int) (hz : z = (c : Int)) (hc : c ≤ 200000000000000) : ∃ w', (Instr.makeSlice 22 (.int .i64 0) (.int .i64 z)).run Try.prog W = .ok (.slice (some ⟨W.heap.size, 0, none⟩) 0 c) w' ∧ SwB w' (.slice (some ⟨W.heap.size, 0, none⟩) 0 c) [] ∧ G W w' ∧ Fresh W (.slice (some ⟨W.heap.size, 0, none⟩) 0 c) := by
  subst hz
  obtain ⟨i, hi, h0, h1, h2⟩ := info_B
  have hm : (200000000000000 : Nat) ≤ maxLen := of_decide_eq_true (by kernel_rfl)
  obtain ⟨w', q1, q2, q3⟩ := run_make_own (P := Try.prog) W 0 22 5 i _ 1 Try.underlying22 hi h0 h1 .i64 .i64 c (by rw [h2]; omega) (by omega) (Nat.zero_le _)
  exact ⟨w', q1, Sw.of_row (E := eB) (b := 0) (n := 0) (by simpa [Enc.fl] using q2) rfl, ⟨q3.os, q3.tape, q3.output, q3.size, fun k hk => q3.block k hk (by simp)⟩, fun k e => by simp [Value.ownBlock] at e; omega⟩
set_option maxRecDepth 100000 in
set_option maxHeartbeats 1000000 in
theorem frame_w (k : Int) (b : List Nat) (v : Value) (W : World) (h : Rb W v b) (hb : By b) (hn : b.length ≤ 200000000000000) :
    Calls Try.prog 6 #[I k, v] W (FrP k b W) := by
  obtain ⟨p, cap, rfl⟩ := h.form
  by_cases c1 : k < 1
  · have HC : Hid (frC k b.length = 162) := by show _ = _; unfold frC; rw [if_pos (.inl c1)]
    have d1 := decide_eq_true c1
    have HF := hide (FrP.bad k b W 162 HC.out (by decide))
    clear h hb hn HC
    go_enter Try.func6, Try.ntmps6
    go_wp2_with fail
    go_ret2
    exact HF.out
  · have d1 := decide_eq_false c1
    by_cases c2 : 255 < k
    · have HC : Hid (frC k b.length = 162) := by show _ = _; unfold frC; rw [if_pos (.inr c2)]
      have d2 := decide_eq_true c2
      have HF := hide (FrP.bad k b W 162 HC.out (by decide))
      clear h hb hn HC
      go_enter Try.func6, Try.ntmps6
      go_wp2_with fail
      go_ret2
      exact HF.out
    · have d2 := decide_eq_false c2
      by_cases c3 : 2097152 < b.length
      · have HC : Hid (frC k b.length = 163) := by show _ = _; unfold frC; rw [if_neg (by omega), if_pos c3]
        have i3 : (2097152 : Int) < (b.length : Int) := by omega
        have HF := hide (FrP.bad k b W 163 HC.out (by decide))
        clear h hb hn HC c3
        go_enter Try.func6, Try.ntmps6
        go_wp2_with fail
        go_ret2
        exact HF.out
      · have HC : Hid (frC k b.length = 0) := by show _ = _; unfold frC; rw [if_neg (by omega), if_neg c3]
        have i3 : ¬ (2097152 : Int) < (b.length : Int) := by omega
        obtain ⟨kn, rfl⟩ : ∃ kn : Nat, k = kn := ⟨k.toNat, by omega⟩
        have hkb : kn < 256 := by omega
        have u1 : (kn : Int) % 256 = (kn : Int) := by omega
        have KF := hide (framed_any kn b _ W h hb hkb (by omega))
        have HL : Hid (frL (kn : Int) b = frB kn b) := by show _ = _; unfold frL; rw [if_pos HC.out]; rfl
        clear h hb hn c3 hkb
        go_enter Try.func6, Try.ntmps6
        go_wp2_with fail
        refine KF.out.mono ?_
        rintro e w1 ⟨v', rfl, hs, hg, hf⟩
        have HR := hide (And.intro hs (And.intro hg hf))
        clear hs hg hf KF
        go_wp2_with fail
        go_ret2
        exact ⟨_, by rw [HC.out]; rfl, by rw [HL.out]; exact HR.out.1, HR.out.2.1, HR.out.2.2⟩
set_option maxRecDepth 100000 in
set_option maxHeartbeats 1000000 in
theorem rframe_w (k : Int) (b : List Nat) (v : Value) (W : World) (h : Rb W v b) (hb : By b) (hn : b.length ≤ 200000000000000) :
    Calls Try.prog 7 #[I k, v] W (FrP k b W) := by
  obtain ⟨p, cap, rfl⟩ := h.form
  by_cases c1 : k < 1
  · have HC : Hid (frC k b.length = 162) := by show _ = _; unfold frC; rw [if_pos (.inl c1)]
    have d1 := decide_eq_true c1
    have HF := hide (FrP.bad k b W 162 HC.out (by decide))
    clear h hb hn HC
    go_enter Try.func7, Try.ntmps7
    go_wp2_with fail
    go_ret2
    exact HF.out
  · have d1 := decide_eq_false c1
    by_cases c2 : 255 < k
    · have HC : Hid (frC k b.length = 162) := by show _ = _; unfold frC; rw [if_pos (.inr c2)]
      have d2 := decide_eq_true c2
      have HF := hide (FrP.bad k b W 162 HC.out (by decide))
      clear h hb hn HC
      go_enter Try.func7, Try.ntmps7
      go_wp2_with fail
      go_ret2
      exact HF.out
    · have d2 := decide_eq_false c2
      by_cases c3 : 2097152 < b.length
      · have HC : Hid (frC k b.length = 163) := by show _ = _; unfold frC; rw [if_neg (by omega), if_pos c3]
        have i3 : (2097152 : Int) < (b.length : Int) := by omega
        have HF := hide (FrP.bad k b W 163 HC.out (by decide))
        clear h hb hn HC c3
        go_enter Try.func7, Try.ntmps7
        go_wp2_with fail
        go_ret2
        exact HF.out
      · have HC : Hid (frC k b.length = 0) := by show _ = _; unfold frC; rw [if_neg (by omega), if_neg c3]
        have i3 : ¬ (2097152 : Int) < (b.length : Int) := by omega
        obtain ⟨kn, rfl⟩ : ∃ kn : Nat, k = kn := ⟨k.toNat, by omega⟩
        have hkb : kn < 256 := by omega
        have u1 : (kn : Int) % 256 = (kn : Int) := by omega
        have hA1 := (G.refl W).alloc (.cells (eB.fl (hd6 kn b.length)).toArray 5)
        have hs1 := Sw.lit (E := eB) (ty := 5) W (hd6 kn b.length) (of_decide_eq_true (by kernel_rfl))
        have hf1 : Fresh W (.slice (some ⟨W.heap.size, 0, none⟩) 6 6) := Fresh.new W 6 6 (G.refl W)
        have hrow := (Row.sub (hs1.toRow) 2 4 (by simp [hd6]))
        have KH := hide (rhead_any _ _ _ hrow (fun x hx => hd6_by kn _ hkb (by omega) x (List.mem_of_mem_drop (List.mem_of_mem_take hx))) (by simp [hd6]))
        have HS := hide (And.intro hs1 (And.intro hA1 hf1))
        have HL : Hid (frL (kn : Int) b = frB kn b) := by show _ = _; unfold frL; rw [if_pos HC.out]; rfl
        have HH := hide h
        have HB := hide hb
        have HK := hide hkb
        have HN : Hid (b.length ≤ 2097152) := by show _ ≤ _; omega
        have q1 : ¬ (b.length : Int) < 0 := by omega
        obtain ⟨n, hnn⟩ : ∃ n, n = b.length := ⟨_, rfl⟩
        rw [← hnn] at KH HS HN q1 i3 ⊢
        have HNN := hide hnn
        have e3 : ((n : Int).tdiv 65536) % 256 = ((n / 65536 : Nat) : Int) := by rw [Int.tdiv_eq_ediv_of_nonneg (by omega)]; have := HN.out; omega
        have e4 : (((n : Int).tdiv 256).tmod 256) % 256 = ((n / 256 % 256 : Nat) : Int) := by rw [Int.tdiv_eq_ediv_of_nonneg (by omega), Int.tmod_eq_emod_of_nonneg (by omega)]; omega
        have e5 : ((n : Int).tmod 256) % 256 = ((n % 256 : Nat) : Int) := by rw [Int.tmod_eq_emod_of_nonneg (by omega)]; omega
        have HE := hide (And.intro e3 (And.intro e4 e5))
        clear h hb hn c3 hkb hA1 hs1 hf1 hrow hnn q1 e3 e4 e5
        go_enter Try.func7, Try.ntmps7
        go_wp2_with fail
        refine KH.out.mono ?_
        rintro e w2 ⟨rfl, hg2⟩
        obtain ⟨hs1, hg1, hf1⟩ := HS.out
        have hs2 := hs1.G hg2
        have hgg := hg1.trans hg2
        have et : ((hd6 kn n).drop 2).take 4 = (hd6 kn n).drop 2 := rfl
        rw [et]
        have hA3 := (G.refl w2).alloc (.cells (eB.fl [(sumF 255 (0, 0) ((hd6 kn n).drop 2)).2, (sumF 255 (0, 0) ((hd6 kn n).drop 2)).1]).toArray 5)
        obtain ⟨v5, w5, hr5, hs5, hg5, hf5⟩ := grow_Bw 22 (hs2.G hA3) (Row.lit w2 5 [(sumF 255 (0, 0) ((hd6 kn n).drop 2)).2, (sumF 255 (0, 0) ((hd6 kn n).drop 2)).1] 2 (by simp)) (hgg.trans hA3) hf1 (by simp [hd6])
        have hs5' : SwB w5 v5 (hd8 kn n) := hs5
        have hnl := HNN.out
        have hhn := HN.out
        obtain ⟨v6, w6, hr6, hs6, hg6, hf6⟩ := grow_Bw 22 hs5' (HH.out.G hg5) hg5 hf5 (by rw [hd8_len, ← hnl]; omega)
        have hby : By (hd8 kn n ++ b) := (hd8_by kn n HK.out hhn).app HB.out
        have hl6 : (hd8 kn n ++ b).length = n + 8 := by rw [List.length_append, hd8_len, ← hnl]; omega
        obtain ⟨g6, c6, e6⟩ := hs6.slice (by omega)
        rw [hl6] at e6
        have hc6 : n + 8 ≤ c6 := by
          rw [e6] at hs6
          obtain ⟨-, rest, -, -, q, -⟩ := hs6.open
          omega
        have hrow6 := hs6.toRow
        rw [e6] at hrow6 hr6
        have hrow6' := Row.sub hrow6 2 (n + 6) (by omega)
        have ed : ((hd8 kn n ++ b).drop 2).take (n + 6) = (hd8 kn n ++ b).drop 2 := List.take_of_length_le (by rw [List.length_drop]; omega)
        rw [ed] at hrow6'
        have KH2 := hide (rwhole_any _ _ w6 hrow6' (fun x hx => hby x (List.mem_of_mem_drop hx)) (by rw [List.length_drop, hl6]; omega))
        have HS6 := hide (And.intro hs6 (And.intro hg6 hf6))
        have HR5 := hide hr5
        have HR6 := hide hr6
        rw [← hnl] at HR6
        have n6 : ¬ c6 = 2 := by omega
        have n7 : 2 ≤ c6 := by omega
        clear hg2 et hs1 hg1 hf1 hs2 hgg hA3 hr5 hs5 hg5 hf5 hs5' hnl hhn hr6 hs6 hg6 hf6 hby HS KH HH hrow6 hrow6' ed hc6
        generalize sumF 255 (0, 0) ((hd6 kn n).drop 2) = sh at HR5 ⊢
        have HE6 := hide e6
        clear e6
        go_wp2_with (first | (at_builtin; refine wpList_append_run rfl _ _ 22 rfl (.slice (some ⟨W.heap.size, 0, none⟩) 6 6) (.slice (some ⟨w2.heap.size, 0, none⟩) 2 2) rfl rfl HR5.out ?_) | (at_builtin; refine wpList_append_run rfl _ _ 22 rfl v5 (.slice p n cap) rfl rfl HR6.out ?_) | fail)
        refine KH2.out.mono ?_
        rintro e w7 ⟨rfl, hg7⟩
        obtain ⟨hs6, hg6, hf6⟩ := HS6.out
        have hA8 := (G.refl w7).alloc (.cells (eB.fl (tl4 (hd8 kn n ++ b))).toArray 5)
        obtain ⟨v9, w9, hr9, hs9, hg9, hf9⟩ := grow_Bw 22 (hs6.G (hg7.trans hA8)) (Row.lit w7 5 (tl4 (hd8 kn n ++ b)) 4 (by simp [tl4])) (hg6.trans (hg7.trans hA8)) hf6 (by simp only [tl4, List.length_cons, List.length_nil]; have := HN.out; omega)
        rw [HE6.out] at hr9
        have HF : Hid (∃ u, v9 = u ∧ SwB w9 u (frB kn b) ∧ G W w9 ∧ Fresh W u) := ⟨_, rfl, by rw [frB, ← HNN.out]; exact hs9, hg9, hf9⟩
        obtain ⟨b1, b2⟩ := sumF_lt 65521 (by decide) ((hd8 kn n ++ b).drop 2) (1, 0) (by decide) (by decide)
        unfold tl4 at hr9
        generalize sumF 65521 (1, 0) ((hd8 kn n ++ b).drop 2) = sw at hr9 b1 b2 ⊢
        obtain ⟨x, hx⟩ : ∃ x : Nat, x = sw.2 * 65536 + sw.1 := ⟨_, rfl⟩
        have y1 : sw.2 / 256 = x / 16777216 % 256 := by omega
        have y2 : sw.2 % 256 = x / 65536 % 256 := by omega
        have y3 : sw.1 / 256 = x / 256 % 256 := by omega
        have y4 : sw.1 % 256 = x % 256 := by omega
        rw [y1, y2, y3, y4] at hr9
        rw [← hx]
        have HR9 := hide hr9
        clear hg7 hs6 hg6 hf6 hA8 hr9 hs9 hg9 hf9 HS6 KH2 HR5 HR6 y1 y2 y3 y4 b1 b2 hx
        go_wp2_with (first | (at_builtin; refine wpList_append_run rfl _ _ 22 rfl (.slice (some ⟨g6, 0, none⟩) (n + 8) c6) (.slice (some ⟨w7.heap.size, 0, none⟩) 4 4) rfl rfl HR9.out ?_) | fail)
        go_ret2
        obtain ⟨u, rfl, r1, r2, r3⟩ := HF.out
        exact ⟨_, by rw [HC.out]; rfl, by rw [HL.out]; exact r1, r2, r3⟩
set_option maxRecDepth 100000 in
set_option maxHeartbeats 1000000 in
theorem copy_w (b : List Nat) (v : Value) (W : World) (h : Rb W v b) (hn : b.length ≤ 190000000000000) :
    Calls Try.prog 4 #[v] W fun e W' => ∃ v', e = .returned v' ∧ SwB W' v' b ∧ G W W' ∧ Fresh W v' := by
  obtain ⟨p, cap, rfl⟩ := h.form
  obtain ⟨w1, hmk, hs1, hg1, hf1⟩ := mk_Bw W (b.length + 8) ((b.length : Int) + 8) (by omega) (by omega)
  obtain ⟨v2, w2, hr2, hs2, hg2, hf2⟩ := grow_Bw 22 hs1 (h.G hg1) hg1 hf1 (by simp; omega)
  have HMK := hide hmk
  have HR2 := hide hr2
  have HF : Hid (∃ u, v2 = u ∧ SwB w2 u b ∧ G W w2 ∧ Fresh W u) := ⟨_, rfl, hs2, hg2, hf2⟩
  have e1 : wrap64 ((b.length : Int) + 8) = (b.length : Int) + 8 := by unfold wrap64; omega
  clear h hmk hs1 hg1 hf1 hr2 hs2 hg2 hf2 hn
  go_enter Try.func4, Try.ntmps4
  go_wp2_with fail
  rw [HMK.out]
  go_wp2_with (first | (at_builtin; refine wpList_append_run rfl _ _ 22 rfl (.slice (some ⟨W.heap.size, 0, none⟩) 0 (b.length + 8)) (.slice p b.length cap) rfl rfl HR2.out ?_) | fail)
  go_ret
  obtain ⟨u, rfl, r1, r2, r3⟩ := HF.out
  exact ⟨_, rfl, r1, r2, r3⟩
set_option maxRecDepth 100000 in
set_option maxHeartbeats 1000000 in
theorem room_w (b : List Nat) (v : Value) (W : World) (h : Rb W v b) (hn : b.length ≤ 190000000000000) :
    Calls Try.prog 5 #[v] W fun e W' => ∃ v', e = .returned v' ∧ SwB W' v' (b ++ mks) ∧ G W W' ∧ Fresh W v' := by
  obtain ⟨p, cap, rfl⟩ := h.form
  obtain ⟨w1, hmk, hs1, hg1, hf1⟩ := mk_Bw W (b.length + 8) ((b.length : Int) + 8) (by omega) (by omega)
  obtain ⟨v2, w2, hr2, hs2, hg2, hf2⟩ := grow_Bw 22 hs1 (h.G hg1) hg1 hf1 (by simp; omega)
  have HMK := hide hmk
  have HR2 := hide hr2
  have HF : Hid (SwB w2 v2 b ∧ G W w2 ∧ Fresh W v2) := ⟨hs2, hg2, hf2⟩
  have e1 : wrap64 ((b.length : Int) + 8) = (b.length : Int) + 8 := by unfold wrap64; omega
  have HN := hide hn
  clear h hmk hs1 hg1 hf1 hr2 hs2 hg2 hf2 hn
  go_enter Try.func5, Try.ntmps5
  go_wp2_with fail
  rw [HMK.out]
  go_wp2_with (first | (at_builtin; refine wpList_append_run rfl _ _ 22 rfl (.slice (some ⟨W.heap.size, 0, none⟩) 0 (b.length + 8)) (.slice p b.length cap) rfl rfl HR2.out ?_) | fail)
  go_loopw [3, 4] (fun ov iv wr => ∃ i : Nat, iv = I i ∧ i ≤ 8 ∧ SwB wr ov (b ++ mks.take i) ∧ G W wr ∧ Fresh W ov) (fun _ iv _ => 8 - (RowKit.intOf iv).toNat)
  case atStart => exact ⟨0, rfl, by decide, by simpa using HF.out.1, HF.out.2.1, HF.out.2.2⟩
  case round =>
    obtain ⟨i, rfl, hi, hs, hg, hf⟩ := hrel
    clear HF HMK HR2 e1
    by_cases h8 : i < 8
    · have i1 : (i : Int) < 8 := by omega
      have hA := (G.refl wr).alloc (.cells (eB.fl [200 + i]).toArray 5)
      have hn := HN.out
      obtain ⟨v5, w5, hr5, hs5, hg5, hf5⟩ := grow_Bw 22 (hs.G hA) (Row.lit wr 5 [200 + i] 1 (by simp)) (hg.trans hA) hf (by simp; omega)
      have HR5 := hide hr5
      have e5 : (b ++ mks.take i) ++ [200 + i] = b ++ mks.take (i + 1) := by
        rw [List.append_assoc]
        congr 1
        rcases (by omega : i = 0 ∨ i = 1 ∨ i = 2 ∨ i = 3 ∨ i = 4 ∨ i = 5 ∨ i = 6 ∨ i = 7) with rfl | rfl | rfl | rfl | rfl | rfl | rfl | rfl <;> rfl
      rw [e5] at hs5
      have HF : Hid (∃ u, v5 = u ∧ SwB w5 u (b ++ mks.take (i + 1)) ∧ G W w5 ∧ Fresh W u) := ⟨_, rfl, hs5, hg5, hf5⟩
      have HW : Hid (wrap64 ((i : Int) + 1) = (i : Int) + 1) := by show _ = _; unfold wrap64; omega
      have e1 : wrap64 (200 + (i : Int)) = 200 + (i : Int) := by unfold wrap64; omega
      have e2 : (200 + (i : Int)) % 256 = 200 + (i : Int) := by omega
      have HI := hide h8
      clear hA hn hr5 hs5 hg5 hf5 hs hg hf e5 hi h8
      go_wp2_with (first | (at_builtin; refine wpList_append_run rfl _ _ 22 rfl u3 (.slice (some ⟨wr.heap.size, 0, none⟩) 1 1) rfl rfl HR5.out ?_) | fail)
      try rw [HW.out]
      obtain ⟨u, rfl, r1, r2, r3⟩ := HF.out
      refine ⟨⟨i + 1, rfl, HI.out, r1, r2, r3⟩, ?_⟩
      simp only [RowKit.intOf]; have := HI.out; omega
    · have i1 : ¬ (i : Int) < 8 := by omega
      have e8 : i = 8 := by omega
      rw [e8] at hs
      have HF := hide (And.intro hs (And.intro hg hf))
      clear hs hg hf hi h8 e8
      go_wp2_with fail
      go_ret
      exact ⟨_, rfl, HF.out.1, HF.out.2.1, HF.out.2.2⟩
set_option maxRecDepth 100000 in
set_option maxHeartbeats 1000000 in
theorem bytes_w (l : List Nat) (a b : Value) (W : World) (h : Rb W a l) (k : Rb W b l) (hn : l.length ≤ 200000000000000) :
    Calls Try.prog 8 #[a, b] W fun e W' => e = .returned (.bool true) ∧ G W W' := by
  obtain ⟨p, cap, rfl⟩ := h.form
  obtain ⟨p', cap', rfl⟩ := k.form
  have HS := hide h
  have HS2 := hide k
  have HN := hide hn
  clear h k hn
  go_enter Try.func8, Try.ntmps8
  go_wp2_with fail
  go_loopw [5] (fun iv wr => ∃ i : Nat, iv = I i ∧ i ≤ l.length ∧ G W wr) (fun iv _ => l.length - (RowKit.intOf iv).toNat)
  case atStart => exact ⟨0, rfl, Nat.zero_le _, G.refl _⟩
  case round =>
    obtain ⟨i, rfl, hi, hg⟩ := hrel
    by_cases hil : i < l.length
    · obtain ⟨x, hx⟩ : ∃ x, l[i]? = some x := ⟨_, List.getElem?_eq_getElem hil⟩
      obtain ⟨g, o, c, q⟩ := HS.out.addr (by omega)
      obtain ⟨g', o', c', q'⟩ := HS2.out.addr (by omega)
      injection q with q1 q2 q3
      injection q' with q1' q2' q3'
      subst q1 q1' q3 q3'
      have x1 := Rb.at (HS.out.G hg) hx
      have x2 := Rb.at (HS2.out.G hg) hx
      have i1 : (i : Int) < l.length := Int.ofNat_lt.2 hil
      have HW : Hid (wrap64 ((i : Int) + 1) = (i : Int) + 1) := by show _ = _; have := HN.out; unfold wrap64; omega
      have HIL := hide hil
      have HG := hide hg
      clear hi hil hx hg q2 q2'
      go_wp2_with fail
      go_quiet (fail)
      go_wp2_with fail
      try rw [HW.out]
      refine ⟨⟨i + 1, rfl, HIL.out, HG.out.drewN _⟩, ?_⟩
      simp only [RowKit.intOf]; have := HIL.out; omega
    · have i1 : ¬ ((i : Int) < l.length) := by omega
      have HG := hide hg
      clear hi hil hg
      go_wp2_with fail
      go_ret
      exact ⟨rfl, HG.out⟩
set_option maxRecDepth 100000 in
set_option maxHeartbeats 1000000 in
theorem stays_w (b : List Nat) (f v : Value) (W : World) (h : Rb W f (b ++ mks)) (k : Rb W v b) (hn : b.length ≤ 190000000000000) :
    Calls Try.prog 9 #[f, v] W fun e W' => e = .returned (.bool true) ∧ G W W' := by
  have hl : (b ++ mks).length = b.length + 8 := by simp [mks]
  obtain ⟨g, o, cap, rfl⟩ := h.addr (by omega)
  obtain ⟨p', cap', rfl⟩ := k.form
  have hcap := h.cap.1
  have HB : Hid (Rb W (.slice (some ⟨g, o, none⟩) b.length cap) b) := by
    have := Row.pre h b.length (by omega)
    rw [List.take_left] at this
    exact this
  have KB := hide (fun (w : World) (hg : G W w) => bytes_w b _ _ w (HB.out.G hg) (k.G hg) (by omega))
  have HAT : Hid (∀ i, i < 8 → W.cell? ⟨g, o + (b.length + i), none⟩ = some (bv (200 + i))) := fun i hi => by
    refine Rb.at h ?_
    rw [List.getElem?_append_right (by omega), Nat.add_sub_cancel_left]
    rcases (by omega : i = 0 ∨ i = 1 ∨ i = 2 ∨ i = 3 ∨ i = 4 ∨ i = 5 ∨ i = 6 ∨ i = 7) with rfl | rfl | rfl | rfl | rfl | rfl | rfl | rfl <;> rfl
  obtain ⟨n, hnn⟩ : ∃ n, n = b.length := ⟨_, rfl⟩
  rw [← hnn] at hl KB HAT hn
  rw [hl] at hcap ⊢
  rw [← hnn]
  have HN := hide hn
  have HCAP := hide hcap
  clear h k hn hl hnn HB hcap
  go_enter Try.func9, Try.ntmps9
  go_wp2_with fail
  go_loopw [5] (fun iv wr => ∃ i : Nat, iv = I i ∧ i ≤ 8 ∧ G W wr) (fun iv _ => 8 - (RowKit.intOf iv).toNat)
  case atStart => exact ⟨0, rfl, by decide, G.refl _⟩
  case round =>
    obtain ⟨i, rfl, hi, hg⟩ := hrel
    by_cases h8 : i < 8
    · have i1 : (i : Int) < 8 := by omega
      have x0 := HAT.out i h8
      have x1 : wr.cell? ⟨g, o + (n + i), none⟩ = some (bv (200 + i)) := (hg.cell (cell_lt x0)).trans x0
      have HW : Hid (wrap64 ((i : Int) + 1) = (i : Int) + 1) := by show _ = _; unfold wrap64; omega
      have e1 : wrap64 (200 + (i : Int)) = 200 + (i : Int) := by unfold wrap64; omega
      have e2 : (200 + (i : Int)) % 256 = 200 + (i : Int) := by omega
      have e3 : wrap64 ((n : Int) + (i : Int)) = (n : Int) + (i : Int) := by have := HN.out; unfold wrap64; omega
      have e4 : (n : Int) + (i : Int) < (n : Int) + 8 := by omega
      have e5 : n + i < n + 8 := by omega
      have HI := hide h8
      have HG := hide hg
      clear hi h8 hg x0
      go_wp2_with fail
      try rw [HW.out]
      refine ⟨⟨i + 1, rfl, HI.out, HG.out⟩, ?_⟩
      simp only [RowKit.intOf]; have := HI.out; omega
    · have i1 : ¬ (i : Int) < 8 := by omega
      have KB2 := hide (KB.out wr hg)
      have HG := hide hg
      have c1 : n ≤ cap := by have := HCAP.out; omega
      clear hi h8 hg KB
      go_wp2_with fail
      refine KB2.out.mono ?_
      rintro e w2 ⟨rfl, hg2⟩
      have HG2 := hide hg2
      clear hg2 KB2
      go_wp2_with fail
      go_ret
      exact ⟨rfl, HG.out.trans HG2.out⟩
end Go.Proofs.Ytnjeingpjoadjaa
