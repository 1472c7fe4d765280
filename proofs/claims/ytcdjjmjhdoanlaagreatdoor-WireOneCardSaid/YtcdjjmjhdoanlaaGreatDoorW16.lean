/- The document's bits; how many numbers a kind takes. -/
import Derived.Test.YtcdjjmjhdoanlaaGreatDoorW10
import Derived.Lib.ConvBytes
import Derived.Test.YtcdjjmjhdoanlaaGreatDoorW12
namespace Go.Proofs.YtcdjjmjhdoanlaaGreatDoor
section
section
open Go.RowKit

/-- Bytes that were made since W. -/
def NewB (l : List Nat) (W : World) (e : Ending) (W' : World) : Prop := ∃ v', e = .returned v' ∧ SwB W' v' l ∧ G W W' ∧ Fresh W v'
set_option maxRecDepth 100000 in
set_option maxHeartbeats 1000000 in
theorem rcount_any (N : Nat) (W : World) (hN : N < 18446744073709551616) : Calls Tryz.prog 34 #[.int .u64 N] W (NewB (cnt N) W) := by
  have HN := hide hN
  have e1 : ((N % 128 : Nat) : Int) % 256 = ((N % 128 : Nat) : Int) := by omega
  have HS0 : Hid (SwB (W.alloc (.cells #[bv (N % 128)] 5)) (.slice (some ⟨W.heap.size, 0, none⟩) 1 1) [N % 128]) := Sw.lit (E := eB) W [N % 128] (of_decide_eq_true (by kernel_rfl))
  have HG0 := hide ((G.refl W).alloc (.cells #[bv (N % 128)] 5))
  have HF0 := hide (Fresh.new W 1 1 (G.refl W))
  clear hN
  go_enter Tryz.func34, Tryz.ntmps34
  go_wp2_with fail
  go_loopw [0, 3] (fun nv ov wr => ∃ (n : Nat) (Tl : List Nat), nv = .int .u64 n ∧ CwI N (n / 128) Tl ∧ n ≤ N ∧ SwB wr ov Tl ∧ G W wr ∧ Fresh W ov) (fun nv _ _ => (RowKit.intOf nv).toNat)
  case atStart => exact ⟨N, [N % 128], rfl, CwI.start N HN.out, Nat.le_refl _, HS0.out, HG0.out, HF0.out⟩
  case round =>
    obtain ⟨n, Tl, rfl, hI, hn, hs, hg, hf⟩ := hrel
    clear HS0 HG0 HF0 e1
    have hNN := HN.out
    by_cases h0 : 128 ≤ n
    · have i0 : (128 : Int) ≤ (n : Int) := by omega
      have hpos : 0 < n / 128 := by omega
      have hI2 := hI.step hpos
      have hl := hI.len
      have hA := (G.refl wr).alloc (.cells (eB.fl [n / 128 % 128 + 128]).toArray 5)
      have hs1 := Sw.lit (E := eB) (ty := 5) wr [n / 128 % 128 + 128] (of_decide_eq_true (by kernel_rfl))
      obtain ⟨v5, w5, hr5, hs5, hg5, hf5⟩ := grow_B 23 hs1 (hs.G hA).toRow (hg.trans hA) (Fresh.new W 1 1 hg) (by simp; omega)
      have HR5 := hide hr5
      have HF : Hid (∃ u, v5 = u ∧ SwB w5 u ((n / 128 % 128 + 128) :: Tl) ∧ G W w5 ∧ Fresh W u) := ⟨_, rfl, hs5, hg5, hf5⟩
      have HI : Hid (CwI N (n / 128 / 128) ((n / 128 % 128 + 128) :: Tl) ∧ n / 128 ≤ N ∧ n / 128 < n) := ⟨hI2, by omega, by omega⟩
      have e3 := u64_div n (by omega)
      obtain ⟨m, hm⟩ : ∃ m, m = n / 128 := ⟨_, rfl⟩
      have e5 : IntKind.u64.wrap ((n : Int) / 128) = (m : Int) := by rw [e3, hm]
      rw [← hm] at HR5 HF HI
      clear hI hn hs hg hf hI2 hl hA hs1 hr5 hs5 hg5 hf5 hNN h0 hpos e3 hm
      go_wp2_with (first | (at_builtin; refine wpList_append_run rfl _ _ 23 rfl (.slice (some ⟨wr.heap.size, 0, none⟩) 1 1) u3 rfl rfl HR5.out ?_) | fail)
      obtain ⟨u, rfl, r1, r2, r3⟩ := HF.out
      refine ⟨⟨m, _, rfl, HI.out.1, HI.out.2.1, r1, r2, r3⟩, ?_⟩
      simp only [RowKit.intOf]; have := HI.out.2.2; omega
    · have i0 : ¬ (128 : Int) ≤ (n : Int) := by omega
      have h0' : n / 128 = 0 := by omega
      have hT : Tl = cnt N := by have := hI.e; rw [h0', cntH_zero] at this; exact this
      rw [hT] at hs
      have HF := hide (And.intro hs (And.intro hg hf))
      clear hI hn hs hg hf hNN h0 h0' hT
      go_wp2_with fail
      go_ret
      exact ⟨_, rfl, HF.out.1, HF.out.2.1, HF.out.2.2⟩
theorem zig_pos (n : Int) (h : R64 n) (h0 : 0 ≤ n) : IntKind.u64.wrap (IntKind.u64.wrap n * 2) = (zig n : Int) := by
  rw [IntKind.wrap_u64, IntKind.wrap_u64]; unfold zig; rw [if_pos h0]; omega
theorem zig_neg (n : Int) (h : R64 n) (h0 : ¬ 0 ≤ n) : IntKind.u64.wrap (IntKind.u64.wrap (IntKind.u64.wrap (wrap64 (-wrap64 (n + 1))) * 2) + 1) = (zig n : Int) := by
  have e1 : wrap64 (-wrap64 (n + 1)) = -(n + 1) := by
    have : wrap64 (n + 1) = n + 1 := by unfold wrap64; omega
    rw [this]; unfold wrap64; omega
  rw [e1, IntKind.wrap_u64, IntKind.wrap_u64, IntKind.wrap_u64]; unfold zig; rw [if_neg h0]; omega
set_option maxRecDepth 100000 in
set_option maxHeartbeats 1000000 in
theorem rsigned_any (n : Int) (W : World) (hn : R64 n) : Calls Tryz.prog 31 #[I n] W (NewB (cnt (zig n)) W) := by
  have KC := hide (rcount_any (zig n) W (zig_lt n hn))
  by_cases h0 : 0 ≤ n
  · have e1 := zig_pos n hn h0
    have d1 := decide_eq_true h0
    have HE := hide e1
    clear e1 hn h0
    go_enter Tryz.func31, Tryz.ntmps31
    go_wp2_with fail
    rw [HE.out]
    refine KC.out.mono ?_
    rintro e w1 ⟨v', rfl, h1⟩
    have H1 := hide h1
    clear h1 KC
    go_wp2_with fail
    go_ret
    exact ⟨_, rfl, H1.out⟩
  · have HE := hide (zig_neg n hn h0)
    have d1 := decide_eq_false h0
    clear hn h0
    go_enter Tryz.func31, Tryz.ntmps31
    go_wp2_with fail
    trace_state
    rw [HE.out]
    refine KC.out.mono ?_
    rintro e w1 ⟨v', rfl, h1⟩
    have H1 := hide h1
    clear h1 KC
    go_wp2_with fail
    go_ret
    exact ⟨_, rfl, H1.out⟩
end
open Go.RowKit

theorem flat_take {α : Type} (f : α → List Nat) (l : List α) (i : Nat) : ((l.take i).flatMap f).length ≤ (l.flatMap f).length := by
  have : l.flatMap f = (l.take i).flatMap f ++ (l.drop i).flatMap f := by rw [← List.flatMap_append, List.take_append_drop]
  rw [this, List.length_append]; omega
abbrev numB (n : Int) : List Nat := cnt (zig n)
set_option maxRecDepth 100000 in
set_option maxHeartbeats 1000000 in
theorem rnums_any (l : List (Int)) (v : Value) (W : World) (h : Row eI.rel W v l) (hq : ∀ x ∈ l, R64 x) (hb : (l.flatMap numB).length ≤ 2000000000000) (hn : l.length ≤ 2000000000000) :
    Calls Tryz.prog 32 #[v] W (NewB (cnt l.length ++ l.flatMap numB) W) := by
  obtain ⟨p, cap, rfl⟩ := h.form
  have KC := hide (rcount_any l.length W (by omega))
  have HS := hide h
  have HQ := hide hq
  have HB := hide hb
  have HN := hide hn
  clear h hq hb
  go_enter Tryz.func32, Tryz.ntmps32
  go_wp2_with fail
  refine KC.out.mono ?_
  rintro e w1 ⟨v1, rfl, hs1, hg1, hf1⟩
  have H1 := hide (And.intro hs1 (And.intro hg1 hf1))
  clear hs1 hg1 hf1 KC
  go_wp2_with fail
  go_loopw [3, 4] (fun ov iv wr => ∃ i : Nat, iv = I i ∧ i ≤ l.length ∧ SwB wr ov (cnt l.length ++ (l.take i).flatMap numB) ∧ G W wr ∧ Fresh W ov) (fun _ iv _ => l.length - (RowKit.intOf iv).toNat)
  case atStart => exact ⟨0, rfl, Nat.zero_le _, by simpa using H1.out.1, H1.out.2.1, H1.out.2.2⟩
  case round =>
    obtain ⟨i, rfl, hik, hs, hg, hf⟩ := hrel
    clear H1
    by_cases hil : i < l.length
    · obtain ⟨x, hx⟩ : ∃ x, l[i]? = some x := ⟨_, List.getElem?_eq_getElem hil⟩
      obtain ⟨g, o, cap', q⟩ := HS.out.addr (by omega)
      injection q with q1 q2 q3
      subst q1 q3
      have hrow := HS.out.G hg
      have hxq := HQ.out x (List.mem_of_getElem? hx)
      have x1 := RI.at hrow hx
      have i1 : (i : Int) < l.length := Int.ofNat_lt.2 hil
      have HW : Hid (wrap64 ((i : Int) + 1) = (i : Int) + 1) := by show _ = _; have := HN.out; unfold wrap64; omega
      have HIL := hide hil
      have KS := hide (rsigned_any x wr hxq)
      have e1 : (cnt l.length ++ (l.take i).flatMap numB) ++ numB x = cnt l.length ++ (l.take (i + 1)).flatMap numB := by
        rw [List.take_add_one, hx, List.flatMap_append, List.append_assoc]; simp
      have hlen : (cnt l.length ++ (l.take i).flatMap numB).length + (numB x).length ≤ 4000000000000 := by
        rw [← List.length_append, e1, List.length_append]
        have h1 := (cnt_len l.length (by have := HN.out; omega)).2
        have h2 := flat_take numB l (i + 1)
        have := HB.out
        omega
      have HE := hide e1
      have HL := hide hlen
      have HH := hide (And.intro hs (And.intro hg hf))
      clear hik hil hx q2 hs hg hf hxq hrow e1 hlen
      go_wp2_with fail
      refine KS.out.mono ?_
      rintro e w2 ⟨v2, rfl, hs2, hg2, hf2⟩
      obtain ⟨hs, hg, hf⟩ := HH.out
      have hl := HL.out
      obtain ⟨v5, w5, hr5, hs5, hg5, hf5⟩ := grow_B 23 (hs.G hg2) hs2.toRow (hg.trans hg2) hf (Nat.le_trans hl (by decide))
      rw [HE.out] at hs5
      have HR5 := hide hr5
      have HF : Hid (∃ u, v5 = u ∧ SwB w5 u (cnt l.length ++ (l.take (i + 1)).flatMap numB) ∧ G W w5 ∧ Fresh W u) := ⟨_, rfl, hs5, hg5, hf5⟩
      clear hs hg hf hs2 hg2 hf2 hr5 hs5 hg5 hf5 KS HH hl
      go_wp2_with (first | (at_builtin; refine wpList_append_run rfl _ _ 23 rfl u3 v2 rfl rfl HR5.out ?_) | fail)
      try rw [HW.out]
      obtain ⟨u, rfl, r1, r2, r3⟩ := HF.out
      refine ⟨⟨i + 1, rfl, HIL.out, r1, r2, r3⟩, ?_⟩
      simp only [RowKit.intOf]; have := HIL.out; omega
    · have i1 : ¬ ((i : Int) < l.length) := by omega
      have e1 : l.take i = l := List.take_of_length_le (by omega)
      rw [e1] at hs
      have HF := hide (And.intro hs (And.intro hg hf))
      clear hik hil hs hg hf e1
      go_wp2_with fail
      go_ret
      exact ⟨_, rfl, HF.out.1, HF.out.2.1, HF.out.2.2⟩
theorem conv_run (s : ByteArray) (w : World) : (convert 9 23 (.string s)).run Tryz.prog w = .ok (.slice (some ⟨w.heap.size, 0, none⟩) s.size (grownCap w s.size 0 5)) (Lib.bytesWorld w 5 s) :=
  Lib.run_convert_string_bytes w 9 23 5 s Tryz.underlying9 Tryz.underlying23 Tryz.underlying5
theorem conv_G (s : ByteArray) (w : World) : G w (Lib.bytesWorld w 5 s) := ⟨rfl, rfl, rfl, by rw [Lib.bytesWorld_size]; omega, fun j hj => Lib.bytesWorld_at_old w 5 s j hj⟩
theorem conv_row (s : ByteArray) (w : World) : Rb (Lib.bytesWorld w 5 s) (.slice (some ⟨w.heap.size, 0, none⟩) s.size (grownCap w s.size 0 5)) (bys s) := by
  refine ⟨some ⟨w.heap.size, 0, none⟩, grownCap w s.size 0 5, by rw [bys_len], by rw [bys_len]; exact grownCap_ge w s.size 0 5, (fun q => by cases q), fun i x hx => ⟨w.heap.size, 0, [bv x], rfl, rfl, fun j u hj => ?_⟩⟩
  have hj0 : j = 0 := by have := (List.getElem?_eq_some_iff.1 hj).1; simp at this; exact this
  subst hj0
  simp at hj
  subst hj
  have hi := (List.getElem?_eq_some_iff.1 hx).1
  rw [bys_len] at hi
  show (Lib.bytesWorld w 5 s).cell? ⟨w.heap.size, 0 + i * 1 + 0, none⟩ = some (bv x)
  rw [Nat.zero_add, Nat.mul_one, Nat.add_zero, Lib.bytesWorld_cell w 5 s i hi]
  rw [bys, List.getElem?_map, Option.map_eq_some_iff] at hx
  obtain ⟨u, hu, rfl⟩ := hx
  rw [List.getD_eq_getElem?_getD, hu]
  rfl
set_option maxRecDepth 100000 in
set_option maxHeartbeats 1000000 in
theorem rtext_any (s : ByteArray) (W : World) (hs : s.size ≤ 140737488351232) : Calls Tryz.prog 70 #[.string s] W (NewB (cnt s.size ++ bys s) W) := by
  have KC := hide (rcount_any s.size W (by omega))
  have HS := hide hs
  have hcv := conv_run s
  go_enter Tryz.func70, Tryz.ntmps70
  go_wp2_with fail
  refine KC.out.mono ?_
  rintro e w1 ⟨v1, rfl, hs1, hg1, hf1⟩
  have hG := conv_G s w1
  have hl := (cnt_len s.size (by omega)).2
  obtain ⟨v5, w5, hr5, hs5, hg5, hf5⟩ := grow_B 23 (hs1.G hG) (conv_row s w1) (hg1.trans hG) hf1 (by rw [bys_len]; omega)
  have HR5 := hide hr5
  have HF : Hid (∃ u, v5 = u ∧ SwB w5 u (cnt s.size ++ bys s) ∧ G W w5 ∧ Fresh W u) := ⟨_, rfl, hs5, hg5, hf5⟩
  have hcw := hcv w1
  clear hs1 hg1 hf1 KC hG hl hr5 hs5 hg5 hf5 hs hcv
  go_wp2_with (first | (at_builtin; refine wpList_append_run rfl _ _ 23 rfl v1 (.slice (some ⟨w1.heap.size, 0, none⟩) s.size (grownCap w1 s.size 0 5)) rfl rfl HR5.out ?_) | fail)
  go_ret
  obtain ⟨u, rfl, r1, r2, r3⟩ := HF.out
  exact ⟨_, rfl, r1, r2, r3⟩
end
open Go.RowKit

/-- The first k bits of a byte, as a number. -/
def hv (l : List Bool) (j : Nat) : Nat → Nat
  | 0 => 0
  | k + 1 => 2 * hv l j k + bt l (8 * j + k)
theorem hv_8 (l : List Bool) (j : Nat) : hv l j 8 = byt l j := by
  simp only [hv, byt, Nat.add_zero]; omega
theorem hv_lt (l : List Bool) (j : Nat) : ∀ k, hv l j k < 2 ^ k
  | 0 => by simp [hv]
  | k + 1 => by
    have h1 := hv_lt l j k
    have h2 := bt_le l (8 * j + k)
    rw [hv, Nat.pow_succ]; omega
theorem hv_le (l : List Bool) (j k : Nat) (hk : k ≤ 8) : hv l j k < 256 := Nat.lt_of_lt_of_le (hv_lt l j k) (Nat.pow_le_pow_right (n := 2) (by decide) hk)
end Go.Proofs.YtcdjjmjhdoanlaaGreatDoor
