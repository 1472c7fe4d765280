/- The document's counts, numbers, texts, bits. -/
import Derived.Test.YtnjeingpjoadjaaDoorW10
import Derived.Lib.ConvBytes
namespace Go.Proofs.YtnjeingpjoadjaaDoor
open Go.RowKit

/-- Bytes that were made since W. -/
def NewB (l : List Nat) (W : World) (e : Ending) (W' : World) : Prop := ∃ v', e = .returned v' ∧ SwB W' v' l ∧ G W W' ∧ Fresh W v'
set_option maxRecDepth 100000 in
set_option maxHeartbeats 1000000 in
theorem rcount_any (N : Nat) (W : World) (hN : N < 18446744073709551616) : Calls Tryd.prog 51 #[.int .u64 N] W (NewB (cnt N) W) := by
  have HN := hide hN
  have e1 : ((N % 128 : Nat) : Int) % 256 = ((N % 128 : Nat) : Int) := by omega
  have HS0 : Hid (SwB (W.alloc (.cells #[bv (N % 128)] 5)) (.slice (some ⟨W.heap.size, 0, none⟩) 1 1) [N % 128]) := Sw.lit (E := eB) W [N % 128] (of_decide_eq_true (by kernel_rfl))
  have HG0 := hide ((G.refl W).alloc (.cells #[bv (N % 128)] 5))
  have HF0 := hide (Fresh.new W 1 1 (G.refl W))
  clear hN
  go_enter Tryd.func51, Tryd.ntmps51
  go_wp2_with fail
  go_loopw [0, 3] (fun nv ov wr => ∃ (n : Nat) (Tl : List Nat), nv = .int .u64 n ∧ CwI N (n / 128) Tl ∧ n ≤ N ∧ SwB wr ov Tl ∧ G W wr ∧ Fresh W ov) (fun nv _ _ => (RowKit.intOf nv).toNat)
  case atStart => exact ⟨N, [N % 128], rfl, CwI.start N HN.out, Nat.le_refl _, HS0.out, HG0.out, HF0.out⟩
  case round =>
    obtain ⟨n, Tl, rfl, hI, hn, hs, hg, hf⟩ := hrel
    clear HS0 HG0 HF0 e1
    have hNN := HN.out
    by_cases h0 : 128 ≤ n
    · have i0 : (128 : Int) ≤ (n : Int) := by omega
      have hpos : 0 < n / 128 := by omega
      have hI2 := hI.step hpos
      have hl := hI.len
      have hA := (G.refl wr).alloc (.cells (eB.fl [n / 128 % 128 + 128]).toArray 5)
      have hs1 := Sw.lit (E := eB) (ty := 5) wr [n / 128 % 128 + 128] (of_decide_eq_true (by kernel_rfl))
      obtain ⟨v5, w5, hr5, hs5, hg5, hf5⟩ := grow_B 27 hs1 (hs.G hA).toRow (hg.trans hA) (Fresh.new W 1 1 hg) (by simp; omega)
      have HR5 := hide hr5
      have HF : Hid (∃ u, v5 = u ∧ SwB w5 u ((n / 128 % 128 + 128) :: Tl) ∧ G W w5 ∧ Fresh W u) := ⟨_, rfl, hs5, hg5, hf5⟩
      have HI : Hid (CwI N (n / 128 / 128) ((n / 128 % 128 + 128) :: Tl) ∧ n / 128 ≤ N ∧ n / 128 < n) := ⟨hI2, by omega, by omega⟩
      have e3 := u64_div n (by omega)
      obtain ⟨m, hm⟩ : ∃ m, m = n / 128 := ⟨_, rfl⟩
      have e5 : IntKind.u64.wrap ((n : Int) / 128) = (m : Int) := by rw [e3, hm]
      rw [← hm] at HR5 HF HI
      clear hI hn hs hg hf hI2 hl hA hs1 hr5 hs5 hg5 hf5 hNN h0 hpos e3 hm
      go_wp2_with (first | (at_builtin; refine wpList_append_run rfl _ _ 27 rfl (.slice (some ⟨wr.heap.size, 0, none⟩) 1 1) u3 rfl rfl HR5.out ?_) | fail)
      obtain ⟨u, rfl, r1, r2, r3⟩ := HF.out
      refine ⟨⟨m, _, rfl, HI.out.1, HI.out.2.1, r1, r2, r3⟩, ?_⟩
      simp only [RowKit.intOf]; have := HI.out.2.2; omega
    · have i0 : ¬ (128 : Int) ≤ (n : Int) := by omega
      have h0' : n / 128 = 0 := by omega
      have hT : Tl = cnt N := by have := hI.e; rw [h0', cntH_zero] at this; exact this
      rw [hT] at hs
      have HF := hide (And.intro hs (And.intro hg hf))
      clear hI hn hs hg hf hNN h0 h0' hT
      go_wp2_with fail
      go_ret
      exact ⟨_, rfl, HF.out.1, HF.out.2.1, HF.out.2.2⟩
theorem zig_pos (n : Int) (h : R64 n) (h0 : 0 ≤ n) : IntKind.u64.wrap (IntKind.u64.wrap n * 2) = (zig n : Int) := by
  rw [IntKind.wrap_u64, IntKind.wrap_u64]; unfold zig; rw [if_pos h0]; omega
theorem zig_neg (n : Int) (h : R64 n) (h0 : ¬ 0 ≤ n) : IntKind.u64.wrap (IntKind.u64.wrap (IntKind.u64.wrap (wrap64 (-wrap64 (n + 1))) * 2) + 1) = (zig n : Int) := by
  have e1 : wrap64 (-wrap64 (n + 1)) = -(n + 1) := by
    have : wrap64 (n + 1) = n + 1 := by unfold wrap64; omega
    rw [this]; unfold wrap64; omega
  rw [e1, IntKind.wrap_u64, IntKind.wrap_u64, IntKind.wrap_u64]; unfold zig; rw [if_neg h0]; omega
set_option maxRecDepth 100000 in
set_option maxHeartbeats 1000000 in
theorem rsigned_any (n : Int) (W : World) (hn : R64 n) : Calls Tryd.prog 52 #[I n] W (NewB (cnt (zig n)) W) := by
  have KC := hide (rcount_any (zig n) W (zig_lt n hn))
  by_cases h0 : 0 ≤ n
  · have e1 := zig_pos n hn h0
    have d1 := decide_eq_true h0
    have HE := hide e1
    clear e1 hn h0
    go_enter Tryd.func52, Tryd.ntmps52
    go_wp2_with fail
    rw [HE.out]
    refine KC.out.mono ?_
    rintro e w1 ⟨v', rfl, h1⟩
    have H1 := hide h1
    clear h1 KC
    go_wp2_with fail
    go_ret
    exact ⟨_, rfl, H1.out⟩
  · have HE := hide (zig_neg n hn h0)
    have d1 := decide_eq_false h0
    clear hn h0
    go_enter Tryd.func52, Tryd.ntmps52
    go_wp2_with fail
    trace_state
    rw [HE.out]
    refine KC.out.mono ?_
    rintro e w1 ⟨v', rfl, h1⟩
    have H1 := hide h1
    clear h1 KC
    go_wp2_with fail
    go_ret
    exact ⟨_, rfl, H1.out⟩
end Go.Proofs.YtnjeingpjoadjaaDoor
