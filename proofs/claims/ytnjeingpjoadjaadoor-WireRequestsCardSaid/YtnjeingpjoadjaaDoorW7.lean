/- Wire: a count. -/
import Derived.Test.YtnjeingpjoadjaaDoorW6
namespace Go.Proofs.YtnjeingpjoadjaaDoor
open Go.RowKit

/-- The higher groups of a count; all of it. -/
def cntH (n : Nat) : List Nat := if _h : n = 0 then [] else cntH (n / 128) ++ [n % 128 + 128]
termination_by n
decreasing_by omega
def cnt (n : Nat) : List Nat := cntH (n / 128) ++ [n % 128]
theorem cntH_zero : cntH 0 = [] := by rw [cntH]; simp
theorem cntH_pos (n : Nat) (h : 0 < n) : cntH n = cntH (n / 128) ++ [n % 128 + 128] := by rw [cntH, dif_neg (by omega)]
theorem cntH_len : ∀ (k n : Nat), n < 128 ^ k → (cntH n).length ≤ k
  | 0, n, h => by
    have : n = 0 := by simp at h; exact h
    subst this; rw [cntH_zero]; exact Nat.le_refl _
  | k + 1, n, h => by
    by_cases h0 : n = 0
    · subst h0; rw [cntH_zero]; exact Nat.zero_le _
    · rw [cntH_pos n (by omega), List.length_append]
      have := cntH_len k (n / 128) (by rw [Nat.pow_succ] at h; exact Nat.div_lt_of_lt_mul (by rw [Nat.mul_comm]; exact h))
      simp; omega
theorem cnt_len (n : Nat) (h : n < 18446744073709551616) : 1 ≤ (cnt n).length ∧ (cnt n).length ≤ 10 := by
  have := cntH_len 9 (n / 128) (by have : (128 : Nat) ^ 9 = 9223372036854775808 := by decide
                                   omega)
  rw [cnt, List.length_append]
  simp; omega
theorem cntH_by (n : Nat) : By (cntH n) := by
  induction n using cntH.induct with
  | case1 => rw [cntH_zero]; intro x hx; simp at hx
  | case2 n h ih =>
    rw [cntH_pos n (by omega)]
    exact ih.app (fun x hx => by simp at hx; omega)
theorem cnt_by (n : Nat) : By (cnt n) := (cntH_by _).app (fun x hx => by simp at hx; omega)
/-- While a count is written: n is what is left, T what stands there. -/
structure CwI (N n : Nat) (Tl : List Nat) : Prop where
  e : cntH n ++ Tl = cnt N
  hN : N < 18446744073709551616
  l1 : 1 ≤ Tl.length
  le : n ≤ N
theorem CwI.room {N n : Nat} {Tl : List Nat} (h : CwI N n Tl) (hn : 0 < n) : Tl.length ≤ 9 := by
  have h1 := (cnt_len N h.hN).2
  rw [← h.e, cntH_pos n hn] at h1
  simp at h1
  omega
theorem CwI.len {N n : Nat} {Tl : List Nat} (h : CwI N n Tl) : Tl.length ≤ 10 := by
  have h1 := (cnt_len N h.hN).2
  rw [← h.e] at h1
  simp at h1
  omega
theorem CwI.step {N n : Nat} {Tl : List Nat} (h : CwI N n Tl) (hn : 0 < n) : CwI N (n / 128) ((n % 128 + 128) :: Tl) := by
  refine ⟨?_, h.hN, by simp, Nat.le_trans (Nat.div_le_self _ _) h.le⟩
  have := h.e
  rw [cntH_pos n hn, List.append_assoc] at this
  exact this
theorem CwI.start (N : Nat) (hN : N < 18446744073709551616) : CwI N (N / 128) [N % 128] := ⟨rfl, hN, by simp, Nat.div_le_self _ _⟩
theorem u64_div (n : Nat) (h : n < 18446744073709551616) : IntKind.u64.wrap ((n : Int) / 128) = ((n / 128 : Nat) : Int) := by simp [IntKind.wrap, IntKind.bits, IntKind.signed]; omega
theorem drop_set_at {cs : List Value} {k : Nat} {v : Value} {Tl : List Value} (hk : k < cs.length) (h : cs.drop (k + 1) = Tl) : (cs.set k v).drop k = v :: Tl := by
  have h1 : (cs.set k v).drop k = (cs.set k v)[k]'(by simp; omega) :: (cs.set k v).drop (k + 1) := List.drop_eq_getElem_cons (by simp; omega)
  rw [h1, List.getElem_set_self, List.drop_set_of_lt (by omega), h]
set_option maxRecDepth 100000 in
set_option maxHeartbeats 1000000 in
theorem count_any (W0 B w : World) (b : Nat) (s : Option (List Nat)) (N : Nat) (h : Wst W0 B w b s) (hN : N < 18446744073709551616) :
    Calls Tryd.prog 73 #[ptr b, .int .u64 N] w fun e w' => e = .returned (.tuple #[]) ∧ Wst W0 B w' b (wap s (some (cnt N))) := by
  have HS := hide h
  have HN := hide hN
  have hB := Blk.new w (List.replicate 10 (bv 0)) 142
  have HB := hide hB
  have hc := hB.cell
  have hf := hB.frozen
  have e1 : ((N % 128 : Nat) : Int) % 256 = ((N % 128 : Nat) : Int) := by omega
  clear h hN hB
  go_enter Tryd.func73, Tryd.ntmps73
  go_wp2_with fail
  have hq := u64_div N HN.out
  rw [hq]
  have hB2 := HB.out.set 9 (bv (N % 128))
  have HG0 : Hid (G w (w.alloc (.cells #[bv 0, bv 0, bv 0, bv 0, bv 0, bv 0, bv 0, bv 0, bv 0, bv (N % 128)] 142))) := (G.refl w).alloc _
  have HB2 : Hid (Blk (w.alloc (.cells #[bv 0, bv 0, bv 0, bv 0, bv 0, bv 0, bv 0, bv 0, bv 0, bv (N % 128)] 142)) w.heap.size 142 [bv 0, bv 0, bv 0, bv 0, bv 0, bv 0, bv 0, bv 0, bv 0, bv (N % 128)]) := Blk.new w _ 142
  clear hB2 hc hf HB e1 hq
  go_loopw [1, 5] (fun nv av wr => ∃ (n k : Nat) (Tl : List Nat) (cs : List Value), nv = .int .u64 n ∧ av = I k ∧ CwI N n Tl ∧ k + Tl.length = 10 ∧ cs.length = 10 ∧ cs.drop k = Tl.map bv ∧ Blk wr w.heap.size 142 cs ∧ G w wr) (fun nv _ _ => (RowKit.intOf nv).toNat)
  case atStart => exact ⟨N / 128, 9, [N % 128], _, rfl, rfl, CwI.start N HN.out, rfl, rfl, rfl, HB2.out, HG0.out⟩
  case round =>
    obtain ⟨n, k, Tl, cs, rfl, rfl, hI, hk, hcs, hd, hB, hg⟩ := hrel
    clear HB2 HG0
    by_cases h0 : 0 < n
    · have i0 : (0 : Int) < (n : Int) := by omega
      have hr := hI.room h0
      obtain ⟨k', rfl⟩ : ∃ k', k = k' + 1 := ⟨k - 1, by omega⟩
      have hc := hB.cell
      have hf := hB.frozen
      have hck : ∃ y, wr.cell? ⟨w.heap.size, k', none⟩ = some y := ⟨_, (hc k').trans (List.getElem?_eq_getElem (by omega))⟩
      obtain ⟨y, hy⟩ := hck
      have i1 : (k' : Int) < 10 := by omega
      have e1 : wrap64 ((k' : Int) + 1 - 1) = (k' : Int) := by unfold wrap64; omega
      have e2 : wrap64 (k' : Int) = (k' : Int) := by unfold wrap64; omega
      have e3 := u64_div n (Nat.lt_of_le_of_lt hI.le HN.out)
      have HR := hide (And.intro hI (And.intro hk (And.intro hcs (And.intro hd (And.intro hB hg)))))
      clear hI hk hcs hd hB hg hr hc
      go_wp2_with fail
      obtain ⟨hI, hk, hcs, hd, hB, hg⟩ := HR.out
      refine ⟨⟨n / 128, k', (n % 128 + 128) :: Tl, cs.set k' (bv (n % 128 + 128)), rfl, rfl, hI.step h0, by simp; omega, by simpa using hcs, ?_, hB.set k' _, hg.setCell (Nat.le_refl _) _⟩, ?_⟩
      · rw [drop_set_at (by omega) hd]; rfl
      · simp only [RowKit.intOf]; omega
    · have i0 : ¬ (0 : Int) < (n : Int) := by omega
      have h0' : n = 0 := by omega
      have hT : Tl = cnt N := by have := hI.e; rw [h0', cntH_zero] at this; exact this
      have l1 := hI.l1
      have hrow : Rb wr (.slice (some ⟨w.heap.size, k, none⟩) (10 - k) (10 - k)) (cnt N) := by
        rw [← hT]
        refine ⟨some ⟨w.heap.size, k, none⟩, 10 - k, by congr 1; omega, by omega, (fun q => by cases q), fun i x hx => ⟨w.heap.size, k, [bv x], rfl, rfl, fun j u hj => ?_⟩⟩
        have e1 : (cs.drop k)[i]? = some (bv x) := by rw [hd, List.getElem?_map, hx]; rfl
        rw [List.getElem?_drop] at e1
        have hj0 : j = 0 := by have := (List.getElem?_eq_some_iff.1 hj).1; simp at this; exact this
        subst hj0
        simp at hj
        subst hj
        show wr.cell? ⟨w.heap.size, k + i * 1 + 0, none⟩ = some (bv x)
        rw [Nat.mul_one, Nat.add_zero, hB.cell]
        exact e1
      have KP := hide (put_any W0 B wr b s _ _ (HS.out.G hg) hrow)
      have i1 : (k : Int) ≤ 10 := by omega
      have i2 : k ≤ 10 := by omega
      have i3 : ¬ k = 10 := by omega
      have i4 : ¬ 10 = k := by omega
      have i5 : ¬ 10 - k = 0 := by omega
      clear hI hk hcs hd hB hg l1 hT h0' hrow h0
      go_wp2_with fail
      refine KP.out.mono ?_
      rintro e w2 ⟨rfl, hw⟩
      have HW := hide hw
      clear hw KP
      go_wp2_with fail
      exact ⟨rfl, _, results_none rfl _ _ _, rfl, HW.out⟩
end Go.Proofs.YtnjeingpjoadjaaDoor
