/- Wire: numbers and texts. -/
import Derived.Test.YtcdjjmjhdoanlaaDoorW4
import Derived.Laws.Bits64
import Derived.Lib.AppendStr
namespace Go.Proofs.YtcdjjmjhdoanlaaDoor
section
section
open Go.RowKit
/-- Some more bytes. -/
def wap (s o : Option (List Nat)) : Option (List Nat) := s.bind fun l => o.bind fun bs => if l.length + bs.length ≤ 2097152 then some (l ++ bs) else none
def cat (a b : Option (List Nat)) : Option (List Nat) := a.bind fun x => b.bind fun y => some (x ++ y)
theorem wap_cat (s a b : Option (List Nat)) : wap (wap s a) b = wap s (cat a b) := by
  cases s with
  | none => rfl
  | some l =>
    cases a with
    | none => rfl
    | some x =>
      cases b with
      | none =>
        show (if _ then some (l ++ x) else none : Option (List Nat)).bind _ = none
        split <;> rfl
      | some y =>
        show (if _ then some (l ++ x) else none : Option (List Nat)).bind _ = if l.length + (x ++ y).length ≤ 2097152 then some (l ++ (x ++ y)) else none
        by_cases h : l.length + x.length ≤ 2097152
        · rw [if_pos h]
          show (if (l ++ x).length + y.length ≤ 2097152 then some (l ++ x ++ y) else none) = _
          rw [List.length_append, List.length_append, List.append_assoc, Nat.add_assoc]
        · rw [if_neg h, if_neg (by rw [List.length_append]; omega)]; rfl
theorem wap_nil (s : Option (List Nat)) (h : ∀ l, s = some l → l.length ≤ 2097152) : wap s (some []) = s := by
  cases s with
  | none => rfl
  | some l =>
    show (if l.length + 0 ≤ 2097152 then some (l ++ []) else none) = _
    rw [Nat.add_zero, if_pos (h l rfl), List.append_nil]
end
open Go.RowKit

/-- The higher groups of a count; all of it. -/
def cntH (n : Nat) : List Nat := if _h : n = 0 then [] else cntH (n / 128) ++ [n % 128 + 128]
termination_by n
decreasing_by omega
def cnt (n : Nat) : List Nat := cntH (n / 128) ++ [n % 128]
theorem cntH_zero : cntH 0 = [] := by rw [cntH]; simp
theorem cntH_pos (n : Nat) (h : 0 < n) : cntH n = cntH (n / 128) ++ [n % 128 + 128] := by rw [cntH, dif_neg (by omega)]
theorem cntH_len : ∀ (k n : Nat), n < 128 ^ k → (cntH n).length ≤ k
  | 0, n, h => by
    have : n = 0 := by simp at h; exact h
    subst this; rw [cntH_zero]; exact Nat.le_refl _
  | k + 1, n, h => by
    by_cases h0 : n = 0
    · subst h0; rw [cntH_zero]; exact Nat.zero_le _
    · rw [cntH_pos n (by omega), List.length_append]
      have := cntH_len k (n / 128) (by rw [Nat.pow_succ] at h; exact Nat.div_lt_of_lt_mul (by rw [Nat.mul_comm]; exact h))
      simp; omega
theorem cnt_len (n : Nat) (h : n < 18446744073709551616) : 1 ≤ (cnt n).length ∧ (cnt n).length ≤ 10 := by
  have := cntH_len 9 (n / 128) (by have : (128 : Nat) ^ 9 = 9223372036854775808 := by decide
                                   omega)
  rw [cnt, List.length_append]
  simp; omega
theorem cntH_by (n : Nat) : By (cntH n) := by
  induction n using cntH.induct with
  | case1 => rw [cntH_zero]; intro x hx; simp at hx
  | case2 n h ih =>
    rw [cntH_pos n (by omega)]
    exact ih.app (fun x hx => by simp at hx; omega)
theorem cnt_by (n : Nat) : By (cnt n) := (cntH_by _).app (fun x hx => by simp at hx; omega)
/-- While a count is written: n is what is left, T what stands there. -/
structure CwI (N n : Nat) (Tl : List Nat) : Prop where
  e : cntH n ++ Tl = cnt N
  hN : N < 18446744073709551616
  l1 : 1 ≤ Tl.length
  le : n ≤ N
theorem CwI.room {N n : Nat} {Tl : List Nat} (h : CwI N n Tl) (hn : 0 < n) : Tl.length ≤ 9 := by
  have h1 := (cnt_len N h.hN).2
  rw [← h.e, cntH_pos n hn] at h1
  simp at h1
  omega
theorem CwI.len {N n : Nat} {Tl : List Nat} (h : CwI N n Tl) : Tl.length ≤ 10 := by
  have h1 := (cnt_len N h.hN).2
  rw [← h.e] at h1
  simp at h1
  omega
theorem CwI.step {N n : Nat} {Tl : List Nat} (h : CwI N n Tl) (hn : 0 < n) : CwI N (n / 128) ((n % 128 + 128) :: Tl) := by
  refine ⟨?_, h.hN, by simp, Nat.le_trans (Nat.div_le_self _ _) h.le⟩
  have := h.e
  rw [cntH_pos n hn, List.append_assoc] at this
  exact this
theorem CwI.start (N : Nat) (hN : N < 18446744073709551616) : CwI N (N / 128) [N % 128] := ⟨rfl, hN, by simp, Nat.div_le_self _ _⟩
theorem u64_div (n : Nat) (h : n < 18446744073709551616) : IntKind.u64.wrap ((n : Int) / 128) = ((n / 128 : Nat) : Int) := by simp [IntKind.wrap, IntKind.bits, IntKind.signed]; omega
theorem drop_set_at {cs : List Value} {k : Nat} {v : Value} {Tl : List Value} (hk : k < cs.length) (h : cs.drop (k + 1) = Tl) : (cs.set k v).drop k = v :: Tl := by
  have h1 : (cs.set k v).drop k = (cs.set k v)[k]'(by simp; omega) :: (cs.set k v).drop (k + 1) := List.drop_eq_getElem_cons (by simp; omega)
  rw [h1, List.getElem_set_self, List.drop_set_of_lt (by omega), h]
end
open Go.RowKit

abbrev R64 (n : Int) : Prop := -9223372036854775808 ≤ n ∧ n ≤ 9223372036854775807
/-- A signed number as a count. -/
def zig (n : Int) : Nat := if 0 ≤ n then (2 * n).toNat else (-2 * n - 1).toNat
theorem zig_lt (n : Int) (h : R64 n) : zig n < 18446744073709551616 := by
  unfold zig; split <;> omega
theorem xor_ones (x : Nat) (h : x < 18446744073709551616) : x ^^^ 18446744073709551615 = 18446744073709551615 - x := by
  have h2 : x < 2 ^ 64 := by have : (2 : Nat) ^ 64 = 18446744073709551616 := by decide
                             omega
  have e1 : 18446744073709551615 = 2 ^ 64 - 1 := by decide
  have e2 : 18446744073709551615 - x = 2 ^ 64 - (x + 1) := by have : (2 : Nat) ^ 64 = 18446744073709551616 := by decide
                                                              omega
  rw [e2, e1]
  apply Nat.eq_of_testBit_eq
  intro i
  rw [Nat.testBit_xor, Nat.testBit_two_pow_sub_succ h2, Nat.testBit_two_pow_sub_one]
  by_cases hi : i < 64
  · simp [hi]
  · have : x.testBit i = false := Nat.testBit_lt_two_pow (Nat.lt_of_lt_of_le h2 (Nat.pow_le_pow_right (by decide) (by omega)))
    simp [hi, this]
theorem zig_bits (n : Int) (h : R64 n) : bits .xor .u64 (IntKind.u64.wrap (IntKind.u64.wrap n * 2)) (IntKind.u64.wrap (n / 9223372036854775808)) = (zig n : Int) := by
  rw [IntKind.wrap_u64, IntKind.wrap_u64, IntKind.wrap_u64]
  unfold zig
  split
  · have e1 : (n % 18446744073709551616 * 2) % 18446744073709551616 = (((2 * n).toNat : Nat) : Int) := by omega
    have e2 : (n / 9223372036854775808) % 18446744073709551616 = ((0 : Nat) : Int) := by omega
    rw [e1, e2, bits_xor_u64_nat _ _ (by omega) (by omega), Nat.xor_zero]
  · have e1 : (n % 18446744073709551616 * 2) % 18446744073709551616 = (((18446744073709551616 + 2 * n).toNat : Nat) : Int) := by omega
    have e2 : (n / 9223372036854775808) % 18446744073709551616 = ((18446744073709551615 : Nat) : Int) := by omega
    rw [e1, e2, bits_xor_u64_nat _ _ (by omega) (by omega), xor_ones _ (by omega)]
    omega
/-- A string's bytes. -/
def bys (s : ByteArray) : List Nat := s.data.toList.map UInt8.toNat
theorem bys_len (s : ByteArray) : (bys s).length = s.size := by
  unfold bys
  rw [List.length_map, Array.length_toList]
  rfl
theorem fl_bys (s : ByteArray) : eB.fl (bys s) = Lib.strCells s := by
  unfold bys Lib.strCells
  generalize s.data.toList = l
  induction l with
  | nil => rfl
  | cons u l ih => rw [List.map_cons, Enc.fl_cons, ih]; rfl
theorem Sw.rowF {α : Type} {E : Enc α} {ty : TypeId} {W0 w : World} {v : Value} {l : List α} (h : Sw E ty w v l) (hf : Fresh W0 v) : w.ownsRow W0.heap.size ty E.s v l.length (E.fl l) := by
  refine ⟨E.len l, ?_⟩
  rcases h with ⟨rfl, rfl⟩ | ⟨g, cap, rest, rfl, hb, hl, hc, hm⟩
  · exact .inl ⟨rfl, rfl⟩
  · refine .inr ⟨g, cap, (E.fl l ++ rest).toArray, rfl, hf g rfl, hb.h, hc, hm, ?_, ?_⟩
    · simp [E.len]; omega
    · simp [← E.len]
theorem Fresh.of_row {W0 w : World} {ty : TypeId} {s n : Nat} {v : Value} {xs : List Value} (h : w.ownsRow W0.heap.size ty s v n xs) : Fresh W0 v := fun k e => by
  rcases h.2 with ⟨rfl, _⟩ | ⟨g, cap, cur, rfl, hb, _⟩
  · simp [Value.ownBlock] at e
  · simp [Value.ownBlock] at e; omega
/-- An append of a string's bytes. -/
theorem app_S {W0 w : World} {v : Value} {l : List Nat} (tr : TypeId) (x : ByteArray) (h : SwB w v l) (hg : G W0 w) (hf : Fresh W0 v) (hb : l.length + x.size ≤ 140737488355328) :
    ∃ v' w', (Builtin.append_ #[23, 9] tr #[v, .string x]).run Tryd.prog w = .ok v' w' ∧ SwB w' v' (l ++ bys x) ∧ Chg (fun k => v.ownBlock = some k) w w' ∧ Fresh W0 v' := by
  obtain ⟨i, hi, h0, h1, h2⟩ := info_B
  have hm : (140737488355328 : Nat) ≤ maxLen := of_decide_eq_true (by kernel_rfl)
  obtain ⟨v', w', q1, q2, q3, _⟩ := Lib.run_append_own_string (P := Tryd.prog) w W0.heap.size 23 9 tr 5 i Tryd.underlying23 Tryd.underlying9 hi h0 h1 h2 v l.length (eB.fl l) (h.rowF hf) x (by omega) (by omega) hg.size
  rw [← fl_bys, ← Enc.app] at q2
  exact ⟨v', w', q1, Sw.of_row (E := eB) q2 (by rw [List.length_append, bys_len]), ⟨q3.os, q3.tape, q3.output, q3.size, fun k hk hne => q3.block k hk (fun e => hne e.symm)⟩, Fresh.of_row q2⟩
theorem wpList_append_run2 {P : Program} {w : World} {ops : Array Oper} {rest : List Oper} {o : Oper} {a : Act} {Q : Exit → Act → World → Prop} (hgd : o.guard = none) (s x : Operand) (t t2 : TypeId)
    (ho : o.op = .call { callee := .builtin .append, args := #[s, x], argTypes := #[t, t2] }) (v z : Value) (hs : a.eval s = v) (hx : a.eval x = z) {v' : Value} {w' : World} (hr : (Builtin.append_ #[t, t2] o.type #[v, z]).run P w = .ok v' w')
    (h : wpList P ops Q rest (a.put o.dst v') w') : wpList P ops Q (o :: rest) a w := by
  refine wpList_plain hgd fun K hK => ?_
  unfold Oper.wp execOp
  simp only [ho, resolve, invoke, builtin, Sem.run_bind, Sem.run_pure, Result.andThen_ok, List.map_toArray, List.map_cons, List.map_nil, hs, hx, hr]
  exact hK _ _ h
theorem wap_some (l bs : List Nat) : wap (some l) (some bs) = if l.length + bs.length ≤ 2097152 then some (l ++ bs) else none := rfl
theorem bys_by (s : ByteArray) : By (bys s) := fun x hx => by
  obtain ⟨u, _, rfl⟩ := List.mem_map.1 hx
  exact u.toNat_lt
end Go.Proofs.YtcdjjmjhdoanlaaDoor
