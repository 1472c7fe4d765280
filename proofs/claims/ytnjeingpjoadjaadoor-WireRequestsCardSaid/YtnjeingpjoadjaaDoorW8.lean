/- Wire: numbers and texts. -/
import Derived.Test.YtnjeingpjoadjaaDoorW7
import Derived.Laws.Bits64
import Derived.Lib.AppendStr
namespace Go.Proofs.YtnjeingpjoadjaaDoor
open Go.RowKit

abbrev R64 (n : Int) : Prop := -9223372036854775808 ≤ n ∧ n ≤ 9223372036854775807
/-- A signed number as a count. -/
def zig (n : Int) : Nat := if 0 ≤ n then (2 * n).toNat else (-2 * n - 1).toNat
theorem zig_lt (n : Int) (h : R64 n) : zig n < 18446744073709551616 := by
  unfold zig; split <;> omega
theorem xor_ones (x : Nat) (h : x < 18446744073709551616) : x ^^^ 18446744073709551615 = 18446744073709551615 - x := by
  have h2 : x < 2 ^ 64 := by have : (2 : Nat) ^ 64 = 18446744073709551616 := by decide
                             omega
  have e1 : 18446744073709551615 = 2 ^ 64 - 1 := by decide
  have e2 : 18446744073709551615 - x = 2 ^ 64 - (x + 1) := by have : (2 : Nat) ^ 64 = 18446744073709551616 := by decide
                                                              omega
  rw [e2, e1]
  apply Nat.eq_of_testBit_eq
  intro i
  rw [Nat.testBit_xor, Nat.testBit_two_pow_sub_succ h2, Nat.testBit_two_pow_sub_one]
  by_cases hi : i < 64
  · simp [hi]
  · have : x.testBit i = false := Nat.testBit_lt_two_pow (Nat.lt_of_lt_of_le h2 (Nat.pow_le_pow_right (by decide) (by omega)))
    simp [hi, this]
theorem zig_bits (n : Int) (h : R64 n) : bits .xor .u64 (IntKind.u64.wrap (IntKind.u64.wrap n * 2)) (IntKind.u64.wrap (n / 9223372036854775808)) = (zig n : Int) := by
  rw [IntKind.wrap_u64, IntKind.wrap_u64, IntKind.wrap_u64]
  unfold zig
  split
  · have e1 : (n % 18446744073709551616 * 2) % 18446744073709551616 = (((2 * n).toNat : Nat) : Int) := by omega
    have e2 : (n / 9223372036854775808) % 18446744073709551616 = ((0 : Nat) : Int) := by omega
    rw [e1, e2, bits_xor_u64_nat _ _ (by omega) (by omega), Nat.xor_zero]
  · have e1 : (n % 18446744073709551616 * 2) % 18446744073709551616 = (((18446744073709551616 + 2 * n).toNat : Nat) : Int) := by omega
    have e2 : (n / 9223372036854775808) % 18446744073709551616 = ((18446744073709551615 : Nat) : Int) := by omega
    rw [e1, e2, bits_xor_u64_nat _ _ (by omega) (by omega), xor_ones _ (by omega)]
    omega
/-- A string's bytes. -/
def bys (s : ByteArray) : List Nat := s.data.toList.map UInt8.toNat
theorem bys_len (s : ByteArray) : (bys s).length = s.size := by
  unfold bys
  rw [List.length_map, Array.length_toList]
  rfl
theorem fl_bys (s : ByteArray) : eB.fl (bys s) = Lib.strCells s := by
  unfold bys Lib.strCells
  generalize s.data.toList = l
  induction l with
  | nil => rfl
  | cons u l ih => rw [List.map_cons, Enc.fl_cons, ih]; rfl
theorem Sw.rowF {α : Type} {E : Enc α} {ty : TypeId} {W0 w : World} {v : Value} {l : List α} (h : Sw E ty w v l) (hf : Fresh W0 v) : w.ownsRow W0.heap.size ty E.s v l.length (E.fl l) := by
  refine ⟨E.len l, ?_⟩
  rcases h with ⟨rfl, rfl⟩ | ⟨g, cap, rest, rfl, hb, hl, hc, hm⟩
  · exact .inl ⟨rfl, rfl⟩
  · refine .inr ⟨g, cap, (E.fl l ++ rest).toArray, rfl, hf g rfl, hb.h, hc, hm, ?_, ?_⟩
    · simp [E.len]; omega
    · simp [← E.len]
theorem Fresh.of_row {W0 w : World} {ty : TypeId} {s n : Nat} {v : Value} {xs : List Value} (h : w.ownsRow W0.heap.size ty s v n xs) : Fresh W0 v := fun k e => by
  rcases h.2 with ⟨rfl, _⟩ | ⟨g, cap, cur, rfl, hb, _⟩
  · simp [Value.ownBlock] at e
  · simp [Value.ownBlock] at e; omega
/-- An append of a string's bytes. -/
theorem app_S {W0 w : World} {v : Value} {l : List Nat} (tr : TypeId) (x : ByteArray) (h : SwB w v l) (hg : G W0 w) (hf : Fresh W0 v) (hb : l.length + x.size ≤ 140737488355328) :
    ∃ v' w', (Builtin.append_ #[27, 9] tr #[v, .string x]).run Tryd.prog w = .ok v' w' ∧ SwB w' v' (l ++ bys x) ∧ Chg (fun k => v.ownBlock = some k) w w' ∧ Fresh W0 v' := by
  obtain ⟨i, hi, h0, h1, h2⟩ := info_B
  have hm : (140737488355328 : Nat) ≤ maxLen := of_decide_eq_true (by kernel_rfl)
  obtain ⟨v', w', q1, q2, q3, _⟩ := Lib.run_append_own_string (P := Tryd.prog) w W0.heap.size 27 9 tr 5 i Tryd.underlying27 Tryd.underlying9 hi h0 h1 h2 v l.length (eB.fl l) (h.rowF hf) x (by omega) (by omega) hg.size
  rw [← fl_bys, ← Enc.app] at q2
  exact ⟨v', w', q1, Sw.of_row (E := eB) q2 (by rw [List.length_append, bys_len]), ⟨q3.os, q3.tape, q3.output, q3.size, fun k hk hne => q3.block k hk (fun e => hne e.symm)⟩, Fresh.of_row q2⟩
theorem Wr.put2 {W0 B w w' : World} {b : Nat} {v v' : Value} {l l' : List Nat} {bad : Bool} (kp : Kp B w) (g : Go.Proofs.YtnjeingpjoadjaaDoor.G W0 w) (hb : W0.heap.size ≤ b) (h1 : Blk w b 53 [v, .bool bad]) (hs : SwB w v l) (hf : Fresh W0 v)
    (hs' : SwB w' v' l') (hch : Chg (fun k => v.ownBlock = some k) w w') (hf' : Fresh W0 v') (hl : l'.length ≤ 2097152) : Wr W0 B (w'.setCell ⟨b, 0, none⟩ v') b l' bad := by
  have g2 := (hf.app (v' := v) g hch (.inl rfl)).2
  have hnb : v.ownBlock ≠ some b := hs.ne h1 (by decide)
  have h1' : Blk w' b 53 [v, .bool bad] := h1.chg hch hnb
  exact ⟨g2.setCell hb _, hb, hl, ⟨v', h1'.set 0 _, hs'.off (hs'.ne h1' (by decide)), hf'⟩, (kp.chg hs hch).set h1' _⟩
theorem wpList_append_run2 {P : Program} {w : World} {ops : Array Oper} {rest : List Oper} {o : Oper} {a : Act} {Q : Exit → Act → World → Prop} (hgd : o.guard = none) (s x : Operand) (t t2 : TypeId)
    (ho : o.op = .call { callee := .builtin .append, args := #[s, x], argTypes := #[t, t2] }) (v z : Value) (hs : a.eval s = v) (hx : a.eval x = z) {v' : Value} {w' : World} (hr : (Builtin.append_ #[t, t2] o.type #[v, z]).run P w = .ok v' w')
    (h : wpList P ops Q rest (a.put o.dst v') w') : wpList P ops Q (o :: rest) a w := by
  refine wpList_plain hgd fun K hK => ?_
  unfold Oper.wp execOp
  simp only [ho, resolve, invoke, builtin, Sem.run_bind, Sem.run_pure, Result.andThen_ok, List.map_toArray, List.map_cons, List.map_nil, hs, hx, hr]
  exact hK _ _ h
theorem wap_some (l bs : List Nat) : wap (some l) (some bs) = if l.length + bs.length ≤ 2097152 then some (l ++ bs) else none := rfl
theorem bys_by (s : ByteArray) : By (bys s) := fun x hx => by
  obtain ⟨u, _, rfl⟩ := List.mem_map.1 hx
  exact u.toNat_lt
set_option maxRecDepth 100000 in
set_option maxHeartbeats 1000000 in
theorem number_any (W0 B w : World) (b : Nat) (s : Option (List Nat)) (n : Int) (h : Wst W0 B w b s) (hn : R64 n) :
    Calls Tryd.prog 46 #[ptr b, I n] w fun e w' => e = .returned (.tuple #[]) ∧ Wst W0 B w' b (wap s (some (cnt (zig n)))) := by
  have KC := hide (count_any W0 B w b s (zig n) h (zig_lt n hn))
  clear h
  go_enter Tryd.func46, Tryd.ntmps46
  go_wp2_with fail
  rw [zig_bits n hn]
  refine KC.out.mono ?_
  rintro e w2 ⟨rfl, hw⟩
  have HW := hide hw
  clear hw KC
  go_wp2_with fail
  exact ⟨rfl, _, results_none rfl _ _ _, rfl, HW.out⟩
set_option maxRecDepth 100000 in
set_option maxHeartbeats 1000000 in
theorem text_any (W0 B w : World) (b : Nat) (s : Option (List Nat)) (x : ByteArray) (h : Wst W0 B w b s) (hx : x.size ≤ 140737488351232) :
    Calls Tryd.prog 47 #[ptr b, .string x] w fun e w' => e = .returned (.tuple #[]) ∧ Wst W0 B w' b (wap s (some (cnt x.size ++ bys x))) := by
  have KC := hide (count_any W0 B w b s x.size h (by omega))
  have HX := hide hx
  clear h
  go_enter Tryd.func47, Tryd.ntmps47
  go_wp2_with fail
  refine KC.out.mono ?_
  rintro e w1 ⟨rfl, h1⟩
  obtain ⟨l, bad, hw, hs⟩ := h1.wr
  have KF := hide (fits_any W0 B w1 b l bad x.size hw)
  have HW := hide hw
  have HS := hide hs
  have HE : Hid (wap s (some (cnt x.size ++ bys x)) = wap (wap s (some (cnt x.size))) (some (bys x))) := by show _ = _; rw [wap_cat]; rfl
  clear h1 hw hs KC hx
  go_wp2_with fail
  refine KF.out.mono ?_
  rintro e w2 (⟨rfl, hl, rfl, rfl⟩ | ⟨hc, rfl, hw2⟩)
  · obtain ⟨g, hb, hl2, ⟨v, h1, h2, h3⟩, kp⟩ := HW.out
    obtain ⟨v', w', hr, hs', hch, hf'⟩ := app_S 27 x h2 g h3 (by have := HX.out; omega)
    have HR := hide hr
    have hc := h1.cell
    have h1' : Blk w' b 53 [v, .bool false] := h1.chg hch (h2.ne h1 (by decide))
    have hc' := h1'.cell
    have hf2 := h1'.frozen
    have HF : Hid (Wst W0 B (w'.setCell ⟨b, 0, none⟩ v') b (wap s (some (cnt x.size ++ bys x)))) := by
      have es : wap s (some (cnt x.size)) = some l := by rcases HS.out with ⟨q, _⟩ | ⟨_, q⟩; cases q; exact q
      show Wst _ _ _ _ _
      rw [HE.out, es, wap_some, if_pos (by rw [bys_len]; exact hl)]
      exact Wr.put2 kp g hb h1 h2 h3 hs' hch hf' (by rw [List.length_append, bys_len]; exact hl)
    obtain ⟨a', c', hv'⟩ := hs'.form
    obtain ⟨n', hn'⟩ : ∃ n', n' = (l ++ bys x).length := ⟨_, rfl⟩
    rw [← hn'] at hv'
    subst hv'
    obtain ⟨a, c, hv⟩ := h2.form
    subst hv
    clear g hb hl2 h1 h2 h3 hr hs' hch hf' h1' KF HW hl hn' kp
    go_wp2_with (first | (at_builtin; refine wpList_append_run2 rfl _ _ 27 9 rfl (.slice a l.length c) (.string x) rfl rfl HR.out ?_) | fail)
    exact ⟨rfl, _, results_none rfl _ _ _, rfl, HF.out⟩
  · have HF : Hid (Wst W0 B w2 b (wap s (some (cnt x.size ++ bys x)))) := by
      show Wst _ _ _ _ _
      rw [HE.out]
      rcases HS.out with ⟨_, q⟩ | ⟨q0, q⟩
      · rw [q]; exact ⟨l, hw2⟩
      · rw [q, wap_some, if_neg (by rw [bys_len]; rcases hc with q1 | q1; · rw [q0] at q1; cases q1
                                    · omega)]
        exact ⟨l, hw2⟩
    clear hc hw2 KF HW HS
    go_wp2_with fail
    exact ⟨rfl, _, results_none rfl _ _ _, rfl, HF.out⟩
end Go.Proofs.YtnjeingpjoadjaaDoor
