/- The document's unwritten. -/
import Derived.Test.YthpflfkgbapbnaaGreatDoorRt3
import Derived.Test.YthpflfkgbapbnaaGreatDoorTxt2
import Derived.Laws.AppendOwn
import Derived.Maps.AppendAt
import Derived.OwnWalk
namespace Go.Proofs.YthpflfkgbapbnaaGreatDoor
section
open Go.Lib

theorem esc_pre : ∀ x y : Fin 256, (esc1 (UInt8.ofNat x.val)).isPrefixOf (esc1 (UInt8.ofNat y.val)) = true → x = y := by decide +kernel
theorem esc_pre' (x y : UInt8) (h : esc1 x <+: esc1 y) : x = y := by
  have := esc_pre ⟨x.toNat, x.toNat_lt⟩ ⟨y.toNat, y.toNat_lt⟩ (by simp only [UInt8.ofNat_toNat]; exact List.isPrefixOf_iff_prefix.2 h)
  have h2 : x.toNat = y.toNat := congrArg Fin.val this
  exact UInt8.toNat_inj.1 h2
theorem esc_inj {x y : UInt8} {r1 r2 : List UInt8} (h : esc1 x ++ r1 = esc1 y ++ r2) : x = y := by
  have h1 : esc1 x <+: esc1 y ++ r2 := ⟨r1, h⟩
  have h2 : esc1 y <+: esc1 y ++ r2 := ⟨r2, rfl⟩
  by_cases hl : (esc1 x).length ≤ (esc1 y).length
  · exact esc_pre' x y (List.prefix_of_prefix_length_le h1 h2 hl)
  · exact (esc_pre' y x (List.prefix_of_prefix_length_le h2 h1 (by omega))).symm
theorem esc_head (x : UInt8) : (∃ r, r ≠ [] ∧ esc1 x = 92 :: r) ∨ (esc1 x = [x] ∧ x ≠ 92) := by
  unfold esc1
  repeat' split
  all_goals first | exact .inl ⟨_, by simp, rfl⟩ | exact .inr ⟨rfl, by assumption⟩
/-- Byte k, as it is written, stands at i. -/
def Mt (t : List UInt8) (i k : Nat) : Prop := 1 < (esc1 (UInt8.ofNat k)).length ∧ i + (esc1 (UInt8.ofNat k)).length < t.length ∧ (t.drop i).take (esc1 (UInt8.ofNat k)).length = esc1 (UInt8.ofNat k)
/-- So far it is read back: up to i; the bytes l. -/
def PW (t l : List UInt8) (i : Nat) : Prop := 1 ≤ i ∧ ∀ l0, innr t = escS l0 → ∃ l2, l0 = l ++ l2 ∧ (t.drop i).dropLast = escS l2
theorem pw_start (t : List UInt8) : PW t [] 1 := ⟨Nat.le_refl _, fun l0 h => ⟨l0, rfl, h⟩⟩
theorem dl_take (X : List UInt8) : X.dropLast = X.take (X.length - 1) := List.dropLast_eq_take
theorem dl_len (t : List UInt8) (i : Nat) : (t.drop i).dropLast.length = t.length - i - 1 := by simp
theorem pw_on {t l2 E : List UInt8} {i : Nat} (h : (t.drop i).dropLast = E ++ l2) : (t.drop (i + E.length)).dropLast = l2 := by
  have h1 := congrArg (List.drop E.length) h
  rw [List.drop_left] at h1
  rw [← h1, ← List.drop_drop, dl_take, dl_take, List.drop_take]
  congr 1
  simp
  omega
theorem pw_head {t l2 : List UInt8} {i : Nat} {c d : UInt8} (hi : i + 1 < t.length) (hc : t[i]? = some c) (h : (t.drop i).dropLast = d :: l2) : d = c := by
  have h1 := congrArg (fun x => x[0]?) h
  simp only [List.getElem?_cons_zero] at h1
  rw [dl_take, List.getElem?_take, if_pos (by simp; omega), List.getElem?_drop, Nat.add_zero, hc] at h1
  exact (Option.some.inj h1).symm
theorem pw_next {t l2 : List UInt8} {i : Nat} (hi : i + 1 < t.length) (h : (t.drop i).dropLast = escS l2) : ∃ c l3, l2 = c :: l3 ∧ (t.drop i).dropLast = esc1 c ++ escS l3 := by
  cases l2 with
  | nil =>
    have := congrArg List.length h
    rw [dl_len] at this
    simp [escS] at this
    omega
  | cons c l3 => exact ⟨c, l3, rfl, by rw [h]; simp [escS]⟩
theorem pw_plain {t l : List UInt8} {i : Nat} {c : UInt8} (h : PW t l i) (hi : i + 1 < t.length) (hc : t[i]? = some c) (hn : c ≠ 92) : PW t (l ++ [c]) (i + 1) := by
  refine ⟨by omega, fun l0 h0 => ?_⟩
  obtain ⟨l2, rfl, h2⟩ := h.2 l0 h0
  obtain ⟨d, l3, rfl, h3⟩ := pw_next hi h2
  rcases esc_head d with ⟨r, _, e⟩ | ⟨e, _⟩
  · rw [e] at h3
    exact absurd (pw_head hi hc h3).symm hn
  · rw [e] at h3
    have : d = c := pw_head hi hc h3
    subst this
    exact ⟨l3, by simp, pw_on h3⟩
theorem pw_short {t l : List UInt8} {i : Nat} (h : PW t l i) (hi : i + 1 < t.length) (hc : t[i]? = some 92) (hs : t.length ≤ i + 2) : PW t (l ++ [92]) (i + 1) := by
  refine ⟨by omega, fun l0 h0 => ?_⟩
  obtain ⟨l2, rfl, h2⟩ := h.2 l0 h0
  obtain ⟨d, l3, rfl, h3⟩ := pw_next hi h2
  exfalso
  rcases esc_head d with ⟨r, hr, e⟩ | ⟨e, hn⟩
  · have hl := congrArg List.length h3
    rw [dl_len, List.length_append, e] at hl
    have : r.length ≠ 0 := fun x => hr (List.eq_nil_of_length_eq_zero x)
    simp at hl
    omega
  · rw [e] at h3
    exact hn (pw_head hi hc h3)
theorem pw_hit {t l : List UInt8} {i k : Nat} (h : PW t l i) (hi : i + 1 < t.length) (hm : Mt t i k) : PW t (l ++ [UInt8.ofNat k]) (i + (esc1 (UInt8.ofNat k)).length) := by
  obtain ⟨m1, m2, m3⟩ := hm
  refine ⟨by have := h.1; omega, fun l0 h0 => ?_⟩
  obtain ⟨l2, rfl, h2⟩ := h.2 l0 h0
  obtain ⟨d, l3, rfl, h3⟩ := pw_next hi h2
  have h4 : (t.drop i).dropLast.take (esc1 (UInt8.ofNat k)).length = esc1 (UInt8.ofNat k) := by
    rw [dl_take, List.take_take, Nat.min_eq_left (by simp; omega)]
    exact m3
  have h5 : esc1 (UInt8.ofNat k) ++ (t.drop i).dropLast.drop (esc1 (UInt8.ofNat k)).length = esc1 d ++ escS l3 := by
    rw [← h3]
    conv => rhs; rw [← List.take_append_drop (esc1 (UInt8.ofNat k)).length (t.drop i).dropLast]
    rw [h4]
  have hd : UInt8.ofNat k = d := esc_inj h5
  rw [hd]
  exact ⟨l3, by simp, pw_on h3⟩
theorem pw_miss {t l : List UInt8} {i : Nat} (h : PW t l i) (hi : i + 1 < t.length) (hc : t[i]? = some 92) (hm : ∀ k, k < 256 → ¬ Mt t i k) : PW t (l ++ [92]) (i + 1) := by
  refine ⟨by omega, fun l0 h0 => ?_⟩
  obtain ⟨l2, rfl, h2⟩ := h.2 l0 h0
  obtain ⟨d, l3, rfl, h3⟩ := pw_next hi h2
  exfalso
  rcases esc_head d with ⟨r, hr, e⟩ | ⟨e, hn⟩
  · refine hm d.toNat d.toNat_lt ?_
    have hl := congrArg List.length h3
    rw [dl_len, List.length_append] at hl
    have h1 : 1 < (esc1 d).length := by
      rw [e]
      have : r.length ≠ 0 := fun x => hr (List.eq_nil_of_length_eq_zero x)
      simp
      omega
    unfold Mt
    rw [UInt8.ofNat_toNat]
    refine ⟨h1, by omega, ?_⟩
    have h5 := congrArg (List.take (esc1 d).length) h3
    rw [List.take_left, dl_take, List.take_take, Nat.min_eq_left (by simp; omega)] at h5
    exact h5
  · rw [e] at h3
    exact hn (pw_head hi hc h3)
theorem pw_end {t l : List UInt8} {i : Nat} (h : PW t l i) (hi : t.length ≤ i + 1) : ∀ l0, innr t = escS l0 → l = l0 := fun l0 h0 => by
  obtain ⟨l2, rfl, h2⟩ := h.2 l0 h0
  cases l2 with
  | nil => simp
  | cons c l3 =>
    have := congrArg List.length h2
    rw [dl_len] at this
    rcases esc_head c with ⟨r, _, e⟩ | ⟨e, _⟩ <;> simp [escS, e] at this <;> omega
end
open Go.RowKit Go.Lib Go.Shelf

theorem wpList_append_run1 {P : Program} {w : World} {ops : Array Oper} {rest : List Oper} {o : Oper} {a : Act} {Q : Exit → Act → World → Prop} (hgd : o.guard = none) (s x : Operand) (t : TypeId)
    (ho : o.op = .call { callee := .builtin .append, args := #[s, x], argTypes := #[t, t] }) (v z : Value) (hs : a.eval s = v) (hx : a.eval x = z) {v' : Value} {w' : World} (hr : (Builtin.append_ #[t, t] o.type #[v, z]).run P w = .ok v' w')
    (h : wpList P ops Q rest (a.put o.dst v') w') : wpList P ops Q (o :: rest) a w := by
  refine wpList_plain hgd fun K hK => ?_
  unfold Oper.wp execOp
  simp only [ho, resolve, invoke, builtin, Sem.run_bind, Sem.run_pure, Result.andThen_ok, List.map_toArray, List.map_cons, List.map_nil, hs, hx, hr]
  exact hK _ _ h
theorem toNat_of {k : Nat} (h : k < 256) : (UInt8.ofNat k).toNat = k := by rw [UInt8.toNat_ofNat']; omega
abbrev cu (c : UInt8) : Value := .int .u8 (c.toNat : Int)
/-- The bytes that are gathered: a row of one's own. -/
def OB (w W : World) (v : Value) (l : List UInt8) : Prop := W.ownsRow w.heap.size 5 1 v l.length (l.map cu) ∧ G w W
theorem OB.G {w W W' : World} {v : Value} {l : List UInt8} (h : OB w W v l) (g : Go.Proofs.YthpflfkgbapbnaaGreatDoor.G W W') : OB w W' v l := by
  refine ⟨⟨h.1.1, ?_⟩, h.2.trans g⟩
  rcases h.1.2 with hn | ⟨gb, cap, cur, rfl, hb, hgg, rest⟩
  · exact .inl hn
  · refine .inr ⟨gb, cap, cur, rfl, hb, ?_, rest⟩
    rw [g.block gb (Array.getElem?_eq_some_iff.1 hgg).1]
    exact hgg
theorem G.trans2o {w a b : World} {row : Option Nat} (h : Go.Proofs.YthpflfkgbapbnaaGreatDoor.G w a) (k : a.grownBy b row) (hF : ∀ j, row = some j → w.heap.size ≤ j) : Go.Proofs.YthpflfkgbapbnaaGreatDoor.G w b :=
  ⟨k.os.trans h.os, k.tape.trans h.tape, k.output.trans h.output, Nat.le_trans h.size k.size, fun j hj => (k.block j (Nat.lt_of_lt_of_le hj h.size) (fun e => by have := hF j e.symm; omega)).trans (h.block j hj)⟩
theorem info_b : ∃ i, Tryz.prog.info? 5 = some i ∧ i.zero = some (.int .u8 0) ∧ i.size = 1 ∧ i.bytes = 1 := by
  have h : (Tryz.prog.info? 5).map (fun i => (i.zero, i.size, i.bytes)) = some (some (.int .u8 0), 1, 1) := by kernel_rfl
  obtain ⟨i, h1, h2⟩ := Option.map_eq_some_iff.1 h
  simp only [Prod.mk.injEq] at h2
  exact ⟨i, h1, h2.1, h2.2.1, h2.2.2⟩
theorem app_one (ty : TypeId) (c : UInt8) (z : Int) (hz : z = (c.toNat : Int)) {w W : World} {v : Value} {l : List UInt8} (hl : l.length ≤ 140737488351232) (h : OB w W v l) :
    ∃ v' w', (Builtin.append_ #[68, 68] ty #[v, .slice (some ⟨W.heap.size, 0, none⟩) 1 1]).run Tryz.prog (W.alloc (.cells #[.int .u8 z] 5)) = .ok v' w' ∧ OB w w' v' (l ++ [c]) := by
  subst hz
  obtain ⟨i, hi, hz0, hz1, hz2⟩ := info_b
  have h1 := h.G ((Go.Proofs.YthpflfkgbapbnaaGreatDoor.G.refl W).alloc (.cells #[cu c] 5))
  obtain ⟨v', w', hr, q2, q3, _, _⟩ := run_append_own_at (P := Tryz.prog) (W.alloc (.cells #[cu c] 5)) w.heap.size 68 ty 5 i _ 1 1 Tryz.underlying68 hi hz0 hz1 hz2 rfl (by decide) v l.length (l.map cu) h1.1 ⟨W.heap.size, 0, none⟩ 1 1 [cu c] rfl (cell_one_new _ _ _) (fun u hu => by simp at hu; subst hu; rfl) (by unfold maxLen; omega) (by omega) h1.2.size
  refine ⟨v', w', hr, by rw [List.length_append, List.map_append]; exact q2, ?_⟩
  exact h1.2.trans2o q3 (fun j hj => by
    rcases h1.1.2 with ⟨rfl, _⟩ | ⟨gb, cap, cur, rfl, hb, _⟩
    · simp [Value.ownBlock] at hj
    · simp [Value.ownBlock] at hj; omega)
theorem conv_OB {w W : World} {v : Value} {l : List UInt8} (h : OB w W v l) : (convert 68 9 v).run Tryz.prog W = .ok (.string (strU l)) W := by
  rcases h.1.2 with ⟨rfl, hn⟩ | ⟨g, cap, cur, rfl, hb, hgg, hc, _⟩
  · have : l = [] := List.eq_nil_of_length_eq_zero hn
    subst this
    exact run_convert_bytes_nil W 68 5 Tryz.underlying68 Tryz.underlying5 0 0 9 Tryz.underlying9
  · refine run_convert_bytes_back _ 68 9 5 ⟨g, 0, none⟩ cap l Tryz.underlying68 Tryz.underlying5 Tryz.underlying9 (fun j hj => ?_)
    have := h.1.cells (g := g) rfl j (cu l[j]) (by rw [List.getElem?_map, List.getElem?_eq_getElem hj]; rfl)
    exact this
theorem rext_take (u : ByteArray) (i n : Nat) : (u.extract i (i + n)).data.toList = (u.data.toList.drop i).take n := by
  rw [ByteArray.data_extract, Array.toList_extract, List.extract_eq_take_drop, Nat.add_sub_cancel_left]
end Go.Proofs.YthpflfkgbapbnaaGreatDoor
