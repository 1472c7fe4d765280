/- A script that came in, opened: its entries, their values, their slices. -/
import Derived.Test.YthmdjhfbhbheeaaGreatDoorScript
import Derived.Deep.Slices
import Derived.SizedLaws
import Derived.ProofKit
namespace Go.Proofs.YthmdjhfbhbheeaaGreatDoor
open Go.ChangeShapes Go.WideShapes Go.ChangeAt Go.RowKit

theorem cells_val : Tryz.prog.cellsOf 31 = 4 := by kernel_rfl
theorem cells_op : Tryz.prog.cellsOf 35 = 19 := by kernel_rfl
theorem cells_int : Tryz.prog.cellsOf 3 = 1 := by kernel_rfl
theorem cells_i64 : Tryz.prog.cellsOf 2 = 1 := by kernel_rfl
theorem cells_str : Tryz.prog.cellsOf 9 = 1 := by kernel_rfl
theorem cells_vs : Tryz.prog.cellsOf 32 = 1 := by kernel_rfl
theorem cells_bs : Tryz.prog.cellsOf 33 = 1 := by kernel_rfl
theorem cells_u8 : Tryz.prog.cellsOf 5 = 1 := by kernel_rfl
theorem bytes_val : Tryz.prog.bytesOf 31 = 40 := by kernel_rfl
theorem bytes_u8 : Tryz.prog.bytesOf 5 = 1 := by kernel_rfl
theorem bytes_op : Tryz.prog.bytesOf 35 = 216 := by kernel_rfl
/-- An int64. -/
def R64 (n : Int) : Prop := -9223372036854775808 ≤ n ∧ n ≤ 9223372036854775807
theorem r64 {n : Int} (h : (Lit.int .i64 n).wf = true) : R64 n := by
  unfold R64
  simpa [Lit.wf, IntKind.min, IntKind.max, IntKind.signed, IntKind.bits] using h
theorem u8b {n : Int} (h : (Lit.int .u8 n).wf = true) : 0 ≤ n ∧ n ≤ 255 := by
  simpa [Lit.wf, IntKind.min, IntKind.max, IntKind.signed, IntKind.bits] using h
section
variable {H : Type} {enc : TypeId × Value → H} {w : World}
noncomputable abbrev trodA (enc : TypeId × Value → H) (w : World) (fuel : Nat) (t : TypeId) (cs : List Value) : Option (DataW H × List MemPlace) := DataW.trod enc Tryz.prog w 0 (fun _ => true) true fuel t cs
/-- No text or list in it passes a machine's reach. -/
def Small (t : TypeId) (d : DataW H) : Prop := ∀ n ∈ d.weights Tryz.prog t, n ≤ reachBytes
theorem size_mem (s : ByteArray) : s.size ∈ (DataW.lit (.string s.data.toList) : DataW H).weights Tryz.prog 9 := by
  show s.size ∈ [s.data.toList.length]
  rw [Array.length_toList]
  exact List.mem_singleton.2 rfl
set_option maxRecDepth 100000 in
theorem open_val {fuel : Nat} {cs : List Value} {x : DataW H × List MemPlace} (h : trodA enc w fuel 31 cs = some x) (hs : Small 31 x.1) :
    ∃ (k a b : Int) (s : ByteArray), cs = [I k, I a, I b, .string s] ∧ R64 k ∧ R64 a ∧ R64 b ∧ s.size ≤ reachBytes := by
  obtain ⟨xs, n, rfl, rfl, hl, hx, hf⟩ := DataW.trod_struct Tryz.underlying31 h
  rw [cells_val] at hl
  match cs, hl with
  | [c0, c1, c2, c3], _ =>
    have f0 : trodA enc w n 3 (([c0, c1, c2, c3].drop 0).take (Tryz.prog.cellsOf 3)) = xs[0]? := hf 0 _ rfl
    have f1 : trodA enc w n 2 (([c0, c1, c2, c3].drop 1).take (Tryz.prog.cellsOf 2)) = xs[1]? := hf 1 _ rfl
    have f2 : trodA enc w n 2 (([c0, c1, c2, c3].drop 2).take (Tryz.prog.cellsOf 2)) = xs[2]? := hf 2 _ rfl
    have f3 : trodA enc w n 9 (([c0, c1, c2, c3].drop 3).take (Tryz.prog.cellsOf 9)) = xs[3]? := hf 3 _ rfl
    simp only [cells_int, cells_i64, cells_str, List.drop_zero, List.drop_succ_cons, List.take_succ_cons, List.take_zero] at f0 f1 f2 f3
    match xs, hx with
    | [y0, y1, y2, y3], _ =>
      simp only [List.getElem?_cons_zero, List.getElem?_cons_succ] at f0 f1 f2 f3
      obtain ⟨k, e0, _, w0⟩ := DataW.trod_int Tryz.underlying3 f0
      obtain ⟨a, e1, _, w1⟩ := DataW.trod_int Tryz.underlying2 f1
      obtain ⟨b, e2, _, w2⟩ := DataW.trod_int Tryz.underlying2 f2
      obtain ⟨s, e3, rfl, w3⟩ := DataW.trod_string Tryz.underlying9 f3
      refine ⟨k, a, b, s, by simp_all, r64 w0, r64 w1, r64 w2, hs _ ?_⟩
      simp only [DataW.weights, Tryz.underlying31, List.map_cons, List.map_nil, DataW.weightsEach, List.mem_append]
      right; right; right; left
      exact size_mem (H := H) s
/-- A list of values that came in. -/
def VsOk (w : World) (x : Value) : Prop := x = .slice none 0 0 ∨ ∃ (a : Addr) (len cap : Nat) (Q : Nat → Int × Int × Int × ByteArray), x = .slice (some a) len cap ∧ len ≤ cap ∧ cap * 40 ≤ reachBytes ∧
  ∀ i, i < cap → (∀ j, j < 4 → w.cell? (a.add (i * 4 + j)) = [I (Q i).1, I (Q i).2.1, I (Q i).2.2.1, Value.string (Q i).2.2.2][j]?) ∧ R64 (Q i).1 ∧ R64 (Q i).2.1 ∧ R64 (Q i).2.2.1 ∧ (Q i).2.2.2.size ≤ reachBytes
/-- Bytes that came in. -/
def BsOk (w : World) (x : Value) : Prop := x = .slice none 0 0 ∨ ∃ (a : Addr) (len cap : Nat) (f : Nat → Int), x = .slice (some a) len cap ∧ len ≤ cap ∧ cap ≤ reachBytes ∧ ∀ i, i < cap → w.cell? (a.add i) = some (.int .u8 (f i)) ∧ 0 ≤ f i ∧ f i ≤ 255
theorem small_all {e : TypeId} : ∀ {l : List (DataW H)} {d : DataW H}, d ∈ l → ∀ n ∈ d.weights Tryz.prog e, n ∈ DataW.weightsAll Tryz.prog e l
  | x :: r, d, hd, n, hn => by
    rw [DataW.weightsAll, List.mem_append]
    rcases List.mem_cons.1 hd with rfl | h
    · exact Or.inl hn
    · exact Or.inr (small_all h n hn)
theorem small_elem {t e : TypeId} {elems spare : List (DataW H)} (hu : Tryz.prog.underlying t = some (.slice e)) (hs : Small t (.slice elems spare)) {d : DataW H} (hd : d ∈ elems ∨ d ∈ spare) : Small e d := fun n hn => hs n (by
  simp only [DataW.weights, hu, List.mem_cons, List.mem_append]
  rcases hd with hd | hd
  · exact Or.inr (Or.inl (small_all hd n hn))
  · exact Or.inr (Or.inr (small_all hd n hn)))
theorem small_len {t e : TypeId} {elems spare : List (DataW H)} (hu : Tryz.prog.underlying t = some (.slice e)) (hs : Small t (.slice elems spare)) : (elems.length + spare.length) * Tryz.prog.bytesOf e ≤ reachBytes :=
  hs _ (by simp only [DataW.weights, hu]; exact List.mem_cons_self ..)
theorem small_at {t e : TypeId} {len m : Nat} {D : Nat → DataW H} (hu : Tryz.prog.underlying t = some (.slice e)) (hs : Small t (.slice ((List.range len).map D) ((List.range (m - len)).map fun j => D (len + j)))) {i : Nat} (hi : i < m) : Small e (D i) := by
  refine small_elem hu hs ?_
  by_cases h : i < len
  · exact Or.inl (List.mem_map.2 ⟨i, List.mem_range.2 h, rfl⟩)
  · exact Or.inr (List.mem_map.2 ⟨i - len, List.mem_range.2 (by omega), by rw [show len + (i - len) = i by omega]⟩)
set_option maxRecDepth 100000 in
theorem open_vs {fuel : Nat} {c : Value} {x : DataW H × List MemPlace} (h : trodA enc w fuel 32 [c] = some x) (hs : Small 32 x.1) : VsOk w c := by
  rcases Go.Deep.open_slice Tryz.underlying32 h with ⟨hc, rfl⟩ | ⟨a, len, cap, m, n, D, Pl, hc, _, hl, hm, rfl, rfl, hx⟩
  · exact Or.inl (by simpa using hc)
  · right
    have hlen := small_len Tryz.underlying32 hs
    rw [bytes_val] at hlen
    simp only [List.length_map, List.length_range] at hlen
    have each : ∀ i, i < m → ∃ q : Int × Int × Int × ByteArray, (∀ j, j < 4 → w.cell? (a.add (i * 4 + j)) = [I q.1, I q.2.1, I q.2.2.1, Value.string q.2.2.2][j]?) ∧ R64 q.1 ∧ R64 q.2.1 ∧ R64 q.2.2.1 ∧ q.2.2.2.size ≤ reachBytes := by
      intro i hi
      obtain ⟨cs', h1, h2⟩ := hx i hi
      obtain ⟨k, a', b, s, rfl, r1, r2, r3, r4⟩ := open_val h2 (small_at Tryz.underlying32 hs hi)
      rw [cells_val] at h1
      obtain ⟨_, _, hcell⟩ := World.cells?_some h1
      exact ⟨(k, a', b, s), fun j hj => by have := hcell j hj; rwa [Go.Deep.add_add] at this, r1, r2, r3, r4⟩
    have : Inhabited (Int × Int × Int × ByteArray) := ⟨(0, 0, 0, E0)⟩
    obtain ⟨Q, hQ⟩ := Go.Deep.choose_lt each
    exact ⟨a, len, m, Q, by simpa using hc, hl, by rw [show len + (m - len) = m by omega] at hlen; exact hlen, hQ⟩
set_option maxRecDepth 100000 in
theorem open_bs {fuel : Nat} {c : Value} {x : DataW H × List MemPlace} (h : trodA enc w fuel 33 [c] = some x) (hs : Small 33 x.1) : BsOk w c := by
  rcases Go.Deep.open_slice Tryz.underlying33 h with ⟨hc, rfl⟩ | ⟨a, len, cap, m, n, D, Pl, hc, _, hl, hm, rfl, rfl, hx⟩
  · exact Or.inl (by simpa using hc)
  · right
    have hlen := small_len Tryz.underlying33 hs
    rw [bytes_u8] at hlen
    simp only [List.length_map, List.length_range] at hlen
    have each : ∀ i, i < m → ∃ q : Int, w.cell? (a.add i) = some (.int .u8 q) ∧ 0 ≤ q ∧ q ≤ 255 := by
      intro i hi
      obtain ⟨cs', h1, h2⟩ := hx i hi
      obtain ⟨q, rfl, _, wq⟩ := DataW.trod_int Tryz.underlying5 h2
      rw [cells_u8] at h1
      obtain ⟨_, _, hcell⟩ := World.cells?_some h1
      have := hcell 0 (by decide)
      rw [Go.Deep.add_add, Nat.mul_one, Nat.add_zero] at this
      exact ⟨q, this, u8b wq⟩
    obtain ⟨f, hf⟩ := Go.Deep.choose_lt each
    exact ⟨a, len, m, f, by simpa using hc, hl, by omega, hf⟩
/-- What is known of an entry that came in. -/
structure EntOk (w : World) (e : Ent) : Prop where
  kind : R64 e.kind
  op : R64 e.op
  k : R64 e.k
  a : R64 e.a
  b : R64 e.b
  s : e.s.size ≤ reachBytes
  k' : R64 e.k'
  a' : R64 e.a'
  b' : R64 e.b'
  s' : e.s'.size ≤ reachBytes
  vs : VsOk w e.vs
  st : e.st.size ≤ reachBytes
  tt : e.tt.size ≤ reachBytes
  bb : BsOk w e.bb
  n : R64 e.n
  x : R64 e.x
  y : R64 e.y
  o1 : R64 e.o1
  o2 : R64 e.o2
set_option maxHeartbeats 1000000 in
set_option maxRecDepth 100000 in
theorem open_ent {fuel : Nat} {cs : List Value} {x : DataW H × List MemPlace} (h : trodA enc w fuel 35 cs = some x) (hs : Small 35 x.1) : ∃ e : Ent, cs = e.L ∧ EntOk w e := by
  obtain ⟨xs, n, rfl, rfl, hl, hx, hf⟩ := DataW.trod_struct Tryz.underlying35 h
  rw [cells_op] at hl
  match cs, hl with
  | [c0, c1, c2, c3, c4, c5, c6, c7, c8, c9, c10, c11, c12, c13, c14, c15, c16, c17, c18], _ =>
    have f0 : trodA enc w n 3 (([c0, c1, c2, c3, c4, c5, c6, c7, c8, c9, c10, c11, c12, c13, c14, c15, c16, c17, c18].drop 0).take (Tryz.prog.cellsOf 3)) = xs[0]? := hf 0 _ rfl
    have f1 : trodA enc w n 3 (([c0, c1, c2, c3, c4, c5, c6, c7, c8, c9, c10, c11, c12, c13, c14, c15, c16, c17, c18].drop 1).take (Tryz.prog.cellsOf 3)) = xs[1]? := hf 1 _ rfl
    have f2 : trodA enc w n 31 (([c0, c1, c2, c3, c4, c5, c6, c7, c8, c9, c10, c11, c12, c13, c14, c15, c16, c17, c18].drop 2).take (Tryz.prog.cellsOf 31)) = xs[2]? := hf 2 _ rfl
    have f3 : trodA enc w n 31 (([c0, c1, c2, c3, c4, c5, c6, c7, c8, c9, c10, c11, c12, c13, c14, c15, c16, c17, c18].drop 6).take (Tryz.prog.cellsOf 31)) = xs[3]? := hf 3 _ rfl
    have f4 : trodA enc w n 32 (([c0, c1, c2, c3, c4, c5, c6, c7, c8, c9, c10, c11, c12, c13, c14, c15, c16, c17, c18].drop 10).take (Tryz.prog.cellsOf 32)) = xs[4]? := hf 4 _ rfl
    have f5 : trodA enc w n 9 (([c0, c1, c2, c3, c4, c5, c6, c7, c8, c9, c10, c11, c12, c13, c14, c15, c16, c17, c18].drop 11).take (Tryz.prog.cellsOf 9)) = xs[5]? := hf 5 _ rfl
    have f6 : trodA enc w n 9 (([c0, c1, c2, c3, c4, c5, c6, c7, c8, c9, c10, c11, c12, c13, c14, c15, c16, c17, c18].drop 12).take (Tryz.prog.cellsOf 9)) = xs[6]? := hf 6 _ rfl
    have f7 : trodA enc w n 33 (([c0, c1, c2, c3, c4, c5, c6, c7, c8, c9, c10, c11, c12, c13, c14, c15, c16, c17, c18].drop 13).take (Tryz.prog.cellsOf 33)) = xs[7]? := hf 7 _ rfl
    have f8 : trodA enc w n 2 (([c0, c1, c2, c3, c4, c5, c6, c7, c8, c9, c10, c11, c12, c13, c14, c15, c16, c17, c18].drop 14).take (Tryz.prog.cellsOf 2)) = xs[8]? := hf 8 _ rfl
    have f9 : trodA enc w n 2 (([c0, c1, c2, c3, c4, c5, c6, c7, c8, c9, c10, c11, c12, c13, c14, c15, c16, c17, c18].drop 15).take (Tryz.prog.cellsOf 2)) = xs[9]? := hf 9 _ rfl
    have f10 : trodA enc w n 2 (([c0, c1, c2, c3, c4, c5, c6, c7, c8, c9, c10, c11, c12, c13, c14, c15, c16, c17, c18].drop 16).take (Tryz.prog.cellsOf 2)) = xs[10]? := hf 10 _ rfl
    have f11 : trodA enc w n 3 (([c0, c1, c2, c3, c4, c5, c6, c7, c8, c9, c10, c11, c12, c13, c14, c15, c16, c17, c18].drop 17).take (Tryz.prog.cellsOf 3)) = xs[11]? := hf 11 _ rfl
    have f12 : trodA enc w n 3 (([c0, c1, c2, c3, c4, c5, c6, c7, c8, c9, c10, c11, c12, c13, c14, c15, c16, c17, c18].drop 18).take (Tryz.prog.cellsOf 3)) = xs[12]? := hf 12 _ rfl
    simp only [cells_int, cells_i64, cells_str, cells_val, cells_vs, cells_bs, List.drop_zero, List.drop_succ_cons, List.take_succ_cons, List.take_zero] at f0 f1 f2 f3 f4 f5 f6 f7 f8 f9 f10 f11 f12
    match xs, hx with
    | [y0, y1, y2, y3, y4, y5, y6, y7, y8, y9, y10, y11, y12], _ =>
      simp only [List.getElem?_cons_zero, List.getElem?_cons_succ] at f0 f1 f2 f3 f4 f5 f6 f7 f8 f9 f10 f11 f12
      have hw : ∀ n, n ∈ DataW.weightsEach Tryz.prog [3, 3, 31, 31, 32, 9, 9, 33, 2, 2, 2, 3, 3] [y0.1, y1.1, y2.1, y3.1, y4.1, y5.1, y6.1, y7.1, y8.1, y9.1, y10.1, y11.1, y12.1] → n ≤ reachBytes := fun n hn => hs n (by
        simp only [DataW.weights, Tryz.underlying35]
        exact hn)
      have sm : ∀ (j : Nat) t d, [3, 3, 31, 31, 32, 9, 9, 33, 2, 2, 2, 3, 3][j]? = some t → [y0.1, y1.1, y2.1, y3.1, y4.1, y5.1, y6.1, y7.1, y8.1, y9.1, y10.1, y11.1, y12.1][j]? = some d → Small t d := fun j t d ht hd n hn => hw n (DataW.weights_mem_each ht hd n hn)
      obtain ⟨kind, e0, _, w0⟩ := DataW.trod_int Tryz.underlying3 f0
      obtain ⟨op, e1, _, w1⟩ := DataW.trod_int Tryz.underlying3 f1
      obtain ⟨k, a, b, s, e2, w2, w3, w4, w5⟩ := open_val f2 (sm 2 _ _ rfl rfl)
      obtain ⟨k', a', b', s', e3, w6, w7, w8, w9⟩ := open_val f3 (sm 3 _ _ rfl rfl)
      have w10 := open_vs f4 (sm 4 _ _ rfl rfl)
      have z5 := sm 5 _ _ rfl rfl
      have z6 := sm 6 _ _ rfl rfl
      obtain ⟨st, e5, q5, _⟩ := DataW.trod_string Tryz.underlying9 f5
      obtain ⟨tt, e6, q6, _⟩ := DataW.trod_string Tryz.underlying9 f6
      rw [q5] at z5
      rw [q6] at z6
      have w11 : st.size ≤ reachBytes := z5 _ (by exact size_mem _)
      have w12 : tt.size ≤ reachBytes := z6 _ (by exact size_mem _)
      have w13 := open_bs f7 (sm 7 _ _ rfl rfl)
      obtain ⟨n1, e8, _, w14⟩ := DataW.trod_int Tryz.underlying2 f8
      obtain ⟨n2, e9, _, w15⟩ := DataW.trod_int Tryz.underlying2 f9
      obtain ⟨n3, e10, _, w16⟩ := DataW.trod_int Tryz.underlying2 f10
      obtain ⟨n4, e11, _, w17⟩ := DataW.trod_int Tryz.underlying3 f11
      obtain ⟨n5, e12, _, w18⟩ := DataW.trod_int Tryz.underlying3 f12
      refine ⟨⟨kind, op, k, a, b, s, k', a', b', s', c10, st, tt, c13, n1, n2, n3, n4, n5⟩, ?_, ⟨r64 w0, r64 w1, w2, w3, w4, w5, w6, w7, w8, w9, w10, w11, w12, w13, r64 w14, r64 w15, r64 w16, r64 w17, r64 w18⟩⟩
      simp only [List.cons.injEq, and_true] at e0 e1 e2 e3 e5 e6 e8 e9 e10 e11 e12
      obtain ⟨rfl, rfl, rfl, rfl⟩ := e2
      obtain ⟨rfl, rfl, rfl, rfl⟩ := e3
      rw [e0, e1, e5, e6, e8, e9, e10, e11, e12]
set_option maxRecDepth 100000 in
theorem open_script {b0 : Nat} {v : Value} {d : DataW H} {ps : List MemPlace} (hval : Value.okWide Tryz.prog w .any b0 22 v) (h : DataW.Trod enc Tryz.prog w 0 (fun _ => true) true 22 v d ps) (hs : Small 22 d) :
    v = .slice none 0 0 ∨ ∃ (b off n cap : Nat) (E : Nat → Ent), v = .slice (some ⟨b, off, none⟩) n cap ∧ n ≤ cap ∧ cap * 216 ≤ reachBytes ∧ Ents w b off n E ∧ ∀ i, i < n → EntOk w (E i) := by
  obtain ⟨a0, len0, cap0, rfl⟩ := okWide_slice Tryz.underlying22 hval
  obtain ⟨fuel, hf⟩ := h
  rcases Go.Deep.open_slice Tryz.underlying22 hf with ⟨hc, _⟩ | ⟨a, len, cap, m, n, D, Pl, hc, _, hl, hm, rfl, hx', hx⟩
  · exact Or.inl (by simpa [Value.cells] using hc)
  · right
    simp only [Prod.mk.injEq] at hx'
    obtain ⟨rfl, _⟩ := hx'
    have hlen := small_len Tryz.underlying22 hs
    rw [bytes_op] at hlen
    simp only [List.length_map, List.length_range] at hlen
    have hv : Value.slice a0 len0 cap0 = .slice (some a) len m := by simpa [Value.cells] using hc
    rw [hv] at hval ⊢
    have hspot : a.spot = none := by
      unfold Value.okWide at hval
      simp only [Tryz.underlying22] at hval
      unfold Cell.okWide at hval
      simp only [Tryz.underlying22] at hval
      unfold Cell.ok at hval
      simp only [Tryz.underlying22] at hval
      exact hval.2.2.2.1
    obtain ⟨ab, ao, asp⟩ := a
    simp only at hspot
    subst hspot
    have each : ∀ i, i < len → ∃ e : Ent, w.rangeAt ab (ao + i * 19) e.L ∧ EntOk w e := by
      intro i hi
      obtain ⟨cs', h1, h2⟩ := hx i (by omega)
      obtain ⟨e, rfl, he⟩ := open_ent h2 (small_at Tryz.underlying22 hs (by omega))
      rw [cells_op] at h1
      obtain ⟨_, _, hcell⟩ := World.cells?_some h1
      refine ⟨e, fun j v hv => ?_, he⟩
      have hj : j < 19 := (List.getElem?_eq_some_iff.1 hv).1
      have := hcell j hj
      rw [Go.Deep.add_add, Addr.add_mid] at this
      rw [Nat.add_assoc, this]; exact hv
    have : Inhabited Ent := ⟨⟨0, 0, 0, 0, 0, E0, 0, 0, 0, E0, .slice none 0 0, E0, E0, .slice none 0 0, 0, 0, 0, 0, 0⟩⟩
    obtain ⟨E, hE⟩ := Go.Deep.choose_lt each
    exact ⟨ab, ao, len, m, E, rfl, hl, by rw [show len + (m - len) = m by omega] at hlen; exact hlen, fun i hi => (hE i hi).1, fun i hi => (hE i hi).2⟩
end
end Go.Proofs.YthmdjhfbhbheeaaGreatDoor
