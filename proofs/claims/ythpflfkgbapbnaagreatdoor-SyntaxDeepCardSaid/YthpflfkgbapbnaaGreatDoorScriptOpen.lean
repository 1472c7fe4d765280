/- A script that came in, opened: its entries, their values, their slices. -/
import Derived.Test.YthpflfkgbapbnaaGreatDoorScript
import Derived.Deep.Slices
import Derived.SizedLaws
import Derived.ProofKit
namespace Go.Proofs.YthpflfkgbapbnaaGreatDoor
open Go.ChangeShapes Go.WideShapes Go.ChangeAt Go.RowKit

theorem cells_val : Tryz.prog.cellsOf 23 = 4 := by kernel_rfl
theorem cells_int : Tryz.prog.cellsOf 3 = 1 := by kernel_rfl
theorem cells_i64 : Tryz.prog.cellsOf 2 = 1 := by kernel_rfl
theorem cells_str : Tryz.prog.cellsOf 9 = 1 := by kernel_rfl
theorem cells_bs : Tryz.prog.cellsOf 68 = 1 := by kernel_rfl
theorem cells_u8 : Tryz.prog.cellsOf 5 = 1 := by kernel_rfl
theorem bytes_val : Tryz.prog.bytesOf 23 = 40 := by kernel_rfl
theorem bytes_u8 : Tryz.prog.bytesOf 5 = 1 := by kernel_rfl
/-- An int64. -/
def R64 (n : Int) : Prop := -9223372036854775808 ≤ n ∧ n ≤ 9223372036854775807
theorem r64 {n : Int} (h : (Lit.int .i64 n).wf = true) : R64 n := by
  unfold R64
  simpa [Lit.wf, IntKind.min, IntKind.max, IntKind.signed, IntKind.bits] using h
theorem u8b {n : Int} (h : (Lit.int .u8 n).wf = true) : 0 ≤ n ∧ n ≤ 255 := by
  simpa [Lit.wf, IntKind.min, IntKind.max, IntKind.signed, IntKind.bits] using h
section
variable {H : Type} {enc : TypeId × Value → H} {w : World}
noncomputable abbrev trodA (enc : TypeId × Value → H) (w : World) (fuel : Nat) (t : TypeId) (cs : List Value) : Option (DataW H × List MemPlace) := DataW.trod enc Tryz.prog w 0 (fun _ => true) true fuel t cs
/-- No text or list in it passes a machine's reach. -/
def Small (t : TypeId) (d : DataW H) : Prop := ∀ n ∈ d.weights Tryz.prog t, n ≤ reachBytes
theorem size_mem (s : ByteArray) : s.size ∈ (DataW.lit (.string s.data.toList) : DataW H).weights Tryz.prog 9 := by
  show s.size ∈ [s.data.toList.length]
  rw [Array.length_toList]
  exact List.mem_singleton.2 rfl
set_option maxRecDepth 100000 in
theorem open_val {fuel : Nat} {cs : List Value} {x : DataW H × List MemPlace} (h : trodA enc w fuel 23 cs = some x) (hs : Small 23 x.1) :
    ∃ (k a b : Int) (s : ByteArray), cs = [I k, I a, I b, .string s] ∧ R64 k ∧ R64 a ∧ R64 b ∧ s.size ≤ reachBytes := by
  obtain ⟨xs, n, rfl, rfl, hl, hx, hf⟩ := DataW.trod_struct Tryz.underlying23 h
  rw [cells_val] at hl
  match cs, hl with
  | [c0, c1, c2, c3], _ =>
    have f0 : trodA enc w n 3 (([c0, c1, c2, c3].drop 0).take (Tryz.prog.cellsOf 3)) = xs[0]? := hf 0 _ rfl
    have f1 : trodA enc w n 2 (([c0, c1, c2, c3].drop 1).take (Tryz.prog.cellsOf 2)) = xs[1]? := hf 1 _ rfl
    have f2 : trodA enc w n 2 (([c0, c1, c2, c3].drop 2).take (Tryz.prog.cellsOf 2)) = xs[2]? := hf 2 _ rfl
    have f3 : trodA enc w n 9 (([c0, c1, c2, c3].drop 3).take (Tryz.prog.cellsOf 9)) = xs[3]? := hf 3 _ rfl
    simp only [cells_int, cells_i64, cells_str, List.drop_zero, List.drop_succ_cons, List.take_succ_cons, List.take_zero] at f0 f1 f2 f3
    match xs, hx with
    | [y0, y1, y2, y3], _ =>
      simp only [List.getElem?_cons_zero, List.getElem?_cons_succ] at f0 f1 f2 f3
      obtain ⟨k, e0, _, w0⟩ := DataW.trod_int Tryz.underlying3 f0
      obtain ⟨a, e1, _, w1⟩ := DataW.trod_int Tryz.underlying2 f1
      obtain ⟨b, e2, _, w2⟩ := DataW.trod_int Tryz.underlying2 f2
      obtain ⟨s, e3, rfl, w3⟩ := DataW.trod_string Tryz.underlying9 f3
      refine ⟨k, a, b, s, by simp_all, r64 w0, r64 w1, r64 w2, hs _ ?_⟩
      simp only [DataW.weights, Tryz.underlying23, List.map_cons, List.map_nil, DataW.weightsEach, List.mem_append]
      right; right; right; left
      exact size_mem (H := H) s
/-- A list of values that came in. -/
def VsOk (w : World) (x : Value) : Prop := x = .slice none 0 0 ∨ ∃ (a : Addr) (len cap : Nat) (Q : Nat → Int × Int × Int × ByteArray), x = .slice (some a) len cap ∧ len ≤ cap ∧ cap * 40 ≤ reachBytes ∧
  ∀ i, i < cap → (∀ j, j < 4 → w.cell? (a.add (i * 4 + j)) = [I (Q i).1, I (Q i).2.1, I (Q i).2.2.1, Value.string (Q i).2.2.2][j]?) ∧ R64 (Q i).1 ∧ R64 (Q i).2.1 ∧ R64 (Q i).2.2.1 ∧ (Q i).2.2.2.size ≤ reachBytes
/-- Bytes that came in. -/
def BsOk (w : World) (x : Value) : Prop := x = .slice none 0 0 ∨ ∃ (a : Addr) (len cap : Nat) (f : Nat → Int), x = .slice (some a) len cap ∧ len ≤ cap ∧ cap ≤ reachBytes ∧ ∀ i, i < cap → w.cell? (a.add i) = some (.int .u8 (f i)) ∧ 0 ≤ f i ∧ f i ≤ 255
theorem small_all {e : TypeId} : ∀ {l : List (DataW H)} {d : DataW H}, d ∈ l → ∀ n ∈ d.weights Tryz.prog e, n ∈ DataW.weightsAll Tryz.prog e l
  | x :: r, d, hd, n, hn => by
    rw [DataW.weightsAll, List.mem_append]
    rcases List.mem_cons.1 hd with rfl | h
    · exact Or.inl hn
    · exact Or.inr (small_all h n hn)
theorem small_elem {t e : TypeId} {elems spare : List (DataW H)} (hu : Tryz.prog.underlying t = some (.slice e)) (hs : Small t (.slice elems spare)) {d : DataW H} (hd : d ∈ elems ∨ d ∈ spare) : Small e d := fun n hn => hs n (by
  simp only [DataW.weights, hu, List.mem_cons, List.mem_append]
  rcases hd with hd | hd
  · exact Or.inr (Or.inl (small_all hd n hn))
  · exact Or.inr (Or.inr (small_all hd n hn)))
theorem small_len {t e : TypeId} {elems spare : List (DataW H)} (hu : Tryz.prog.underlying t = some (.slice e)) (hs : Small t (.slice elems spare)) : (elems.length + spare.length) * Tryz.prog.bytesOf e ≤ reachBytes :=
  hs _ (by simp only [DataW.weights, hu]; exact List.mem_cons_self ..)
theorem small_at {t e : TypeId} {len m : Nat} {D : Nat → DataW H} (hu : Tryz.prog.underlying t = some (.slice e)) (hs : Small t (.slice ((List.range len).map D) ((List.range (m - len)).map fun j => D (len + j)))) {i : Nat} (hi : i < m) : Small e (D i) := by
  refine small_elem hu hs ?_
  by_cases h : i < len
  · exact Or.inl (List.mem_map.2 ⟨i, List.mem_range.2 h, rfl⟩)
  · exact Or.inr (List.mem_map.2 ⟨i - len, List.mem_range.2 (by omega), by rw [show len + (i - len) = i by omega]⟩)
set_option maxRecDepth 100000 in
theorem open_bs {fuel : Nat} {c : Value} {x : DataW H × List MemPlace} (h : trodA enc w fuel 68 [c] = some x) (hs : Small 68 x.1) : BsOk w c := by
  rcases Go.Deep.open_slice Tryz.underlying68 h with ⟨hc, rfl⟩ | ⟨a, len, cap, m, n, D, Pl, hc, _, hl, hm, rfl, rfl, hx⟩
  · exact Or.inl (by simpa using hc)
  · right
    have hlen := small_len Tryz.underlying68 hs
    rw [bytes_u8] at hlen
    simp only [List.length_map, List.length_range] at hlen
    have each : ∀ i, i < m → ∃ q : Int, w.cell? (a.add i) = some (.int .u8 q) ∧ 0 ≤ q ∧ q ≤ 255 := by
      intro i hi
      obtain ⟨cs', h1, h2⟩ := hx i hi
      obtain ⟨q, rfl, _, wq⟩ := DataW.trod_int Tryz.underlying5 h2
      rw [cells_u8] at h1
      obtain ⟨_, _, hcell⟩ := World.cells?_some h1
      have := hcell 0 (by decide)
      rw [Go.Deep.add_add, Nat.mul_one, Nat.add_zero] at this
      exact ⟨q, this, u8b wq⟩
    obtain ⟨f, hf⟩ := Go.Deep.choose_lt each
    exact ⟨a, len, m, f, by simpa using hc, hl, by omega, hf⟩
/-- What is known of an entry that came in. -/
structure EntOk (w : World) (e : Ent) : Prop where
  kind : R64 e.kind
  op : R64 e.op
  k : R64 e.k
  a : R64 e.a
  b : R64 e.b
  s : e.s.size ≤ reachBytes
  k' : R64 e.k'
  a' : R64 e.a'
  b' : R64 e.b'
  s' : e.s'.size ≤ reachBytes
  vs : VsOk w e.vs
  st : e.st.size ≤ reachBytes
  tt : e.tt.size ≤ reachBytes
  bb : BsOk w e.bb
  n : R64 e.n
  x : R64 e.x
  y : R64 e.y
  o1 : R64 e.o1
  o2 : R64 e.o2
end
end Go.Proofs.YthpflfkgbapbnaaGreatDoor
