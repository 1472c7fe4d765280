/- What came in, opened: keys, answers, scripts. -/
import Derived.Test.YtbhbmcgjfcgdgaaPa7
import Derived.Test.YtbhbmcgjfcgdgaaRows
import Derived.Deep.Slices
import Derived.SizedLaws
import Derived.ProofKit
namespace Go.Proofs.Ytbhbmcgjfcgdgaa
open Go.ChangeShapes Go.WideShapes Go.ChangeAt Go.RowKit

/-- Bools in a row; steps in a row. -/
def Bools (w : World) (b off L : Nat) (X : Nat → Bool) : Prop := ∀ i, i < L → w.cell? ⟨b, off + i, none⟩ = some (.bool (X i))
def Steps (w : World) (b off L : Nat) (X : Nat → Bool × Bool × Int) : Prop := ∀ i, i < L → w.cell? ⟨b, off + i * 3, none⟩ = some (.bool (X i).1) ∧ w.cell? ⟨b, off + i * 3 + 1, none⟩ = some (.bool (X i).2.1) ∧ w.cell? ⟨b, off + i * 3 + 2, none⟩ = some (I (X i).2.2) ∧ -9223372036854775808 ≤ (X i).2.2 ∧ (X i).2.2 ≤ 9223372036854775807
theorem Bools.G {w w' : World} {b off L : Nat} {X : Nat → Bool} (h : Bools w b off L X) (g : Go.Proofs.Ytbhbmcgjfcgdgaa.G w w') : Bools w' b off L X := fun i hi => by rw [g.cell (cell_lt (h i hi))]; exact h i hi
theorem Steps.G {w w' : World} {b off L : Nat} {X : Nat → Bool × Bool × Int} (h : Steps w b off L X) (g : Go.Proofs.Ytbhbmcgjfcgdgaa.G w w') : Steps w' b off L X := fun i hi => by
  obtain ⟨h1, h2, h3, h4⟩ := h i hi
  exact ⟨by rw [g.cell (cell_lt h1)]; exact h1, by rw [g.cell (cell_lt h2)]; exact h2, by rw [g.cell (cell_lt h3)]; exact h3, h4⟩
theorem cells_n : Try.prog.cellsOf 2 = 1 := by kernel_rfl
theorem cells_b : Try.prog.cellsOf 4 = 1 := by kernel_rfl
theorem cells_s : Try.prog.cellsOf 37 = 3 := by kernel_rfl
theorem r64 {n : Int} (h : (Lit.int .i64 n).wf = true) : -9223372036854775808 ≤ n ∧ n ≤ 9223372036854775807 := by
  simpa [Lit.wf, IntKind.min, IntKind.max, IntKind.signed, IntKind.bits] using h
section
variable {H : Type} {enc : TypeId × Value → H} {w : World}
theorem bulk_pos (d : DataW H) : 1 ≤ Rows.uptoBulk d := by
  cases d with
  | lit l => cases l <;> simp [Rows.uptoBulk]
  | _ => simp [Rows.uptoBulk]
theorem bulk_mem : ∀ {l : List (DataW H)} {d : DataW H}, d ∈ l → Rows.uptoBulk d ≤ Rows.uptoBulkAll l
  | x :: r, d, h => by
    simp only [Rows.uptoBulkAll]
    rcases List.mem_cons.1 h with rfl | h
    · omega
    · have := bulk_mem h; omega
theorem bulk_len : ∀ l : List (DataW H), l.length ≤ Rows.uptoBulkAll l
  | [] => by simp
  | x :: r => by
    have := bulk_pos x
    have := bulk_len r
    simp only [Rows.uptoBulkAll, List.length_cons]
    omega
theorem bulk_slice (es sp : List (DataW H)) : es.length ≤ Rows.uptoBulk (.slice es sp) := by
  have := bulk_len es
  simp only [Rows.uptoBulk]
  omega
theorem bulk_elem {es sp : List (DataW H)} {d : DataW H} (h : d ∈ es) : Rows.uptoBulk d ≤ Rows.uptoBulk (.slice es sp) := by
  have := bulk_mem h
  simp only [Rows.uptoBulk]
  omega
theorem bulk_part {ps : List (DataW H)} {d : DataW H} (h : d ∈ ps) : Rows.uptoBulk d ≤ Rows.uptoBulk (.agg ps) := by
  have := bulk_mem h
  simp only [Rows.uptoBulk]
  omega
noncomputable abbrev trodA (enc : TypeId × Value → H) (w : World) (fuel : Nat) (t : TypeId) (cs : List Value) : Option (DataW H × List MemPlace) := DataW.trod enc Try.prog w 0 (fun _ => true) true fuel t cs
theorem spot_of {a : Addr} {v : Value} (h : w.cell? (a.add 0) = some v) : ∃ b o, a = ⟨b, o, none⟩ := by
  obtain ⟨b, o, s⟩ := a
  have e : Addr.add ⟨b, o, s⟩ 0 = ⟨b, o, s⟩ := by simp [Addr.add]
  rw [e] at h
  cases s with
  | none => exact ⟨b, o, rfl⟩
  | some x =>
    unfold World.cell? at h
    split at h
    · simp at h
    · cases h
theorem open_n {fuel : Nat} {c : Value} {x : DataW H × List MemPlace} (h : trodA enc w fuel 22 [c] = some x) :
    ∃ (L : Nat) (X : Nat → Int), L ≤ Rows.uptoBulk x.1 ∧ ∃ a cap, c = .slice a L cap ∧ (L = 0 ∨ ∃ b off, a = some ⟨b, off, none⟩ ∧ Nums w b off L X) := by
  rcases Go.Deep.open_slice Try.underlying22 h with ⟨hc, rfl⟩ | ⟨a, len, cap, m, n, D, Pl, hc, _, hl, hm, rfl, rfl, hx⟩
  · obtain rfl : c = .slice none 0 0 := by simpa using hc
    exact ⟨0, fun _ => 0, Nat.zero_le _, none, 0, rfl, .inl rfl⟩
  · have each : ∀ i, i < m → ∃ q : Int, w.cell? (a.add i) = some (I q) := by
      intro i hi
      obtain ⟨cs', h1, h2⟩ := hx i hi
      obtain ⟨q, rfl, _, wq⟩ := DataW.trod_int Try.underlying2 h2
      rw [cells_n] at h1
      obtain ⟨_, _, hcell⟩ := World.cells?_some h1
      have h3 := hcell 0 (by decide)
      rw [Go.Deep.add_add, Nat.mul_one, Nat.add_zero] at h3
      exact ⟨q, h3⟩
    obtain ⟨X, hX⟩ := Go.Deep.choose_lt each
    obtain rfl : c = .slice (some a) len m := by simpa using hc
    refine ⟨len, X, ?_, some a, m, rfl, ?_⟩
    · have := bulk_slice ((List.range len).map D) ((List.range (m - len)).map fun j => D (len + j))
      simpa using this
    · by_cases h0 : len = 0
      · exact .inl h0
      · obtain ⟨b, o, rfl⟩ := spot_of (hX 0 (by omega))
        refine .inr ⟨b, o, rfl, fun i hi => ?_⟩
        have := hX i (by omega)
        rw [Addr.add_mid] at this
        exact this
theorem open_b {fuel : Nat} {c : Value} {x : DataW H × List MemPlace} (h : trodA enc w fuel 29 [c] = some x) :
    ∃ (L : Nat) (X : Nat → Bool), L ≤ Rows.uptoBulk x.1 ∧ ∃ a cap, c = .slice a L cap ∧ (L = 0 ∨ ∃ b off, a = some ⟨b, off, none⟩ ∧ Bools w b off L X) := by
  rcases Go.Deep.open_slice Try.underlying29 h with ⟨hc, rfl⟩ | ⟨a, len, cap, m, n, D, Pl, hc, _, hl, hm, rfl, rfl, hx⟩
  · obtain rfl : c = .slice none 0 0 := by simpa using hc
    exact ⟨0, fun _ => false, Nat.zero_le _, none, 0, rfl, .inl rfl⟩
  · have each : ∀ i, i < m → ∃ q : Bool, w.cell? (a.add i) = some (.bool q) := by
      intro i hi
      obtain ⟨cs', h1, h2⟩ := hx i hi
      obtain ⟨q, rfl, _⟩ := DataW.trod_bool Try.underlying4 h2
      rw [cells_b] at h1
      obtain ⟨_, _, hcell⟩ := World.cells?_some h1
      have h3 := hcell 0 (by decide)
      rw [Go.Deep.add_add, Nat.mul_one, Nat.add_zero] at h3
      exact ⟨q, h3⟩
    obtain ⟨X, hX⟩ := Go.Deep.choose_lt each
    obtain rfl : c = .slice (some a) len m := by simpa using hc
    refine ⟨len, X, ?_, some a, m, rfl, ?_⟩
    · have := bulk_slice ((List.range len).map D) ((List.range (m - len)).map fun j => D (len + j))
      simpa using this
    · by_cases h0 : len = 0
      · exact .inl h0
      · obtain ⟨b, o, rfl⟩ := spot_of (hX 0 (by omega))
        refine .inr ⟨b, o, rfl, fun i hi => ?_⟩
        have := hX i (by omega)
        rw [Addr.add_mid] at this
        exact this
set_option maxRecDepth 100000 in
theorem open_s {fuel : Nat} {c : Value} {x : DataW H × List MemPlace} (h : trodA enc w fuel 34 [c] = some x) :
    ∃ (L : Nat) (X : Nat → (Bool × Bool × Int)), L ≤ Rows.uptoBulk x.1 ∧ ∃ a cap, c = .slice a L cap ∧ (L = 0 ∨ ∃ b off, a = some ⟨b, off, none⟩ ∧ Steps w b off L X) := by
  rcases Go.Deep.open_slice Try.underlying34 h with ⟨hc, rfl⟩ | ⟨a, len, cap, m, n, D, Pl, hc, _, hl, hm, rfl, rfl, hx⟩
  · obtain rfl : c = .slice none 0 0 := by simpa using hc
    exact ⟨0, fun _ => (false, false, 0), Nat.zero_le _, none, 0, rfl, .inl rfl⟩
  · have each : ∀ i, i < m → ∃ q : (Bool × Bool × Int), w.cell? (a.add (i * 3 + 0)) = some (.bool q.1) ∧ w.cell? (a.add (i * 3 + 1)) = some (.bool q.2.1) ∧ w.cell? (a.add (i * 3 + 2)) = some (I q.2.2) ∧ -9223372036854775808 ≤ q.2.2 ∧ q.2.2 ≤ 9223372036854775807 := by
      intro i hi
      obtain ⟨cs', h1, h2⟩ := hx i hi
      obtain ⟨xs, n', rfl, _, hl', hx', hf⟩ := DataW.trod_struct Try.underlying37 h2
      rw [cells_s] at hl' h1
      match cs', hl', h1 with
      | [c0, c1, c2], _, h1 =>
        have f0 : trodA enc w n' 4 (([c0, c1, c2].drop 0).take (Try.prog.cellsOf 4)) = xs[0]? := hf 0 _ rfl
        have f1 : trodA enc w n' 4 (([c0, c1, c2].drop 1).take (Try.prog.cellsOf 4)) = xs[1]? := hf 1 _ rfl
        have f2 : trodA enc w n' 2 (([c0, c1, c2].drop 2).take (Try.prog.cellsOf 2)) = xs[2]? := hf 2 _ rfl
        simp only [cells_n, cells_b, List.drop_zero, List.drop_succ_cons, List.take_succ_cons, List.take_zero] at f0 f1 f2
        match xs, hx' with
        | [y0, y1, y2], _ =>
          simp only [List.getElem?_cons_zero, List.getElem?_cons_succ] at f0 f1 f2
          obtain ⟨q0, e0, _⟩ := DataW.trod_bool Try.underlying4 f0
          obtain ⟨q1, e1, _⟩ := DataW.trod_bool Try.underlying4 f1
          obtain ⟨q2, e2, _, w2⟩ := DataW.trod_int Try.underlying2 f2
          obtain ⟨_, _, hcell⟩ := World.cells?_some h1
          have g0 := hcell 0 (by decide)
          have g1 := hcell 1 (by decide)
          have g2 := hcell 2 (by decide)
          rw [Go.Deep.add_add] at g0 g1 g2
          simp only [List.cons.injEq, and_true] at e0 e1 e2
          rw [e0] at g0; rw [e1] at g1; rw [e2] at g2
          exact ⟨(q0, q1, q2), g0, g1, g2, r64 w2⟩
    obtain ⟨X, hX⟩ := Go.Deep.choose_lt each
    obtain rfl : c = .slice (some a) len m := by simpa using hc
    refine ⟨len, X, ?_, some a, m, rfl, ?_⟩
    · have := bulk_slice ((List.range len).map D) ((List.range (m - len)).map fun j => D (len + j))
      simpa using this
    · by_cases h0 : len = 0
      · exact .inl h0
      · obtain ⟨b, o, rfl⟩ := spot_of (by have := (hX 0 (by omega)).1; rwa [Nat.zero_mul, Nat.add_zero] at this)
        refine .inr ⟨b, o, rfl, fun i hi => ?_⟩
        have := hX i (by omega)
        rw [Addr.add_mid, Addr.add_mid, Addr.add_mid, Nat.add_zero, ← Nat.add_assoc, ← Nat.add_assoc] at this
        exact this
end
end Go.Proofs.Ytbhbmcgjfcgdgaa
