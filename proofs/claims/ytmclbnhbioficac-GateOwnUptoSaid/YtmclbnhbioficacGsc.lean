/- Gate: a script that came in. -/
import Derived.Test.YtmclbnhbioficacGh1
import Derived.Deep.Slices
import Derived.SizedLaws
import Derived.ProofKit
import Derived.OpenShut
namespace Go.Proofs.Ytmclbnhbioficac
open Go.ChangeShapes Go.WideShapes Go.ChangeAt Go.RowKit

/-- A script that came in. -/
def Ops (w : World) (b off L : Nat) (X : Nat → Int × Int × Bool) : Prop := ∀ i, i < L → w.cell? ⟨b, off + i * 3, none⟩ = some (I (X i).1) ∧ w.cell? ⟨b, off + i * 3 + 1, none⟩ = some (I (X i).2.1) ∧ w.cell? ⟨b, off + i * 3 + 2, none⟩ = some (.bool (X i).2.2)
def Scr (w : World) (v : Value) (L : Nat) (X : Nat → Int × Int × Bool) : Prop := ∃ a cap, v = .slice a L cap ∧ (L = 0 ∨ ∃ b off, a = some ⟨b, off, none⟩ ∧ Ops w b off L X)
theorem cell_lt {w : World} {b o : Nat} {v : Value} (h : w.cell? ⟨b, o, none⟩ = some v) : b < w.heap.size := by
  by_cases hb : b < w.heap.size
  · exact hb
  · have : w.heap[b]? = none := by simp; omega
    simp [World.cell?, this] at h
theorem Ops.G {w w' : World} {b off L : Nat} {X : Nat → Int × Int × Bool} (h : Ops w b off L X) (g : Go.Proofs.Ytmclbnhbioficac.G w w') : Ops w' b off L X := fun i hi => by
  obtain ⟨h1, h2, h3⟩ := h i hi
  exact ⟨by rw [g.cell (cell_lt h1)]; exact h1, by rw [g.cell (cell_lt h2)]; exact h2, by rw [g.cell (cell_lt h3)]; exact h3⟩
theorem Scr.G {w w' : World} {v : Value} {L : Nat} {X : Nat → Int × Int × Bool} (h : Scr w v L X) (g : Go.Proofs.Ytmclbnhbioficac.G w w') : Scr w' v L X := by
  obtain ⟨a, cap, rfl, h⟩ := h
  refine ⟨a, cap, rfl, ?_⟩
  rcases h with h | ⟨b, off, e, h⟩
  · exact .inl h
  · exact .inr ⟨b, off, e, h.G g⟩
theorem Ste.toG {K K' : Nat → Prop} {W w w' : World} (h : Ste K w K' w') (g : Go.Proofs.Ytmclbnhbioficac.G W w) (hK : ∀ k, K k → W.heap.size ≤ k) : Go.Proofs.Ytmclbnhbioficac.G W w' ∧ ∀ k, K' k → W.heap.size ≤ k :=
  ⟨⟨h.chg.os.trans g.os, h.chg.tape.trans g.tape, h.chg.output.trans g.output, Nat.le_trans g.size h.chg.size, fun k hk => (h.chg.block k (Nat.lt_of_lt_of_le hk g.size) (fun e => Nat.not_le.2 hk (hK k e))).trans (g.block k hk)⟩, fun k e => (h.nw k e).elim (hK k) (fun q => Nat.le_trans g.size q)⟩
section
variable {H : Type} {enc : TypeId × Value → H} {w : World}
noncomputable abbrev trodA (enc : TypeId × Value → H) (w : World) (fuel : Nat) (t : TypeId) (cs : List Value) : Option (DataW H × List MemPlace) := DataW.trod enc Try.prog w 0 (fun _ => true) true fuel t cs
theorem spot_of {a : Addr} {v : Value} (h : w.cell? (a.add 0) = some v) : ∃ b o, a = ⟨b, o, none⟩ := by
  obtain ⟨b, o, s⟩ := a
  have e : Addr.add ⟨b, o, s⟩ 0 = ⟨b, o, s⟩ := by simp [Addr.add]
  rw [e] at h
  cases s with
  | none => exact ⟨b, o, rfl⟩
  | some x =>
    unfold World.cell? at h
    split at h
    · simp at h
    · cases h
theorem cells_i : Try.prog.cellsOf 3 = 1 := by kernel_rfl
theorem cells_b : Try.prog.cellsOf 4 = 1 := by kernel_rfl
theorem cells_o : Try.prog.cellsOf 32 = 3 := by kernel_rfl
set_option maxRecDepth 100000 in
theorem open_ops {fuel : Nat} {c : Value} {x : DataW H × List MemPlace} (h : trodA enc w fuel 22 [c] = some x) :
    ∃ (L : Nat) (X : Nat → Int × Int × Bool), Scr w c L X ∧ (L = 0 ∨ ∃ es ss, x.1 = .slice es ss ∧ es.length = L) := by
  rcases Go.Deep.open_slice Try.underlying22 h with ⟨hc, rfl⟩ | ⟨a, len, cap, m, n, D, Pl, hc, _, hl, hm, rfl, rfl, hx⟩
  · obtain rfl : c = .slice none 0 0 := by simpa using hc
    exact ⟨0, fun _ => (0, 0, false), ⟨none, 0, rfl, .inl rfl⟩, .inl rfl⟩
  · have each : ∀ i, i < m → ∃ q : Int × Int × Bool, w.cell? (a.add (i * 3 + 0)) = some (I q.1) ∧ w.cell? (a.add (i * 3 + 1)) = some (I q.2.1) ∧ w.cell? (a.add (i * 3 + 2)) = some (.bool q.2.2) := by
      intro i hi
      obtain ⟨cs', h1, h2⟩ := hx i hi
      obtain ⟨xs, n', rfl, _, hl', hx', hf⟩ := DataW.trod_struct Try.underlying32 h2
      rw [cells_o] at hl' h1
      match cs', hl', h1 with
      | [c0, c1, c2], _, h1 =>
        have f0 : trodA enc w n' 3 (([c0, c1, c2].drop 0).take (Try.prog.cellsOf 3)) = xs[0]? := hf 0 _ rfl
        have f1 : trodA enc w n' 3 (([c0, c1, c2].drop 1).take (Try.prog.cellsOf 3)) = xs[1]? := hf 1 _ rfl
        have f2 : trodA enc w n' 4 (([c0, c1, c2].drop 2).take (Try.prog.cellsOf 4)) = xs[2]? := hf 2 _ rfl
        simp only [cells_i, cells_b, List.drop_zero, List.drop_succ_cons, List.take_succ_cons, List.take_zero] at f0 f1 f2
        match xs, hx' with
        | [y0, y1, y2], _ =>
          simp only [List.getElem?_cons_zero, List.getElem?_cons_succ] at f0 f1 f2
          obtain ⟨q0, e0, _, _⟩ := DataW.trod_int Try.underlying3 f0
          obtain ⟨q1, e1, _, _⟩ := DataW.trod_int Try.underlying3 f1
          obtain ⟨q2, e2, _⟩ := DataW.trod_bool Try.underlying4 f2
          obtain ⟨_, _, hcell⟩ := World.cells?_some h1
          have g0 := hcell 0 (by decide)
          have g1 := hcell 1 (by decide)
          have g2 := hcell 2 (by decide)
          rw [Go.Deep.add_add] at g0 g1 g2
          simp only [List.cons.injEq, and_true] at e0 e1 e2
          rw [e0] at g0; rw [e1] at g1; rw [e2] at g2
          exact ⟨(q0, q1, q2), g0, g1, g2⟩
    obtain ⟨X, hX⟩ := Go.Deep.choose_lt each
    obtain rfl : c = .slice (some a) len m := by simpa using hc
    refine ⟨len, X, ⟨some a, m, rfl, ?_⟩, .inr ⟨_, _, rfl, by simp⟩⟩
    by_cases h0 : len = 0
    · exact .inl h0
    · obtain ⟨b, o, rfl⟩ := spot_of (by have := (hX 0 (by omega)).1; simpa using this)
      refine .inr ⟨b, o, rfl, fun i hi => ?_⟩
      have := hX i (by omega)
      rw [Addr.add_mid, Addr.add_mid, Addr.add_mid, Nat.add_zero, ← Nat.add_assoc, ← Nat.add_assoc] at this
      exact this
end
end Go.Proofs.Ytmclbnhbioficac
