/- Wire: Frame, the program's and the document's. -/
import Derived.Test.YtcdjjmjhdoanlaaDoorW0
namespace Go.Proofs.YtcdjjmjhdoanlaaDoor
section
section
open Go.RowKit

/-- Two numbers that run over bytes. -/
def sumS (m : Nat) (s : Nat × Nat) (x : Nat) : Nat × Nat := ((s.1 + x) % m, (s.2 + (s.1 + x) % m) % m)
def sumF (m : Nat) (s : Nat × Nat) (l : List Nat) : Nat × Nat := l.foldl (sumS m) s
theorem sumF_snoc (m : Nat) (s : Nat × Nat) (l : List Nat) (i x : Nat) (h : l[i]? = some x) : sumF m s (l.take (i + 1)) = sumS m (sumF m s (l.take i)) x := by
  rw [List.take_add_one, h]
  simp [sumF, List.foldl_append]
theorem sumF_lt (m : Nat) (hm : 0 < m) : ∀ (l : List Nat) (s : Nat × Nat), s.1 < m → s.2 < m → (sumF m s l).1 < m ∧ (sumF m s l).2 < m
  | [], _, h1, h2 => ⟨h1, h2⟩
  | x :: l, s, _, _ => sumF_lt m hm l (sumS m s x) (Nat.mod_lt _ hm) (Nat.mod_lt _ hm)
theorem st255 (c x : Nat) (hc : c < 255) (hx : x < 256) : (wrap64 ((c : Int) + (x : Int))).tmod 255 = (((c + x) % 255 : Nat) : Int) := by
  have e : wrap64 ((c : Int) + (x : Int)) = ((c + x : Nat) : Int) := by unfold wrap64; omega
  rw [e]; rfl
theorem st65 (c x : Nat) (hc : c < 65521) (hx : x < 65521) : ((c : Int) + (x : Int)) % 4294967296 % 65521 = (((c + x) % 65521 : Nat) : Int) := by omega
theorem u8_of (n : Nat) (h : n < 256) : IntKind.u8.wrap (n : Int) = (n : Int) := by simp [IntKind.wrap, IntKind.bits, IntKind.signed]; omega
theorem u32_of (n : Nat) (h : n < 4294967296) : IntKind.u32.wrap (n : Int) = (n : Int) := by simp [IntKind.wrap, IntKind.bits, IntKind.signed]; omega
theorem u8_mod (n : Nat) : IntKind.u8.wrap (n : Int) = ((n % 256 : Nat) : Int) := by simp [IntKind.wrap, IntKind.bits, IntKind.signed]
theorem Rb.at {W : World} {g o n cap : Nat} {l : List Nat} (h : Rb W (.slice (some ⟨g, o, none⟩) n cap) l) {i x : Nat} (hx : l[i]? = some x) : W.cell? ⟨g, o + i, none⟩ = some (bv x) := by
  have := h.one hx 0 rfl
  simpa using this
end
open Go.RowKit

/-- A frame's first six bytes, its first eight, all of it. -/
def hd6 (k n : Nat) : List Nat := [165, 90, k, n / 65536, n / 256 % 256, n % 256]
def hd8 (k n : Nat) : List Nat := hd6 k n ++ [(sumF 255 (0, 0) ((hd6 k n).drop 2)).2, (sumF 255 (0, 0) ((hd6 k n).drop 2)).1]
def tl4 (l : List Nat) : List Nat := [(sumF 65521 (1, 0) (l.drop 2)).2 / 256, (sumF 65521 (1, 0) (l.drop 2)).2 % 256, (sumF 65521 (1, 0) (l.drop 2)).1 / 256, (sumF 65521 (1, 0) (l.drop 2)).1 % 256]
def frB (k : Nat) (b : List Nat) : List Nat := (hd8 k b.length ++ b) ++ tl4 (hd8 k b.length ++ b)
theorem hd6_by (k n : Nat) (hk : k < 256) (hn : n ≤ 2097152) : By (hd6 k n) := fun x hx => by
  simp [hd6] at hx; omega
theorem hd8_by (k n : Nat) (hk : k < 256) (hn : n ≤ 2097152) : By (hd8 k n) := fun x hx => by
  obtain ⟨b1, b2⟩ := sumF_lt 255 (by decide) ((hd6 k n).drop 2) (0, 0) (by decide) (by decide)
  rw [hd8, List.mem_append] at hx
  rcases hx with hx | hx
  · exact hd6_by k n hk hn x hx
  · simp at hx; omega
theorem By.app {a b : List Nat} (h : By a) (k : By b) : By (a ++ b) := fun x hx => (List.mem_append.1 hx).elim (h x) (k x)
theorem tl4_by (l : List Nat) : By (tl4 l) := fun x hx => by
  obtain ⟨b1, b2⟩ := sumF_lt 65521 (by decide) (l.drop 2) (1, 0) (by decide) (by decide)
  simp [tl4] at hx; omega
theorem frB_by (k : Nat) (b : List Nat) (hk : k < 256) (hb : By b) (hn : b.length ≤ 2097152) : By (frB k b) := ((hd8_by k _ hk hn).app hb).app (tl4_by _)
theorem hd8_len (k n : Nat) : (hd8 k n).length = 8 := rfl
theorem frB_len (k : Nat) (b : List Nat) : (frB k b).length = 12 + b.length := by simp [frB, hd8_len, tl4]; omega
theorem mk_B (W : World) (c : Nat) (z : Int) (hz : z = (c : Int)) (hc : c ≤ 140737488355328) : ∃ w', (Instr.makeSlice 23 (.int .i64 0) (.int .i64 z)).run Tryd.prog W = .ok (.slice (some ⟨W.heap.size, 0, none⟩) 0 c) w' ∧ SwB w' (.slice (some ⟨W.heap.size, 0, none⟩) 0 c) [] ∧ G W w' ∧ Fresh W (.slice (some ⟨W.heap.size, 0, none⟩) 0 c) := by
  subst hz
  obtain ⟨i, hi, h0, h1, h2⟩ := info_B
  have hm : (140737488355328 : Nat) ≤ maxLen := of_decide_eq_true (by kernel_rfl)
  obtain ⟨w', q1, q2, q3⟩ := run_make_own (P := Tryd.prog) W 0 23 5 i _ 1 Tryd.underlying23 hi h0 h1 .i64 .i64 c (by rw [h2]; omega) (by omega) (Nat.zero_le _)
  exact ⟨w', q1, Sw.of_row (E := eB) (b := 0) (n := 0) (by simpa [Enc.fl] using q2) rfl, ⟨q3.os, q3.tape, q3.output, q3.size, fun k hk => q3.block k hk (by simp)⟩, fun k e => by simp [Value.ownBlock] at e; omega⟩
end
open Go.RowKit

/-- What Frame answers. -/
def frC (k : Int) (n : Nat) : Nat := if k < 1 ∨ 255 < k then 162 else if 2097152 < n then 163 else 0
def frL (k : Int) (b : List Nat) : List Nat := if frC k b.length = 0 then frB k.toNat b else []
def FrP (k : Int) (b : List Nat) (W : World) (e : Ending) (W' : World) : Prop := ∃ v', e = .returned (.tuple #[v', I (frC k b.length)]) ∧ SwB W' v' (frL k b) ∧ G W W' ∧ Fresh W v'
theorem FrP.bad (k : Int) (b : List Nat) (W : World) (c : Nat) (h : frC k b.length = c) (hc : c ≠ 0) : FrP k b W (.returned (.tuple #[.slice none 0 0, I c])) W :=
  ⟨_, by rw [h], by rw [frL, h, if_neg hc]; exact Sw.nil _ _ _, G.refl _, Fresh.nil _⟩
theorem Row.sub {α : Type} {R : Rel α} {w : World} {g o n cap : Nat} {l : List α} (h : Row R w (.slice (some ⟨g, o, none⟩) n cap) l) (lo m : Nat) (hl : lo + m ≤ l.length) : Row R w (.slice (some ⟨g, o + lo * R.s, none⟩) m (cap - lo)) ((l.drop lo).take m) := by
  obtain ⟨p, c, e, hc, hn, hr⟩ := h
  cases e
  have hll : ((l.drop lo).take m).length = m := by simp; omega
  refine ⟨some ⟨g, o + lo * R.s, none⟩, cap - lo, by rw [hll], by rw [hll]; omega, (fun q => by cases q), fun i x hx => ?_⟩
  rw [List.getElem?_take] at hx
  split at hx
  · rw [List.getElem?_drop] at hx
    obtain ⟨g', o', cs, q, h2, h3⟩ := hr (lo + i) x hx
    cases q
    refine ⟨g, o + lo * R.s, cs, rfl, h2, ?_⟩
    rw [Nat.add_mul, ← Nat.add_assoc] at h3
    exact h3
  · cases hx
theorem Sw.lit {α : Type} {E : Enc α} {ty : TypeId} (w : World) (l : List α) (hm : l.length ≤ maxLen) : Sw E ty (w.alloc (.cells (E.fl l).toArray ty)) (.slice (some ⟨w.heap.size, 0, none⟩) l.length l.length) l :=
  .inr ⟨w.heap.size, l.length, [], rfl, by simpa using Blk.new w (E.fl l) ty, by simp, Nat.le_refl _, hm⟩
theorem Fresh.new (W : World) (n c : Nat) {w : World} (g : G W w) : Fresh W (.slice (some ⟨w.heap.size, 0, none⟩) n c) := fun k e => by simp [Value.ownBlock] at e; have := g.size; omega
end Go.Proofs.YtcdjjmjhdoanlaaDoor
