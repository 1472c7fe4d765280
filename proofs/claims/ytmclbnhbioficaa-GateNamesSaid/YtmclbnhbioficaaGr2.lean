/- The document's gate in memory; New, Submit, End, Swept, Picked. -/
import Derived.Test.YtmclbnhbioficaaGr1
namespace Go.Proofs.Ytmclbnhbioficaa
open Go.RowKit

/-- The queue, as the document has it. -/
def GM.qO (m : GM) : List It := m.q.map fun x => (x, 0)
theorem qO_ids (m : GM) : m.qO.map (·.1.1) = m.qids := by simp [GM.qO, GM.qids]
theorem qO_len (m : GM) : m.qO.length = m.q.length := by simp [GM.qO]
def rcs (m : GM) (vq vi : Value) : List Value := [I m.mo, I m.un, I m.lg, I m.ck, I m.sw, I m.sp, vq, vi]
structure RGx (w : World) (b : Nat) (m : GM) (K : Nat → Prop) (vq vi : Value) : Prop where
  blk : Blk w b 71 (rcs m vq vi)
  q : SwO w vq m.qO
  i : SwO w vi m.ins
  ap : ∀ k, vq.ownBlock = some k → vi.ownBlock ≠ some k
  kb : K b
  kq : ∀ k, vq.ownBlock = some k → K k
  ki : ∀ k, vi.ownBlock = some k → K k
  lt : ∀ k, K k → k < w.heap.size
def RG (w : World) (b : Nat) (m : GM) (K : Nat → Prop) : Prop := ∃ vq vi, RGx w b m K vq vi
theorem RGx.keep {w w' : World} {b : Nat} {m : GM} {K : Nat → Prop} {vq vi : Value} (h : RGx w b m K vq vi) (hs : w.heap.size ≤ w'.heap.size) (hb : ∀ k, K k → w'.heap[k]? = w.heap[k]?) : RGx w' b m K vq vi :=
  ⟨h.blk.keep (hb b h.kb), h.q.keep (fun k e => hb k (h.kq k e)), h.i.keep (fun k e => hb k (h.ki k e)), h.ap, h.kb, h.kq, h.ki, fun k e => Nat.lt_of_lt_of_le (h.lt k e) hs⟩
theorem RGx.G {w w' : World} {b : Nat} {m : GM} {K : Nat → Prop} {vq vi : Value} (h : RGx w b m K vq vi) (g : Go.Proofs.Ytmclbnhbioficaa.G w w') : RGx w' b m K vq vi := h.keep g.size (fun k hk => g.block k (h.lt k hk))
theorem RG.G {w w' : World} {b : Nat} {m : GM} {K : Nat → Prop} (h : RG w b m K) (g : Go.Proofs.Ytmclbnhbioficaa.G w w') : RG w' b m K := by
  obtain ⟨vq, vi, h⟩ := h
  exact ⟨vq, vi, h.G g⟩
theorem RG.off {w w' : World} {b : Nat} {m : GM} {K F : Nat → Prop} (h : RG w b m K) (c : Chg F w w') (hF : ∀ k, K k → ¬ F k) : RG w' b m K := by
  obtain ⟨vq, vi, h⟩ := h
  exact ⟨vq, vi, h.keep c.size (fun k hk => c.block k (h.lt k hk) (hF k hk))⟩
theorem RG.lt {w : World} {b : Nat} {m : GM} {K : Nat → Prop} (h : RG w b m K) : ∀ k, K k → k < w.heap.size := by
  obtain ⟨vq, vi, h⟩ := h
  exact h.lt
theorem RGx.cells {w : World} {b : Nat} {m : GM} {K : Nat → Prop} {vq vi : Value} (h : RGx w b m K vq vi) : ∀ o, w.cell? ⟨b, o, none⟩ = ([I m.mo, I m.un, I m.lg, I m.ck, I m.sw, I m.sp, vq, vi] : List Value)[o]? := h.blk.cell
/-- A field is stored that is no list. -/
theorem RGx.field {w : World} {b : Nat} {m m' : GM} {K : Nat → Prop} {vq vi : Value} (h : RGx w b m K vq vi) (o : Nat) (u : Value) (e : (rcs m vq vi).set o u = rcs m' vq vi) (hq : m'.q = m.q) (hi : m'.ins = m.ins) : RGx (w.setCell ⟨b, o, none⟩ u) b m' K vq vi :=
  ⟨by rw [← e]; exact h.blk.set o u, by unfold GM.qO; rw [hq]; exact h.q.off (h.q.ne h.blk (by decide)), by rw [hi]; exact h.i.off (h.i.ne h.blk (by decide)), h.ap, h.kb, h.kq, h.ki, fun k hk => by simpa using h.lt k hk⟩
theorem RGx.ste {w : World} {b : Nat} {m : GM} {K : Nat → Prop} {vq vi : Value} (h : RGx w b m K vq vi) (o : Nat) (u : Value) : Ste K w K (w.setCell ⟨b, o, none⟩ u) := ⟨chg_setCell _ _ (.inl h.kb), fun _ q => .inl q⟩
set_option maxRecDepth 100000 in
set_option maxHeartbeats 1000000 in
theorem rnew_no (mo un : Int) (W : World) (h : ¬ (1 ≤ mo ∧ mo ≤ 16 ∧ 1 ≤ un ∧ un ≤ 64)) : Calls Try.prog 10 #[I mo, I un] W fun e W' => e = .returned (.tuple #[.pointer none, I 150]) ∧ W' = W := by
  by_cases h1 : mo < 1
  · go_enter Try.func10, Try.ntmps10
    go_wp2_with fail
    go_ret2
    exact ⟨rfl, rfl⟩
  by_cases h2 : mo > 16
  · go_enter Try.func10, Try.ntmps10
    go_wp2_with fail
    go_ret2
    exact ⟨rfl, rfl⟩
  by_cases h3 : un < 1
  · go_enter Try.func10, Try.ntmps10
    go_wp2_with fail
    go_ret2
    exact ⟨rfl, rfl⟩
  have h4 : un > 64 := by omega
  go_enter Try.func10, Try.ntmps10
  go_wp2_with fail
  go_ret2
  exact ⟨rfl, rfl⟩
def RNewP (mo un : Int) (W : World) (e : Ending) (W' : World) : Prop := ∃ (b : Nat) (K : Nat → Prop), e = .returned (.tuple #[ptr b, I 0]) ∧ RG W' b (new0 mo un) K ∧ G W W' ∧ (∀ k, K k → W.heap.size ≤ k)
set_option maxRecDepth 100000 in
set_option maxHeartbeats 1000000 in
theorem rnew_ok (mo un : Int) (W : World) (m1 : 1 ≤ mo) (m2 : mo ≤ 16) (u1 : 1 ≤ un) (u2 : un ≤ 64) : Calls Try.prog 10 #[I mo, I un] W fun e W' => RNewP mo un W e W' := by
  have h1 : ¬ (mo < 1) := by omega
  have h2 : ¬ (mo > 16) := by omega
  have h3 : ¬ (un < 1) := by omega
  have h4 : ¬ (un > 64) := by omega
  clear m1 m2 u1 u2
  go_enter Try.func10, Try.ntmps10
  go_wp2_with fail
  go_ret2
  have hA := (G.refl W).alloc (.cells #[I mo, I un, I 0, I 0, I 0, I 0, .slice none 0 0, .slice none 0 0] 71)
  have hX := Blk.new W [I mo, I un, I 0, I 0, I 0, I 0, .slice none 0 0, .slice none 0 0] 71
  refine ⟨W.heap.size, fun k => k = W.heap.size, rfl, ⟨.slice none 0 0, .slice none 0 0, hX, Sw.nil _ _ _, Sw.nil _ _ _, fun k e => by simp [Value.ownBlock] at e, rfl, fun k e => by simp [Value.ownBlock] at e, fun k e => by simp [Value.ownBlock] at e, fun k e => by have e2 : k = W.heap.size := e; simp; omega⟩, hA, fun k e => by have e2 : k = W.heap.size := e; omega⟩
/-- What at answers. -/
def atI (l : List It) (id : Int) : Int := if id ∈ l.map (·.1.1) then (((l.map (·.1.1)).idxOf id : Nat) : Int) else -1
theorem atI_neg {l : List It} {id : Int} : atI l id < 0 ↔ id ∉ l.map (·.1.1) := by
  unfold atI
  split
  · rename_i h
    simp only [h, not_true_eq_false, iff_false]
    omega
  · rename_i h
    simp only [h, not_false_eq_true, iff_true]
    decide
end Go.Proofs.Ytmclbnhbioficaa
