/- A script is played. -/
import Derived.Test.YtbjbphhcmmaaoaaLwF
namespace Go.Proofs.Ytbjbphhcmmaaoaa
open Go.RowKit

/-- The two pairs of disks, seen from pair s. -/
structure TW' (w : World) (z t s B : Nat) (cs : List Value) (pv rv : Value) (FP FR : Nat → Prop) (mo : Option DM) (pv' rv' : Value) (FP' FR' : Nat → Prop) (mo' : Option DM) : Prop where
  a : SS w t s cs pv rv FP FR mo
  b : SS w t (1 - s) cs pv' rv' FP' FR' mo'
  p : ∀ k, FP k ∨ FR k → z ≤ k ∧ ¬ (FP' k ∨ FR' k)
  q : ∀ k, FP' k ∨ FR' k → z ≤ k ∧ ¬ (FP k ∨ FR k)
  x : fewO mo B
  y : fewO mo' B
  z : z ≤ t
def TW (w : World) (z t s B : Nat) : Prop := ∃ cs pv rv FP FR mo pv' rv' FP' FR' mo', TW' w z t s B cs pv rv FP FR mo pv' rv' FP' FR' mo'
theorem TW.flip {w : World} {z t s B : Nat} (h : TW w z t s B) : TW w z t (1 - s) B := by
  obtain ⟨cs, pv, rv, FP, FR, mo, pv', rv', FP', FR', mo', h⟩ := h
  have hs : 1 - (1 - s) = s := by have := h.a.s2; omega
  exact ⟨cs, pv', rv', FP', FR', mo', pv, rv, FP, FR, mo, h.b, by rw [hs]; exact h.a, h.q, h.p, h.y, h.x, h.z⟩
theorem TW.at {w : World} {z t s s' B : Nat} (h : TW w z t s B) (hs : s' < 2) : TW w z t s' B := by
  have h2 : s < 2 := by obtain ⟨cs, pv, rv, FP, FR, mo, pv', rv', FP', FR', mo', h⟩ := h; exact h.a.s2
  by_cases he : s' = s
  · rw [he]; exact h
  · rw [show s' = 1 - s by omega]; exact h.flip
theorem TW'.G {w w' : World} {z t s B : Nat} {cs : List Value} {pv rv : Value} {FP FR : Nat → Prop} {mo : Option DM} {pv' rv' : Value} {FP' FR' : Nat → Prop} {mo' : Option DM} (h : TW' w z t s B cs pv rv FP FR mo pv' rv' FP' FR' mo') (g : Go.Proofs.Ytbjbphhcmmaaoaa.G w w') : TW' w' z t s B cs pv rv FP FR mo pv' rv' FP' FR' mo' :=
  ⟨h.a.G g, h.b.G g, h.p, h.q, h.x, h.y, h.z⟩
theorem TW.G {w w' : World} {z t s B : Nat} (h : TW w z t s B) (g : Go.Proofs.Ytbjbphhcmmaaoaa.G w w') : TW w' z t s B := by
  obtain ⟨cs, pv, rv, FP, FR, mo, pv', rv', FP', FR', mo', h⟩ := h
  exact ⟨cs, pv, rv, FP, FR, mo, pv', rv', FP', FR', mo', h.G g⟩
/-- What lies behind a step. -/
theorem TW'.step {w w' : World} {z t s B : Nat} {cs : List Value} {pv rv : Value} {FP FR : Nat → Prop} {mo : Option DM} {pv' rv' : Value} {FP' FR' : Nat → Prop} {mo' : Option DM} (h : TW' w z t s B cs pv rv FP FR mo pv' rv' FP' FR' mo') (k : StepA w t s cs FP FR B w') :
    TW w' z t s (B + 1) ∧ Chg (fun j => z ≤ j) w w' ∧ Chg (fun j => FP j ∨ FR j ∨ j = t) w w' := by
  obtain ⟨cs1, pv1, rv1, FP1, FR1, mo1, s1, c1, n1, o1, f1⟩ := k
  have hs := h.a.s2
  have hz := h.z
  have ht := h.a.bt.lt
  refine ⟨⟨cs1, pv1, rv1, FP1, FR1, mo1, pv', rv', FP', FR', mo', s1, ⟨s1.bt, s1.cl, by omega, ?_, ?_, ?_, ?_, h.b.d1, fun j hj => ⟨(h.b.d2 j hj).1, Nat.lt_of_lt_of_le (h.b.d2 j hj).2 c1.size⟩⟩, fun j hj => ?_, fun j hj => ⟨(h.q j hj).1, fun hn => ?_⟩, f1, h.y.up, hz⟩, ?_, c1⟩
  · rw [o1 _ (by omega) (by omega)]; exact h.b.cp
  · rw [o1 _ (by omega) (by omega)]; exact h.b.cr
  · exact h.b.sp.chg c1 (fun j hj e => by
      rcases e with e | e | e
      · exact (h.q j (.inl hj)).2 (.inl e)
      · exact (h.q j (.inl hj)).2 (.inr e)
      · exact (h.b.d2 j (.inl hj)).1 e)
  · exact h.b.sr.chg c1 (fun j hj e => by
      rcases e with e | e | e
      · exact (h.q j (.inr hj)).2 (.inl e)
      · exact (h.q j (.inr hj)).2 (.inr e)
      · exact (h.b.d2 j (.inr hj)).1 e)
  · rcases n1 j hj with e | e | e
    · exact h.p j (.inl e)
    · exact h.p j (.inr e)
    · exact ⟨by omega, fun x => by have := (h.b.d2 j x).2; omega⟩
  · rcases n1 j hn with e | e | e
    · exact (h.q j hj).2 (.inl e)
    · exact (h.q j hj).2 (.inr e)
    · have := (h.b.d2 j hj).2; omega
  · refine c1.mono (fun j e => ?_)
    rcases e with e | e | e
    · exact (h.p j (.inl e)).1
    · exact (h.p j (.inr e)).1
    · omega
/-- Only what is new since w has turned. -/
theorem G.trans2 {w a b : World} (h : Go.Proofs.Ytbjbphhcmmaaoaa.G w a) (k : Chg (fun j => w.heap.size ≤ j) a b) : Go.Proofs.Ytbjbphhcmmaaoaa.G w b :=
  ((h.chg (F := fun j => w.heap.size ≤ j)).trans k).G (fun _ h => h)
/-- A script's entries, in memory. -/
def Ops (w : World) (b off n : Nat) (E : Nat → Op) : Prop := ∀ i, i < n → w.rangeAt b (off + i * 5) (E i).L
/-- Both disks of a pair are there, or neither. -/
theorem SS.nils {w : World} {t s : Nat} {cs : List Value} {pv rv : Value} {FP FR : Nat → Prop} {mo : Option DM} (h : SS w t s cs pv rv FP FR mo) : (pv = .pointer none ∧ rv = .pointer none) ∨ ∃ a b, pv = .pointer (some a) ∧ rv = .pointer (some b) := by
  have h1 := h.sp
  have h2 := h.sr
  cases mo with
  | none => exact .inl ⟨h1, h2⟩
  | some m =>
    obtain ⟨p, e1, _⟩ := h1
    obtain ⟨q, e2, _⟩ := h2
    exact .inr ⟨_, _, e1, e2⟩
theorem TW.new (w : World) : TW (w.alloc (.cells #[.pointer none, .pointer none, .pointer none, .pointer none] 57)) w.heap.size w.heap.size 0 0 := by
  have hb := Blk.new w [.pointer none, .pointer none, .pointer none, .pointer none] 57
  refine ⟨_, .pointer none, .pointer none, fun _ => False, fun _ => False, none, .pointer none, .pointer none, fun _ => False, fun _ => False, none, ⟨⟨hb, rfl, by decide, rfl, rfl, rfl, rfl, fun _ h => h.elim, fun _ h => by simp at h⟩, ⟨hb, rfl, by decide, rfl, rfl, rfl, rfl, fun _ h => h.elim, fun _ h => by simp at h⟩, fun _ h => by simp at h, fun _ h => by simp at h, fun _ h => (by cases h), fun _ h => (by cases h), Nat.le_refl _⟩⟩
end Go.Proofs.Ytbjbphhcmmaaoaa
