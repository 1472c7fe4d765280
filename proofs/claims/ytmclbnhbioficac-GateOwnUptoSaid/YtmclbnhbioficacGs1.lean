/- Gate: rows of our own, whatever they hold. -/
import Derived.Test.YtmclbnhbioficacGt1
namespace Go.Proofs.Ytmclbnhbioficac
open Go.RowKit

/-- What is laid in a row: how one is written in cells. -/
structure Enc (α : Type) where
  e : α → List Value
  s : Nat
  hs : ∀ a, (e a).length = s
  one : ∀ a, ∀ u ∈ e a, u.oneCell' = true
namespace Enc
variable {α : Type} (E : Enc α)
def fl (l : List α) : List Value := l.flatMap E.e
theorem fl_cons (a : α) (l : List α) : E.fl (a :: l) = E.e a ++ E.fl l := by simp [fl]
theorem len (l : List α) : (E.fl l).length = l.length * E.s := by
  induction l with
  | nil => simp [fl]
  | cons a l ih => rw [fl_cons, List.length_append, ih, E.hs, List.length_cons, Nat.succ_mul, Nat.add_comm]
theorem app (a b : List α) : E.fl (a ++ b) = E.fl a ++ E.fl b := by unfold fl; exact List.flatMap_append
theorem snoc (a : List α) (x : α) : E.fl (a ++ [x]) = E.fl a ++ E.e x := by rw [app]; simp [fl]
theorem ones (l : List α) : ∀ u ∈ E.fl l, u.oneCell' = true := fun u hu => by
  obtain ⟨a, _, h⟩ := List.mem_flatMap.1 hu
  exact E.one a u h
theorem get : ∀ (l : List α) (i : Nat) (x : α), l[i]? = some x → ∀ j, j < E.s → (E.fl l)[i * E.s + j]? = (E.e x)[j]?
  | [], i, x, h, _, _ => by simp at h
  | a :: l, 0, x, h, j, hj => by
    simp at h; subst h
    rw [fl_cons, List.getElem?_append_left (by rw [E.hs]; omega)]
    simp
  | a :: l, i + 1, x, h, j, hj => by
    have := get l i x (by simpa using h) j hj
    rw [fl_cons, List.getElem?_append_right (by rw [E.hs, Nat.succ_mul]; omega), E.hs, show (i + 1) * E.s + j - E.s = i * E.s + j by rw [Nat.succ_mul]; omega]
    exact this
end Enc
/-- A slice of our own that holds these, at the beginning of its block. -/
def Sw {α : Type} (E : Enc α) (ty : TypeId) (w : World) (v : Value) (l : List α) : Prop :=
  (v = .slice none 0 0 ∧ l = []) ∨ ∃ g cap rest, v = .slice (some ⟨g, 0, none⟩) l.length cap ∧ Blk w g ty (E.fl l ++ rest) ∧ l.length * E.s + rest.length = cap * E.s ∧ l.length ≤ cap ∧ cap ≤ maxLen
section
variable {α : Type} {E : Enc α} {ty : TypeId} {w w' : World} {v : Value} {l : List α}
theorem Sw.nil (E : Enc α) (ty : TypeId) (w : World) : Sw E ty w (.slice none 0 0) [] := .inl ⟨rfl, rfl⟩
theorem Sw.keep (h : Sw E ty w v l) (hb : ∀ b, v.ownBlock = some b → w'.heap[b]? = w.heap[b]?) : Sw E ty w' v l := by
  rcases h with h | ⟨g, cap, rest, rfl, h2, h3⟩
  · exact .inl h
  · exact .inr ⟨g, cap, rest, rfl, h2.keep (hb g rfl), h3⟩
theorem Sw.lt (h : Sw E ty w v l) {b : Nat} (hb : v.ownBlock = some b) : b < w.heap.size := by
  rcases h with ⟨rfl, _⟩ | ⟨g, cap, rest, rfl, h2, _⟩
  · simp [Value.ownBlock] at hb
  · simp [Value.ownBlock] at hb; subst hb; exact h2.lt
theorem Sw.G (h : Sw E ty w v l) (g : Go.Proofs.Ytmclbnhbioficac.G w w') : Sw E ty w' v l := h.keep fun b hb => g.block b (h.lt hb)
theorem Sw.chg {F : Nat → Prop} (h : Sw E ty w v l) (g : Chg F w w') (hF : ∀ b, v.ownBlock = some b → ¬ F b) : Sw E ty w' v l := h.keep fun b hb => g.block b (h.lt hb) (hF b hb)
theorem Sw.off {b o : Nat} {u : Value} (h : Sw E ty w v l) (hb : v.ownBlock ≠ some b) : Sw E ty (w.setCell ⟨b, o, none⟩ u) v l := h.keep fun _ hk => Below.heap_setCell _ _ _ _ (fun e => hb (hk.trans (congrArg some e)))
theorem Sw.ne (h : Sw E ty w v l) {g : Nat} {t2 : TypeId} {xs : List Value} (hb : Blk w g t2 xs) (hne : ty ≠ t2) : v.ownBlock ≠ some g := fun e => by
  rcases h with ⟨rfl, _⟩ | ⟨g', cap, rest, rfl, h2, _⟩
  · simp [Value.ownBlock] at e
  · simp [Value.ownBlock] at e; subst e; exact h2.ne hb hne rfl
theorem Sw.form (h : Sw E ty w v l) : ∃ a c, v = .slice a l.length c := by
  rcases h with ⟨rfl, rfl⟩ | ⟨g, cap, rest, rfl, _⟩ <;> exact ⟨_, _, rfl⟩
theorem Sw.slice (h : Sw E ty w v l) (hl : 0 < l.length) : ∃ g cap, v = .slice (some ⟨g, 0, none⟩) l.length cap := by
  rcases h with ⟨_, rfl⟩ | ⟨g, cap, rest, rfl, _⟩
  · simp at hl
  · exact ⟨g, cap, rfl⟩
theorem Sw.at {g n cap : Nat} (h : Sw E ty w (.slice (some ⟨g, 0, none⟩) n cap) l) {i : Nat} {x : α} (hi : l[i]? = some x) (j : Nat) (hj : j < E.s) : w.cell? ⟨g, i * E.s + j, none⟩ = (E.e x)[j]? := by
  rcases h with ⟨e, _⟩ | ⟨g', cap', rest, e, hb, _⟩
  · cases e
  · simp only [Value.slice.injEq, Option.some.injEq, Addr.mk.injEq] at e
    obtain ⟨⟨rfl, -, -⟩, rfl, rfl⟩ := e
    have hl := (List.getElem?_eq_some_iff.1 hi).1
    rw [hb.cell, List.getElem?_append_left, E.get l i x hi j hj]
    rw [E.len]
    have : (i + 1) * E.s ≤ l.length * E.s := Nat.mul_le_mul_right _ hl
    rw [Nat.succ_mul] at this
    omega
theorem Sw.open {g n cap : Nat} (h : Sw E ty w (.slice (some ⟨g, 0, none⟩) n cap) l) : n = l.length ∧ ∃ rest, Blk w g ty (E.fl l ++ rest) ∧ l.length * E.s + rest.length = cap * E.s ∧ l.length ≤ cap ∧ cap ≤ maxLen := by
  rcases h with ⟨q, _⟩ | ⟨g', cap', rest, q, q2, q3⟩
  · cases q
  · simp only [Value.slice.injEq, Option.some.injEq, Addr.mk.injEq] at q
    obtain ⟨⟨rfl, -, -⟩, rfl, rfl⟩ := q
    exact ⟨rfl, rest, q2, q3⟩
theorem Sw.row (h : Sw E ty w v l) : w.ownsRow 0 ty E.s v l.length (E.fl l) := by
  refine ⟨E.len l, ?_⟩
  rcases h with ⟨rfl, rfl⟩ | ⟨g, cap, rest, rfl, hb, hl, hc, hm⟩
  · exact .inl ⟨rfl, rfl⟩
  · refine .inr ⟨g, cap, (E.fl l ++ rest).toArray, rfl, Nat.zero_le _, hb.h, hc, hm, ?_, ?_⟩
    · simp [E.len]; omega
    · simp [← E.len]
theorem Sw.of_row {b n : Nat} (h : w.ownsRow b ty E.s v n (E.fl l)) (hn : n = l.length) : Sw E ty w v l := by
  subst hn
  rcases h.2 with ⟨rfl, h0⟩ | ⟨g, cap, cur, rfl, _, hg, hc, hm, hs, ht⟩
  · exact .inl ⟨rfl, List.eq_nil_of_length_eq_zero h0⟩
  · have e : cur.toList = E.fl l ++ cur.toList.drop (l.length * E.s) := by
      rw [← ht]; exact (List.take_append_drop _ _).symm
    refine .inr ⟨g, cap, cur.toList.drop (l.length * E.s), rfl, ⟨?_⟩, ?_, hc, hm⟩
    · rw [← e]; exact hg
    · have : l.length * E.s ≤ cap * E.s := Nat.mul_le_mul_right _ hc
      simp; omega
end
abbrev eI : Enc Int := ⟨fun x => [I x], 1, fun _ => rfl, fun _ u hu => by simp at hu; subst hu; rfl⟩
abbrev eQ : Enc (Int × Int) := ⟨fun x => [I x.1, I x.2], 2, fun _ => rfl, fun _ u hu => by simp at hu; rcases hu with rfl | rfl <;> rfl⟩
abbrev eT : Enc It := ⟨fun x => [I x.1.1, I x.1.2, I x.2], 3, fun _ => rfl, fun _ u hu => by simp at hu; rcases hu with rfl | rfl | rfl <;> rfl⟩
/-- A slice of whole numbers; of queued ones. -/
abbrev SwI := Sw eI 3
abbrev SwQ := Sw eQ 81
theorem info_I : ∃ i, Try.prog.info? 3 = some i ∧ i.zero = some (I 0) ∧ i.size = 1 ∧ i.bytes = 8 := info_parts (by kernel_rfl)
theorem info_Q : ∃ i, Try.prog.info? 81 = some i ∧ i.zero = some (.agg #[I 0, I 0]) ∧ i.size = 2 ∧ i.bytes = 16 := info_parts (by kernel_rfl)
end Go.Proofs.Ytmclbnhbioficac
