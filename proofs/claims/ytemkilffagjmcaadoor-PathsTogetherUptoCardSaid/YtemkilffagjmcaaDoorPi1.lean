/- Paths: a heap of ints in memory. -/
import Derived.Test.YtemkilffagjmcaaDoorPa0
namespace Go.Proofs.YtemkilffagjmcaaDoor
open Go.RowKit

abbrev ptr (b : Nat) : Value := .pointer (some ⟨b, 0, none⟩)
/-- An item: what it is, and when it came. -/
abbrev It := Int × Int
def fl (l : List It) : List Value := l.flatMap fun x => [I x.1, I x.2]
theorem fl_len (l : List It) : (fl l).length = l.length * 2 := by
  induction l with
  | nil => rfl
  | cons a l ih => simp [fl] at ih ⊢; omega
theorem fl_get : ∀ (l : List It) (i : Nat) (x : It), l[i]? = some x → (fl l)[i * 2]? = some (I x.1) ∧ (fl l)[i * 2 + 1]? = some (I x.2)
  | [], i, x, h => by simp at h
  | a :: l, 0, x, h => by simp at h; subst h; simp [fl]
  | a :: l, i + 1, x, h => by
    have := fl_get l i x (by simpa using h)
    have e : fl (a :: l) = I a.1 :: I a.2 :: fl l := by simp [fl]
    rw [e, show (i + 1) * 2 = i * 2 + 1 + 1 by omega]
    simpa using this
theorem fl_snoc (l : List It) (x : It) : fl (l ++ [x]) = fl l ++ [I x.1, I x.2] := by simp [fl]
/-- A slice that holds these items, at the beginning of its block. -/
def Sl (w : World) (v : Value) (l : List It) : Prop :=
  (v = .slice none 0 0 ∧ l = []) ∨ ∃ g cap rest, v = .slice (some ⟨g, 0, none⟩) l.length cap ∧ Blk w g 97 (fl l ++ rest) ∧ l.length * 2 + rest.length = cap * 2 ∧ cap ≤ maxLen
theorem Sl.keep {w w' : World} {v : Value} {l : List It} (h : Sl w v l) (hb : ∀ b, v.ownBlock = some b → w'.heap[b]? = w.heap[b]?) : Sl w' v l := by
  rcases h with h | ⟨g, cap, rest, rfl, h2, h3⟩
  · exact .inl h
  · exact .inr ⟨g, cap, rest, rfl, h2.keep (hb g rfl), h3⟩
theorem Sl.lt {w : World} {v : Value} {l : List It} (h : Sl w v l) {b : Nat} (hb : v.ownBlock = some b) : b < w.heap.size := by
  rcases h with ⟨rfl, _⟩ | ⟨g, cap, rest, rfl, h2, _⟩
  · simp [Value.ownBlock] at hb
  · simp [Value.ownBlock] at hb; subst hb; exact h2.lt
theorem Sl.G {w w' : World} {v : Value} {l : List It} (h : Sl w v l) (g : Go.Proofs.YtemkilffagjmcaaDoor.G w w') : Sl w' v l := h.keep fun b hb => g.block b (h.lt hb)
theorem Sl.chg {F : Nat → Prop} {w w' : World} {v : Value} {l : List It} (h : Sl w v l) (g : Chg F w w') (hF : ∀ b, v.ownBlock = some b → ¬ F b) : Sl w' v l := h.keep fun b hb => g.block b (h.lt hb) (hF b hb)
theorem Sl.at {w : World} {g n cap : Nat} {l : List It} (h : Sl w (.slice (some ⟨g, 0, none⟩) n cap) l) {i : Nat} {x : It} (hi : l[i]? = some x) : w.cell? ⟨g, i * 2, none⟩ = some (I x.1) ∧ w.cell? ⟨g, i * 2 + 1, none⟩ = some (I x.2) := by
  rcases h with ⟨e, _⟩ | ⟨g', cap', rest, e, hb, _⟩
  · cases e
  · cases e
    have hl := (List.getElem?_eq_some_iff.1 hi).1
    have := fl_get l i x hi
    rw [hb.cell, hb.cell, List.getElem?_append_left (by rw [fl_len]; omega), List.getElem?_append_left (by rw [fl_len]; omega)]
    exact this
theorem Sl.row {w : World} {v : Value} {l : List It} (h : Sl w v l) : w.ownsRow 0 97 2 v l.length (fl l) := by
  refine ⟨fl_len l, ?_⟩
  rcases h with ⟨rfl, rfl⟩ | ⟨g, cap, rest, rfl, hb, hl, hm⟩
  · exact .inl ⟨rfl, rfl⟩
  · refine .inr ⟨g, cap, (fl l ++ rest).toArray, rfl, Nat.zero_le _, hb.h, by omega, hm, ?_, ?_⟩
    · simp [fl_len]; omega
    · simp [← fl_len]
theorem Sl.of_row {w : World} {b : Nat} {v : Value} {l : List It} (h : w.ownsRow b 97 2 v l.length (fl l)) : Sl w v l := by
  rcases h.2 with ⟨rfl, h0⟩ | ⟨g, cap, cur, rfl, _, hg, hc, hm, hs, ht⟩
  · exact .inl ⟨rfl, List.eq_nil_of_length_eq_zero h0⟩
  · have e : cur.toList = fl l ++ cur.toList.drop (l.length * 2) := by
      rw [← ht]; exact (List.take_append_drop _ _).symm
    refine .inr ⟨g, cap, cur.toList.drop (l.length * 2), rfl, ⟨?_⟩, ?_, hm⟩
    · rw [← e]; exact hg
    · simp; omega
/-- A heap: block h; what orders it; its items; how many came. -/
structure HP (w : World) (h : Nat) (f v : Value) (l : List It) (t : Int) : Prop where
  blk : Blk w h 95 [f, v, I t]
  sl : Sl w v l
/-- The blocks that a heap may turn. -/
def hpB (h : Nat) (v : Value) (k : Nat) : Prop := k = h ∨ v.ownBlock = some k
theorem HP.G {w w' : World} {h : Nat} {f v : Value} {l : List It} {t : Int} (k : HP w h f v l t) (g : Go.Proofs.YtemkilffagjmcaaDoor.G w w') : HP w' h f v l t := ⟨k.blk.G g, k.sl.G g⟩
theorem HP.chg {F : Nat → Prop} {w w' : World} {h : Nat} {f v : Value} {l : List It} {t : Int} (k : HP w h f v l t) (g : Chg F w w') (hF : ∀ b, hpB h v b → ¬ F b) : HP w' h f v l t :=
  ⟨k.blk.chg g (hF h (.inl rfl)), k.sl.chg g (fun b hb => hF b (.inr hb))⟩
theorem HP.ne {w : World} {h : Nat} {f v : Value} {l : List It} {t : Int} (k : HP w h f v l t) {g : Nat} (hg : v.ownBlock = some g) : g ≠ h := by
  rcases k.sl with ⟨rfl, _⟩ | ⟨g', cap, rest, rfl, hb, _⟩
  · simp [Value.ownBlock] at hg
  · simp [Value.ownBlock] at hg; subst hg; exact hb.ne k.blk (by decide)
theorem HP.off {w : World} {h : Nat} {f v : Value} {l : List It} {t : Int} (k : HP w h f v l t) {b : Nat} {e : TypeId} {xs : List Value} (hb : Blk w b e xs) (h1 : e ≠ 95) (h2 : e ≠ 97) : ¬ hpB h v b := fun q => by
  rcases q with rfl | q
  · exact hb.ne k.blk h1 rfl
  · rcases k.sl with ⟨rfl, _⟩ | ⟨g', cap, rest, rfl, hg, _⟩
    · simp [Value.ownBlock] at q
    · simp [Value.ownBlock] at q; subst q; exact hb.ne hg h2 rfl
theorem HP.lt {w : World} {h : Nat} {f v : Value} {l : List It} {t : Int} (k : HP w h f v l t) {b : Nat} (q : hpB h v b) : b < w.heap.size := by
  rcases q with rfl | q
  · exact k.blk.lt
  · exact k.sl.lt q
/-- What orders the heap, as a contract: in each world of which K holds, of such items as D speaks of. -/
def AhOk (K : World → Prop) (D : Int → Prop) (f : Value) (lt : Int → Int → Bool) : Prop :=
  ∀ (W : World) (h : Nat) (v : Value) (l : List It) (t : Int) (i j : Nat), K W → HP W h f v l t → (∀ x ∈ l, D x.1) → i < l.length → j < l.length → l.length ≤ maxLen →
    Calls Tryd.prog 50 #[ptr h, I i, I j] W fun e W' => e = .returned (.bool (Hp.ah lt l[i]! l[j]!)) ∧ G W W'
set_option maxRecDepth 100000 in
set_option maxHeartbeats 1000000 in
theorem len_any (h : Nat) (f v : Value) (l : List It) (t : Int) (W : World) (k : HP W h f v l t) : Calls Tryd.prog 45 #[ptr h] W fun e W' => e = .returned (I l.length) ∧ G W W' := by
  have hc := k.blk.cell
  have hv : ∃ a c, v = .slice a l.length c := by
    rcases k.sl with ⟨rfl, rfl⟩ | ⟨g, cap, rest, rfl, _⟩ <;> exact ⟨_, _, rfl⟩
  obtain ⟨a, c, rfl⟩ := hv
  clear k
  go_enter Tryd.func45, Tryd.ntmps45
  go_wp2
  all_goals (go_ret; exact ⟨rfl, G.refl _⟩)
end Go.Proofs.YtemkilffagjmcaaDoor
