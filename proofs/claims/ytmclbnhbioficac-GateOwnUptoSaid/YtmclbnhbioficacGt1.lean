/- Gate: whose turn it is: the heap in a gate; which of two stands ahead. -/
import Derived.Test.YtmclbnhbioficacPaL
import Derived.BigRegion
import Derived.BigQuiet
namespace Go.Proofs.Ytmclbnhbioficac
open Go.RowKit

abbrev ptr (b : Nat) : Value := .pointer (some ⟨b, 0, none⟩)
/-- A gate's turns lie in its block, from the eighth cell on. -/
abbrev tpt (b : Nat) : Value := .pointer (some ⟨b, 8, none⟩)
/-- One that has turns: number and stamp, and its last turn. -/
abbrev It := (Int × Int) × Int
def gr (a b : It) : Bool := if a.2 = b.2 then decide (a.1.2 < b.1.2) else decide (a.2 < b.2)
theorem gr_wo : Hp.WO gr := by
  refine ⟨fun a b h => ?_, fun a b c h k => ?_, fun a b c h k => ?_⟩
  · unfold gr at h ⊢
    split at h
    · rw [if_pos (by omega)]; simp at h ⊢; omega
    · rw [if_neg (by omega)]; simp at h ⊢; omega
  · unfold gr at h k ⊢
    split at h <;> split at k <;> simp at h k <;> split <;> simp <;> omega
  · unfold gr at h k ⊢
    split at h <;> split at k <;> simp at h k <;> split <;> simp <;> omega
namespace Hp
variable {β : Type} [Inhabited β]
/-- One at i is another one: it may rise or sink. -/
def RS (r : β → β → Bool) (l : List β) (i : Nat) : Prop :=
  (∀ j, 0 < j → j < l.length → j ≠ i → (j - 1) / 2 ≠ i → r l[j]! l[(j - 1) / 2]! = false) ∧ (∀ j, 0 < i → 0 < j → j < l.length → (j - 1) / 2 = i → r l[j]! l[(i - 1) / 2]! = false)
theorem RS.step {r : β → β → Bool} (o : WO r) {l : List β} {i : Nat} (h : RS r l i) (h0 : 0 < i) (hi : i < l.length) (hr : r l[i]! l[(i - 1) / 2]! = true) : RI r (sw l i ((i - 1) / 2)) ((i - 1) / 2) := by
  have hu : (i - 1) / 2 < l.length := by omega
  have hui : (i - 1) / 2 ≠ i := by omega
  refine ⟨fun j j0 jl jn => ?_, fun j u0 j0 jl je => ?_⟩
  · rw [sw_len] at jl
    rw [sw_get l i _ j hi hu, sw_get l i _ ((j - 1) / 2) hi hu, if_neg jn]
    by_cases ej : j = i
    · subst ej
      rw [if_pos rfl, if_pos rfl]
      exact o.asy _ _ hr
    · rw [if_neg ej]
      by_cases e1 : (j - 1) / 2 = (i - 1) / 2
      · rw [if_pos e1]
        cases hb : r l[j]! l[i]!
        · rfl
        · have := o.tr _ _ _ hb hr
          have h2 := h.1 j j0 jl ej (by omega)
          rw [e1] at h2
          rw [h2] at this
          cases this
      · rw [if_neg e1]
        by_cases e2 : (j - 1) / 2 = i
        · rw [if_pos e2]
          exact h.2 j h0 j0 jl e2
        · rw [if_neg e2]
          exact h.1 j j0 jl ej e2
  · rw [sw_len] at jl
    rw [sw_get l i _ j hi hu, sw_get l i _ (((i - 1) / 2 - 1) / 2) hi hu, if_neg (show ((i - 1) / 2 - 1) / 2 ≠ (i - 1) / 2 by omega), if_neg (show ((i - 1) / 2 - 1) / 2 ≠ i by omega), if_neg (show j ≠ (i - 1) / 2 by omega)]
    have hp := h.1 ((i - 1) / 2) u0 hu hui (by omega)
    by_cases ej : j = i
    · rw [if_pos ej]
      exact hp
    · rw [if_neg ej]
      have h2 := h.1 j j0 jl ej (by omega)
      rw [je] at h2
      exact o.nt _ _ _ h2 hp
theorem RS.zero {r : β → β → Bool} {l : List β} (h : RS r l 0) : SI r l 0 := ⟨fun j j0 jl jn => h.1 j j0 jl (by omega) jn, fun j h0 => by omega⟩
theorem RS.stop {r : β → β → Bool} {l : List β} {i : Nat} (h : RS r l i) (hr : r l[i]! l[(i - 1) / 2]! = false) : SI r l i := ⟨fun j j0 jl jn => by
  by_cases e : j = i
  · subst e; exact hr
  · exact h.1 j j0 jl e jn, h.2⟩
theorem HI.si {r : β → β → Bool} (o : WO r) {l : List β} (h : HI r l) (i : Nat) (hi : i < l.length) : SI r l i := ⟨fun j j0 jl _ => h j j0 jl, fun j h0 j0 jl je => by
  have h1 := h j j0 jl
  rw [je] at h1
  exact o.nt _ _ _ h1 (h i h0 hi)⟩
theorem set_get_ne {l : List β} {i j : Nat} {y : β} (hi : i < l.length) (hj : j ≠ i) : (l.set i y)[j]! = l[j]! := by rw [get_set _ _ _ _ hi, if_neg hj]
/-- One moves behind all others. -/
theorem HI.up {r : β → β → Bool} (o : WO r) {l : List β} (h : HI r l) (i : Nat) (y : β) (hi : i < l.length) (hy : ∀ k, k < l.length → k ≠ i → r y l[k]! = false) : SI r (l.set i y) i := by
  refine ⟨fun j j0 jl jn => ?_, fun j h0 j0 jl je => ?_⟩
  · rw [List.length_set] at jl
    rw [set_get_ne hi jn]
    by_cases e : j = i
    · subst e
      rw [get_set _ _ _ _ hi, if_pos rfl]
      exact hy _ (by omega) jn
    · rw [set_get_ne hi e]
      exact h j j0 jl
  · rw [List.length_set] at jl
    rw [set_get_ne hi (by omega), set_get_ne hi (by omega)]
    have h1 := h j j0 jl
    rw [je] at h1
    exact o.nt _ _ _ h1 (h i h0 hi)
theorem take_get {l : List β} {n k : Nat} (hk : k < n) (hn : n ≤ l.length) : (l.take n)[k]! = l[k]! := by
  rw [get_of (by simp; omega), get_of (by omega), List.getElem_take]
/-- The last one takes the place of one that goes. -/
theorem HI.gone {r : β → β → Bool} (o : WO r) {l : List β} (h : HI r l) (n i : Nat) (hn : l.length = n + 1) (hi : i < n) : RS r ((l.set i l[n]!).take n) i := by
  have e : ∀ k, k < n → k ≠ i → ((l.set i l[n]!).take n)[k]! = l[k]! := fun k hk hn2 => by
    rw [take_get hk (by simp; omega), set_get_ne (by omega) hn2]
  have el : ((l.set i l[n]!).take n).length = n := by simp; omega
  refine ⟨fun j j0 jl jn jp => ?_, fun j h0 j0 jl je => ?_⟩
  · rw [el] at jl
    rw [e j jl jn, e _ (by omega) jp]
    exact h j j0 (by omega)
  · rw [el] at jl
    rw [e j jl (by omega), e _ (by omega) (by omega)]
    have h1 := h j j0 (by omega)
    rw [je] at h1
    exact o.nt _ _ _ h1 (h i h0 (by omega))
theorem HI.less {r : β → β → Bool} {l : List β} (h : HI r l) (n : Nat) (hn : n ≤ l.length) : HI r (l.take n) := fun j j0 jl => by
  simp at jl
  rw [take_get (by omega) hn, take_get (by omega) hn]
  exact h j j0 (by omega)
end Hp
def fl (l : List It) : List Value := l.flatMap fun x => [I x.1.1, I x.1.2, I x.2]
theorem fl_len (l : List It) : (fl l).length = l.length * 3 := by
  induction l with
  | nil => rfl
  | cons a l ih => simp [fl] at ih ⊢; omega
theorem fl_get : ∀ (l : List It) (i : Nat) (x : It), l[i]? = some x → (fl l)[i * 3]? = some (I x.1.1) ∧ (fl l)[i * 3 + 1]? = some (I x.1.2) ∧ (fl l)[i * 3 + 2]? = some (I x.2)
  | [], i, x, h => by simp at h
  | a :: l, 0, x, h => by simp at h; subst h; simp [fl]
  | a :: l, i + 1, x, h => by
    have := fl_get l i x (by simpa using h)
    have e : fl (a :: l) = I a.1.1 :: I a.1.2 :: I a.2 :: fl l := by simp [fl]
    rw [e, show (i + 1) * 3 = i * 3 + 1 + 1 + 1 by omega]
    simpa using this
theorem fl_snoc (l : List It) (x : It) : fl (l ++ [x]) = fl l ++ [I x.1.1, I x.1.2, I x.2] := by simp [fl]
/-- A slice that holds these items, at the beginning of its block. -/
def Sl (w : World) (v : Value) (l : List It) : Prop :=
  (v = .slice none 0 0 ∧ l = []) ∨ ∃ g cap rest, v = .slice (some ⟨g, 0, none⟩) l.length cap ∧ Blk w g 78 (fl l ++ rest) ∧ l.length * 3 + rest.length = cap * 3 ∧ cap ≤ maxLen
theorem Sl.keep {w w' : World} {v : Value} {l : List It} (h : Sl w v l) (hb : ∀ b, v.ownBlock = some b → w'.heap[b]? = w.heap[b]?) : Sl w' v l := by
  rcases h with h | ⟨g, cap, rest, rfl, h2, h3⟩
  · exact .inl h
  · exact .inr ⟨g, cap, rest, rfl, h2.keep (hb g rfl), h3⟩
theorem Sl.lt {w : World} {v : Value} {l : List It} (h : Sl w v l) {b : Nat} (hb : v.ownBlock = some b) : b < w.heap.size := by
  rcases h with ⟨rfl, _⟩ | ⟨g, cap, rest, rfl, h2, _⟩
  · simp [Value.ownBlock] at hb
  · simp [Value.ownBlock] at hb; subst hb; exact h2.lt
theorem Sl.G {w w' : World} {v : Value} {l : List It} (h : Sl w v l) (g : Go.Proofs.Ytmclbnhbioficac.G w w') : Sl w' v l := h.keep fun b hb => g.block b (h.lt hb)
theorem Sl.chg {F : Nat → Prop} {w w' : World} {v : Value} {l : List It} (h : Sl w v l) (g : Chg F w w') (hF : ∀ b, v.ownBlock = some b → ¬ F b) : Sl w' v l := h.keep fun b hb => g.block b (h.lt hb) (hF b hb)
theorem Sl.at {w : World} {g n cap : Nat} {l : List It} (h : Sl w (.slice (some ⟨g, 0, none⟩) n cap) l) {i : Nat} {x : It} (hi : l[i]? = some x) : w.cell? ⟨g, i * 3, none⟩ = some (I x.1.1) ∧ w.cell? ⟨g, i * 3 + 1, none⟩ = some (I x.1.2) ∧ w.cell? ⟨g, i * 3 + 2, none⟩ = some (I x.2) := by
  rcases h with ⟨e, _⟩ | ⟨g', cap', rest, e, hb, _⟩
  · cases e
  · cases e
    have hl := (List.getElem?_eq_some_iff.1 hi).1
    have := fl_get l i x hi
    rw [hb.cell, hb.cell, hb.cell, List.getElem?_append_left (by rw [fl_len]; omega), List.getElem?_append_left (by rw [fl_len]; omega), List.getElem?_append_left (by rw [fl_len]; omega)]
    exact this
theorem Sl.row {w : World} {v : Value} {l : List It} (h : Sl w v l) : w.ownsRow 0 78 3 v l.length (fl l) := by
  refine ⟨fl_len l, ?_⟩
  rcases h with ⟨rfl, rfl⟩ | ⟨g, cap, rest, rfl, hb, hl, hm⟩
  · exact .inl ⟨rfl, rfl⟩
  · refine .inr ⟨g, cap, (fl l ++ rest).toArray, rfl, Nat.zero_le _, hb.h, by omega, hm, ?_, ?_⟩
    · simp [fl_len]; omega
    · simp [← fl_len]
theorem Sl.of_row {w : World} {b : Nat} {v : Value} {l : List It} (h : w.ownsRow b 78 3 v l.length (fl l)) : Sl w v l := by
  rcases h.2 with ⟨rfl, h0⟩ | ⟨g, cap, cur, rfl, _, hg, hc, hm, hs, ht⟩
  · exact .inl ⟨rfl, List.eq_nil_of_length_eq_zero h0⟩
  · have e : cur.toList = fl l ++ cur.toList.drop (l.length * 3) := by
      rw [← ht]; exact (List.take_append_drop _ _).symm
    refine .inr ⟨g, cap, cur.toList.drop (l.length * 3), rfl, ⟨?_⟩, ?_, hm⟩
    · rw [← e]; exact hg
    · simp; omega
/-- What a gate's block holds besides its turns' heap. -/
structure Gx where
  st : Int
  mo : Int
  un : Int
  sp : Int
  vq : Value
  vi : Value
  lg : Int
  ck : Int
def gcs (x : Gx) (v : Value) : List Value := [.int .i32 x.st, .int .u32 0, I x.mo, I x.un, I x.sp, x.vq, x.vi, I x.lg, I x.ck, v]
/-- A gate's block, and its heap. -/
structure HP (w : World) (b : Nat) (x : Gx) (v : Value) (l : List It) : Prop where
  blk : Blk w b 58 (gcs x v)
  sl : Sl w v l
def hpB (b : Nat) (v : Value) (k : Nat) : Prop := k = b ∨ v.ownBlock = some k
theorem HP.G {w w' : World} {b : Nat} {x : Gx} {v : Value} {l : List It} (k : HP w b x v l) (g : Go.Proofs.Ytmclbnhbioficac.G w w') : HP w' b x v l := ⟨k.blk.G g, k.sl.G g⟩
theorem HP.chg {F : Nat → Prop} {w w' : World} {b : Nat} {x : Gx} {v : Value} {l : List It} (k : HP w b x v l) (g : Chg F w w') (hF : ∀ c, hpB b v c → ¬ F c) : HP w' b x v l :=
  ⟨k.blk.chg g (hF b (.inl rfl)), k.sl.chg g (fun c hb => hF c (.inr hb))⟩
theorem HP.ne {w : World} {b : Nat} {x : Gx} {v : Value} {l : List It} (k : HP w b x v l) {g : Nat} (hg : v.ownBlock = some g) : g ≠ b := by
  rcases k.sl with ⟨rfl, _⟩ | ⟨g', cap, rest, rfl, hb, _⟩
  · simp [Value.ownBlock] at hg
  · simp [Value.ownBlock] at hg; subst hg; exact hb.ne k.blk (by decide)
theorem HP.cells {w : World} {b : Nat} {x : Gx} {v : Value} {l : List It} (k : HP w b x v l) : ∀ o, w.cell? ⟨b, o, none⟩ = ([.int .i32 x.st, .int .u32 0, I x.mo, I x.un, I x.sp, x.vq, x.vi, I x.lg, I x.ck, v] : List Value)[o]? := k.blk.cell
theorem HP.slice {w : World} {b : Nat} {x : Gx} {v : Value} {l : List It} (k : HP w b x v l) (h : 0 < l.length) : ∃ g cap, v = .slice (some ⟨g, 0, none⟩) l.length cap := by
  rcases k.sl with ⟨_, rfl⟩ | ⟨g, cap, rest, rfl, _⟩
  · simp at h
  · exact ⟨g, cap, rfl⟩
set_option maxRecDepth 100000 in
set_option maxHeartbeats 1000000 in
theorem ah_any (b : Nat) (x : Gx) (v : Value) (l : List It) (i j : Nat) (W : World) (hp : HP W b x v l) (hi : i < l.length) (hj : j < l.length) :
    Calls Try.prog 64 #[tpt b, I i, I j] W fun e W' => e = .returned (.bool (gr l[i]! l[j]!)) ∧ G W W' := by
  obtain ⟨y, hy⟩ : ∃ y, l[i]? = some y := ⟨_, List.getElem?_eq_getElem hi⟩
  obtain ⟨z, hz⟩ : ∃ z, l[j]? = some z := ⟨_, List.getElem?_eq_getElem hj⟩
  have ey : l[i]! = y := by simp [hy]
  have ez : l[j]! = z := by simp [hz]
  rw [ey, ez]
  have hc := hp.cells
  obtain ⟨g, cap, rfl⟩ := hp.slice (by omega)
  obtain ⟨x1, x2, x3⟩ := hp.sl.at hy
  obtain ⟨y1, y2, y3⟩ := hp.sl.at hz
  have hgl : g < W.heap.size := hp.sl.lt rfl
  have hhl := hp.blk.lt
  have n1 : b < W.heap.size + 1 := by omega
  have n2 : g < W.heap.size + 1 := by omega
  have i1 : (i : Int) < l.length := by omega
  have i2 : (j : Int) < l.length := by omega
  obtain ⟨⟨yi, ys⟩, yl⟩ := y
  obtain ⟨⟨zi, zs⟩, zl⟩ := z
  simp only at x1 x2 x3 y1 y2 y3 ⊢
  clear hp hy hz ey ez hi hj
  by_cases hu : yl = zl
  · subst hu
    go_enter Try.func64, Try.ntmps64
    go_wp2_with fail
    go_region
    all_goals (go_wp2; go_ret; exact ⟨by simp [gr], (((G.refl W).alloc _).alloc _).drew⟩)
  · have d2 : (yl == zl) = false := beq_eq_false_iff_ne.2 hu
    go_enter Try.func64, Try.ntmps64
    go_wp2_with fail
    go_region
    all_goals (go_wp2; go_ret; exact ⟨by simp [gr, hu], (((G.refl W).alloc _).alloc _).drew⟩)
end Go.Proofs.Ytmclbnhbioficac
