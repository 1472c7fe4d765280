/- Paths: what is known of memory; a heap in a list, as a thing of thought. -/
import Derived.Test.YtifioikdhfhljaaGreatDoorRows
import Derived.WalkKit
import Derived.WalkSpells
import Derived.WalkLawsBesides
import Derived.Deep.RegionWith
import Derived.Deep.RegionHeld3
import Derived.Deep.MidRow
import Derived.Laws.AppendOwn
import Derived.Laws.MakeOwn
import Derived.Laws.OwnMore
import Derived.OwnWalk
import Derived.Laws.ResultCell
namespace Go.Proofs.YtifioikdhfhljaaGreatDoor
open Go.RowKit

theorem hide {p : Prop} (h : p) : Hid p := h
abbrev I (n : Int) : Value := .int .i64 n
/-- Nothing that was there has turned; memory may have come. -/
def G (a w : World) : Prop := Below a.heap.size a w
theorem G.refl (a : World) : G a a := Below.refl _ _
theorem G.trans {a b c : World} (h : G a b) (k : G b c) : G a c := Below.trans h (Below.mono k h.size)
theorem G.alloc {a w : World} (h : G a w) (o : Obj) : G a (w.alloc o) := Below.alloc h h.size o
theorem G.drew {a w : World} (h : G a w) : G a w.drew := Below.drew h
theorem G.setCell {a w : World} (h : G a w) {p : Addr} (hp : a.heap.size ≤ p.block) (u : Value) : G a (w.setCell p u) := Below.setCell h hp u
theorem G.size {a w : World} (h : G a w) : a.heap.size ≤ w.heap.size := Below.size h
theorem G.cell {a w : World} (h : G a w) {b o : Nat} (hb : b < a.heap.size) : w.cell? ⟨b, o, none⟩ = a.cell? ⟨b, o, none⟩ := Below.cell h (p := ⟨b, o, none⟩) hb
theorem G.frozen {a w : World} (h : G a w) {b o : Nat} (hb : b < a.heap.size) : w.frozen? ⟨b, o, none⟩ = a.frozen? ⟨b, o, none⟩ := Below.frozen h (p := ⟨b, o, none⟩) hb
theorem G.cells {a w : World} (h : G a w) {b : Nat} {f : Nat → Option Value} (hc : ∀ o, a.cell? ⟨b, o, none⟩ = f o) (hb : b < a.heap.size) : ∀ o, w.cell? ⟨b, o, none⟩ = f o :=
  fun o => (Below.cell h (p := ⟨b, o, none⟩) hb).trans (hc o)
theorem G.setCells {a : World} : ∀ (vs : List Value) {w : World} (_ : G a w) {b o : Nat} (_ : a.heap.size ≤ b), G a (w.setCells b o vs)
  | [], _, h, _, _, _ => h
  | v :: vs, _, h, _, _, hb => G.setCells vs (h.setCell hb v) hb
theorem setCells_size (b : Nat) : ∀ (vs : List Value) (w : World) (o : Nat), (w.setCells b o vs).heap.size = w.heap.size
  | [], _, _ => rfl
  | v :: vs, w, o => by rw [World.setCells, setCells_size b vs]; simp
theorem setCells_other (b k : Nat) (hk : k ≠ b) : ∀ (vs : List Value) (w : World) (o : Nat), (w.setCells b o vs).heap[k]? = w.heap[k]?
  | [], _, _ => rfl
  | v :: vs, w, o => by rw [World.setCells, setCells_other b k hk vs]; exact Below.heap_setCell _ _ _ _ hk

/-- What has turned lies in the blocks of F. -/
structure Chg (F : Nat → Prop) (w w' : World) : Prop where
  os : w'.os = w.os
  tape : w'.tape = w.tape
  output : w'.output = w.output
  size : w.heap.size ≤ w'.heap.size
  block : ∀ k, k < w.heap.size → ¬ F k → w'.heap[k]? = w.heap[k]?
theorem Chg.refl (F : Nat → Prop) (w : World) : Chg F w w := ⟨rfl, rfl, rfl, Nat.le_refl _, fun _ _ _ => rfl⟩
theorem Chg.trans {F : Nat → Prop} {a b c : World} (h : Chg F a b) (k : Chg F b c) : Chg F a c :=
  ⟨k.os.trans h.os, k.tape.trans h.tape, k.output.trans h.output, Nat.le_trans h.size k.size, fun i hi hn => (k.block i (Nat.lt_of_lt_of_le hi h.size) hn).trans (h.block i hi hn)⟩
/-- The second may also turn what has come since. -/
theorem Chg.more {F F' : Nat → Prop} {a b c : World} (h : Chg F a b) (k : Chg F' b c) (hF : ∀ i, i < a.heap.size → F' i → F i) : Chg F a c :=
  ⟨k.os.trans h.os, k.tape.trans h.tape, k.output.trans h.output, Nat.le_trans h.size k.size, fun i hi hn => (k.block i (Nat.lt_of_lt_of_le hi h.size) (fun x => hn (hF i hi x))).trans (h.block i hi hn)⟩
theorem Chg.mono {F F' : Nat → Prop} {a b : World} (h : Chg F a b) (hF : ∀ i, F i → F' i) : Chg F' a b := ⟨h.os, h.tape, h.output, h.size, fun i hi hn => h.block i hi (fun x => hn (hF i x))⟩
theorem Chg.G {F : Nat → Prop} {a b : World} (h : Chg F a b) (hF : ∀ i, F i → a.heap.size ≤ i) : G a b := ⟨h.os, h.tape, h.output, h.size, fun k hk => h.block k hk (fun x => by have := hF k x; omega)⟩
theorem G.chg {F : Nat → Prop} {a b : World} (h : Go.Proofs.YtifioikdhfhljaaGreatDoor.G a b) : Chg F a b := ⟨h.os, h.tape, h.output, h.size, fun k hk _ => h.block k hk⟩
theorem chg_setCell {F : Nat → Prop} {b o : Nat} (w : World) (v : Value) (hb : F b ∨ w.heap.size ≤ b) : Chg F w (w.setCell ⟨b, o, none⟩ v) :=
  ⟨rfl, rfl, rfl, by simp, fun k hk hn => Below.heap_setCell _ _ _ _ (fun e => by subst e; rcases hb with h | h; exact hn h; exact absurd hk (Nat.not_lt.2 h))⟩
theorem chg_setCells {F : Nat → Prop} {b o : Nat} (w : World) (vs : List Value) (hb : F b ∨ w.heap.size ≤ b) : Chg F w (w.setCells b o vs) := by
  have hos : ∀ (vs : List Value) (w : World) (o : Nat), (w.setCells b o vs).os = w.os ∧ (w.setCells b o vs).tape = w.tape ∧ (w.setCells b o vs).output = w.output := by
    intro vs; induction vs with
    | nil => intros; exact ⟨rfl, rfl, rfl⟩
    | cons v vs ih => intro w o; rw [World.setCells]; exact ih _ _
  refine ⟨(hos vs w o).1, (hos vs w o).2.1, (hos vs w o).2.2, by rw [setCells_size]; exact Nat.le_refl _, fun k hk hn => setCells_other b k (fun e => by subst e; rcases hb with h | h; exact hn h; omega) _ _ _⟩

/-- Block g holds just these cells, of elements e; it is open. -/
structure Blk (w : World) (g : Nat) (e : TypeId) (xs : List Value) : Prop where
  h : w.heap[g]? = some (.cells xs.toArray e (0, 0))
theorem Blk.lt {w : World} {g : Nat} {e : TypeId} {xs : List Value} (h : Blk w g e xs) : g < w.heap.size := (Array.getElem?_eq_some_iff.1 h.h).1
theorem Blk.cell {w : World} {g : Nat} {e : TypeId} {xs : List Value} (h : Blk w g e xs) : ∀ o, w.cell? ⟨g, o, none⟩ = xs[o]? := fun o => by
  simp [World.cell?, h.h]
theorem Blk.frozen {w : World} {g : Nat} {e : TypeId} {xs : List Value} (h : Blk w g e xs) : ∀ o, w.frozen? ⟨g, o, none⟩ = false := fun o => by
  simp [World.frozen?, h.h]
theorem Blk.keep {w w' : World} {g : Nat} {e : TypeId} {xs : List Value} (h : Blk w g e xs) (hb : w'.heap[g]? = w.heap[g]?) : Blk w' g e xs := ⟨hb.trans h.h⟩
theorem Blk.G {w w' : World} {g : Nat} {e : TypeId} {xs : List Value} (h : Blk w g e xs) (k : Go.Proofs.YtifioikdhfhljaaGreatDoor.G w w') : Blk w' g e xs := h.keep (k.block g h.lt)
theorem Blk.chg {F : Nat → Prop} {w w' : World} {g : Nat} {e : TypeId} {xs : List Value} (h : Blk w g e xs) (k : Chg F w w') (hF : ¬ F g) : Blk w' g e xs := h.keep (k.block g h.lt hF)
theorem Blk.new (w : World) (xs : List Value) (e : TypeId) : Blk (w.alloc (.cells xs.toArray e)) w.heap.size e xs := ⟨heap_alloc_new w _⟩
theorem Blk.set {w : World} {g : Nat} {e : TypeId} {xs : List Value} (h : Blk w g e xs) (o : Nat) (v : Value) : Blk (w.setCell ⟨g, o, none⟩ v) g e (xs.set o v) := by
  exact ⟨by simp [World.setCell, Array.getElem?_modify, h.h]⟩
theorem Blk.sets {g : Nat} {e : TypeId} : ∀ (vs : List Value) {w : World} {xs : List Value} (_ : Blk w g e xs) (o : Nat) (_ : o + vs.length ≤ xs.length), Blk (w.setCells g o vs) g e (xs.take o ++ vs ++ xs.drop (o + vs.length))
  | [], w, xs, h, o, _ => by simpa [World.setCells] using h
  | v :: vs, w, xs, h, o, hl => by
    rw [World.setCells]
    have h1 := Blk.sets vs (h.set o v) (o + 1) (by simp at hl ⊢; omega)
    have e1 : (xs.set o v).take (o + 1) ++ vs ++ (xs.set o v).drop (o + 1 + vs.length) = xs.take o ++ (v :: vs) ++ xs.drop (o + (v :: vs).length) := by
      have hlt : o < xs.length := by simp at hl; omega
      apply List.ext_getElem?
      intro j
      simp only [List.length_cons]
      by_cases c1 : j < o
      · rw [List.append_assoc, List.getElem?_append_left (by simp; omega), List.append_assoc, List.getElem?_append_left (by simp; omega)]
        rw [List.getElem?_take, List.getElem?_take, if_pos (by omega), if_pos c1, List.getElem?_set_ne (by omega)]
      · by_cases c2 : j = o
        · subst c2
          rw [List.append_assoc, List.getElem?_append_left (by simp; omega), List.getElem?_take, if_pos (by omega), List.getElem?_set_self hlt]
          rw [List.append_assoc, List.getElem?_append_right (by simp; omega)]
          simp [Nat.min_eq_left (Nat.le_of_lt hlt)]
        · by_cases c3 : j < o + 1 + vs.length
          · rw [List.append_assoc, List.getElem?_append_right (by simp; omega), List.getElem?_append_left (by simp at hl ⊢; omega)]
            rw [List.append_assoc, List.getElem?_append_right (by simp; omega), List.getElem?_append_left (by simp; omega)]
            have : (xs.take o).length = o := by simp; omega
            have h2 : ((xs.set o v).take (o + 1)).length = o + 1 := by simp; omega
            rw [this, h2, show j - o = (j - (o + 1)) + 1 by omega, List.getElem?_cons_succ]
          · have h2 : ((xs.set o v).take (o + 1) ++ vs).length = o + 1 + vs.length := by simp; omega
            have h3 : (xs.take o ++ v :: vs).length = o + 1 + vs.length := by simp; omega
            rw [List.getElem?_append_right (by omega), List.getElem?_append_right (by omega), h2, h3, List.getElem?_drop, List.getElem?_drop, List.getElem?_set_ne (by omega), show o + (vs.length + 1) = o + 1 + vs.length by omega]
    rw [e1] at h1
    exact h1
theorem Blk.drew {w : World} {g : Nat} {e : TypeId} {xs : List Value} (h : Blk w g e xs) : Blk w.drew g e xs := ⟨h.h⟩
theorem Blk.off {w : World} {g b o : Nat} {e : TypeId} {xs : List Value} {v : Value} (h : Blk w g e xs) (hn : g ≠ b) : Blk (w.setCell ⟨b, o, none⟩ v) g e xs := h.keep (Below.heap_setCell _ _ _ _ hn)
theorem Blk.ne {w : World} {g g' : Nat} {e e' : TypeId} {xs xs' : List Value} (h : Blk w g e xs) (h' : Blk w g' e' xs') (hne : e ≠ e') : g ≠ g' := fun he => by
  subst he
  have h1 := h.h
  rw [h'.h] at h1
  simp at h1
  exact hne h1.2.symm
theorem Blk.there {w : World} {g : Nat} {e : TypeId} {xs : List Value} (h : Blk w g e xs) (o n : Nat) (hl : o + n ≤ xs.length) : w.there g o n := fun j hj => ⟨by rw [h.cell, List.getElem?_eq_getElem (by omega)]; rfl, h.frozen _⟩
theorem Blk.range {w : World} {g : Nat} {e : TypeId} {xs : List Value} (h : Blk w g e xs) (o n : Nat) : w.rangeAt g o ((xs.drop o).take n) := fun j v hv => by
  rw [h.cell]
  rw [List.getElem?_take] at hv
  split at hv
  · rw [List.getElem?_drop] at hv; exact hv
  · cases hv
theorem Blk.type {w : World} {g : Nat} {e e' : TypeId} {xs xs' : List Value} (h : Blk w g e xs) (h' : Blk w g e' xs') : e = e' ∧ xs = xs' := by
  have h1 := h.h
  rw [h'.h] at h1
  simp at h1
  exact ⟨h1.2.symm, h1.1.symm⟩
/-- A row of our own (what append grows) is no block of other elements. -/
theorem own_ne {w : World} {b e s n g : Nat} {v : Value} {xs : List Value} {e' : TypeId} {ys : List Value} (h : w.ownsRow b e s v n xs) (h' : Blk w g e' ys) (hne : e ≠ e') : v.ownBlock ≠ some g := by
  rcases h.2 with ⟨rfl, _⟩ | ⟨g', cap, cur, rfl, _, hg, _⟩
  · simp [Value.ownBlock]
  · intro he
    simp [Value.ownBlock] at he
    subst he
    have h1 := h'.h
    rw [hg] at h1
    simp at h1
    exact hne h1.2
theorem own_chg {F : Nat → Prop} {w w' : World} {b e s n : Nat} {v : Value} {xs : List Value} (h : w.ownsRow b e s v n xs) (k : Chg F w w') (hF : ∀ g, v.ownBlock = some g → ¬ F g) : w'.ownsRow b e s v n xs := by
  refine ⟨h.1, ?_⟩
  rcases h.2 with hn | ⟨g, cap, cur, rfl, hb, hgg, rest⟩
  · exact .inl hn
  · refine .inr ⟨g, cap, cur, rfl, hb, ?_, rest⟩
    rw [k.block g (Array.getElem?_eq_some_iff.1 hgg).1 (hF g rfl)]
    exact hgg
theorem own_G {w w' : World} {b e s n : Nat} {v : Value} {xs : List Value} (h : w.ownsRow b e s v n xs) (k : G w w') : w'.ownsRow b e s v n xs := own_chg (F := fun _ => False) h k.chg (fun _ _ => id)
theorem own_lt {w : World} {b e s n g : Nat} {v : Value} {xs : List Value} (h : w.ownsRow b e s v n xs) (hg : v.ownBlock = some g) : g < w.heap.size := (World.ownsRow.lt h g hg).2


namespace Hp
variable {β : Type} [Inhabited β]
/-- Two places of a list change what they hold. -/
def sw (l : List β) (i j : Nat) : List β := (l.set i l[j]!).set j l[i]!
theorem sw_len (l : List β) (i j : Nat) : (sw l i j).length = l.length := by simp [sw]
theorem get_of {l : List β} {i : Nat} (h : i < l.length) : l[i]! = l[i] := by simp [h]
theorem get_o {l : List β} {i : Nat} (h : i < l.length) : l[i]? = some l[i]! := by simp [h]
theorem get_set (l : List β) (i j : Nat) (x : β) (h : i < l.length) : (l.set i x)[j]! = if j = i then x else l[j]! := by
  by_cases hj : j = i
  · subst hj; simp [h]
  · rw [if_neg hj]
    by_cases hl : j < l.length
    · rw [get_of (by simpa using hl), get_of hl, List.getElem_set_ne (by omega)]
    · have h1 : (l.set i x)[j]? = none := by simp; omega
      have h2 : l[j]? = none := by simp; omega
      simp [List.getElem!_eq_getElem?_getD, h1, h2]
theorem sw_get (l : List β) (i j k : Nat) (hi : i < l.length) (hj : j < l.length) : (sw l i j)[k]! = if k = j then l[i]! else if k = i then l[j]! else l[k]! := by
  unfold sw
  rw [get_set _ _ _ _ (by simpa using hj)]
  by_cases h : k = j
  · simp [h]
  · rw [if_neg h, if_neg h, get_set _ _ _ _ hi]
theorem sw_perm (l : List β) (i j : Nat) (hi : i < l.length) (hj : j < l.length) : (sw l i j).Perm l := by
  have h := Array.swap_perm (xs := l.toArray) (i := i) (j := j) (by simpa using hi) (by simpa using hj)
  have h2 := h.toList
  rw [Array.toList_swap] at h2
  simpa [sw, get_of hi, get_of hj] using h2
/-- The order of a heap: what comes out ahead of what. -/
structure WO (r : β → β → Bool) : Prop where
  asy : ∀ a b, r a b = true → r b a = false
  tr : ∀ a b c, r a b = true → r b c = true → r a c = true
  nt : ∀ a b c, r a b = false → r b c = false → r a c = false
/-- None stands ahead of the one above it. -/
def HI (r : β → β → Bool) (l : List β) : Prop := ∀ j, 0 < j → j < l.length → r l[j]! l[(j - 1) / 2]! = false
/-- While the one at i rises. -/
def RI (r : β → β → Bool) (l : List β) (i : Nat) : Prop :=
  (∀ j, 0 < j → j < l.length → j ≠ i → r l[j]! l[(j - 1) / 2]! = false) ∧ (∀ j, 0 < i → 0 < j → j < l.length → (j - 1) / 2 = i → r l[j]! l[(i - 1) / 2]! = false)
/-- While the one at i sinks. -/
def SI (r : β → β → Bool) (l : List β) (i : Nat) : Prop :=
  (∀ j, 0 < j → j < l.length → (j - 1) / 2 ≠ i → r l[j]! l[(j - 1) / 2]! = false) ∧ (∀ j, 0 < i → 0 < j → j < l.length → (j - 1) / 2 = i → r l[j]! l[(i - 1) / 2]! = false)
theorem RI.zero {r : β → β → Bool} {l : List β} (h : RI r l 0) : HI r l := fun j h0 hl => h.1 j h0 hl (by omega)
theorem RI.stop {r : β → β → Bool} {l : List β} {i : Nat} (h : RI r l i) (hr : r l[i]! l[(i - 1) / 2]! = false) : HI r l := fun j h0 hl => by
  by_cases e : j = i
  · subst e; exact hr
  · exact h.1 j h0 hl e
theorem RI.step {r : β → β → Bool} (o : WO r) {l : List β} {i : Nat} (h : RI r l i) (h0 : 0 < i) (hi : i < l.length) (hr : r l[i]! l[(i - 1) / 2]! = true) : RI r (sw l i ((i - 1) / 2)) ((i - 1) / 2) := by
  have hu : (i - 1) / 2 < l.length := by omega
  have hui : (i - 1) / 2 ≠ i := by omega
  refine ⟨fun j j0 jl jn => ?_, fun j u0 j0 jl je => ?_⟩
  · rw [sw_len] at jl
    rw [sw_get l i _ j hi hu, sw_get l i _ ((j - 1) / 2) hi hu, if_neg jn]
    by_cases ej : j = i
    · subst ej
      rw [if_pos rfl, if_pos rfl]
      exact o.asy _ _ hr
    · rw [if_neg ej]
      by_cases e1 : (j - 1) / 2 = (i - 1) / 2
      · rw [if_pos e1]
        cases hb : r l[j]! l[i]!
        · rfl
        · have := o.tr _ _ _ hb hr
          have h2 := h.1 j j0 jl ej
          rw [e1] at h2
          rw [h2] at this
          cases this
      · rw [if_neg e1]
        by_cases e2 : (j - 1) / 2 = i
        · rw [if_pos e2]
          exact h.2 j h0 j0 jl e2
        · rw [if_neg e2]
          exact h.1 j j0 jl ej
  · rw [sw_len] at jl
    rw [sw_get l i _ j hi hu, sw_get l i _ (((i - 1) / 2 - 1) / 2) hi hu, if_neg (show ((i - 1) / 2 - 1) / 2 ≠ (i - 1) / 2 by omega), if_neg (show ((i - 1) / 2 - 1) / 2 ≠ i by omega), if_neg (show j ≠ (i - 1) / 2 by omega)]
    have hp := h.1 ((i - 1) / 2) u0 hu hui
    by_cases ej : j = i
    · rw [if_pos ej]
      exact hp
    · rw [if_neg ej]
      have h2 := h.1 j j0 jl ej
      rw [je] at h2
      exact o.nt _ _ _ h2 hp
/-- One more at the end begins to rise. -/
theorem HI.push {r : β → β → Bool} {l : List β} (h : HI r l) (x : β) : RI r (l ++ [x]) l.length := by
  have e : ∀ j, j < l.length → (l ++ [x])[j]! = l[j]! := fun j hj => by
    rw [get_of (by simp; omega), get_of hj, List.getElem_append_left]
  refine ⟨fun j j0 jl jn => ?_, fun j h0 j0 jl je => ?_⟩
  · simp at jl
    rw [e j (by omega), e _ (by omega)]
    exact h j j0 (by omega)
  · simp at jl
    omega
theorem SI.stop {r : β → β → Bool} {l : List β} {i : Nat} (h : SI r l i) (hr : ∀ j, 0 < j → j < l.length → (j - 1) / 2 = i → r l[j]! l[i]! = false) : HI r l := fun j j0 jl => by
  by_cases e : (j - 1) / 2 = i
  · rw [e]; exact hr j j0 jl e
  · exact h.1 j j0 jl e
theorem SI.step {r : β → β → Bool} (o : WO r) {l : List β} {i d : Nat} (h : SI r l i) (d0 : 0 < d) (hd : d < l.length) (hdi : (d - 1) / 2 = i) (hb : ∀ j, 0 < j → j < l.length → (j - 1) / 2 = i → r l[j]! l[d]! = false) (hr : r l[d]! l[i]! = true) : SI r (sw l i d) d := by
  have hi : i < l.length := by omega
  refine ⟨fun j j0 jl jn => ?_, fun j _ j0 jl je => ?_⟩
  · rw [sw_len] at jl
    rw [sw_get l i d j hi hd, sw_get l i d ((j - 1) / 2) hi hd, if_neg jn]
    by_cases e1 : j = d
    · rw [if_pos e1, e1, if_pos hdi]
      exact o.asy _ _ hr
    · rw [if_neg e1]
      by_cases e2 : (j - 1) / 2 = i
      · rw [if_pos e2, if_neg (by omega)]
        exact hb j j0 jl e2
      · rw [if_neg e2]
        by_cases e3 : j = i
        · rw [if_pos e3]
          have := h.2 d (by omega) d0 hd hdi
          rw [e3]
          exact this
        · rw [if_neg e3]
          exact h.1 j j0 jl e2
  · rw [sw_len] at jl
    rw [sw_get l i d j hi hd, sw_get l i d ((d - 1) / 2) hi hd, if_neg (show (d - 1) / 2 ≠ d by omega), if_pos hdi, if_neg (show j ≠ d by omega), if_neg (show j ≠ i by omega)]
    have := h.1 j j0 jl (by omega)
    rw [je] at this
    exact this
/-- The last one at the front, of what is left, begins to sink. -/
theorem HI.pop {r : β → β → Bool} {l : List β} (h : HI r l) (n : Nat) (hn : l.length = n + 1) : SI r ((l.set 0 l[n]!).take n) 0 := by
  refine ⟨fun j j0 jl jn => ?_, fun j h0 => by omega⟩
  have jl' : j < n := by simp at jl; omega
  have e : ∀ k, 0 < k → k < n → ((l.set 0 l[n]!).take n)[k]! = l[k]! := fun k h0 hk => by
    generalize l[n]! = z
    rw [get_of (by simp; omega), get_of (by omega), List.getElem_take, List.getElem_set_ne (by omega)]
  rw [e j j0 jl', e _ (by omega) (by omega)]
  exact h j j0 (by omega)
theorem pop_perm (l : List β) (n : Nat) (hn : l.length = n + 1) : l.Perm (l[0]! :: (l.set 0 l[n]!).take n) := by
  match l, hn with
  | x :: t, hn =>
    simp only [List.length_cons, Nat.add_right_cancel_iff] at hn
    subst hn
    have e0 : (x :: t)[0]! = x := by simp
    rw [e0]
    refine List.Perm.cons _ ?_
    rw [List.set_cons_zero]
    rcases List.eq_nil_or_concat t with rfl | ⟨u, y, rfl⟩
    · simp
    · have e1 : (x :: u.concat y)[(u.concat y).length]! = y := by simp
      rw [e1]
      simp only [List.concat_eq_append, List.length_append, List.length_cons, List.length_nil]
      rw [List.take_succ_cons, List.take_append_of_le_length (by simp), List.take_of_length_le (by simp)]
      exact List.perm_append_singleton y u
/-- The front one: none stands ahead of it. -/
theorem HI.front {r : β → β → Bool} (o : WO r) {l : List β} (h : HI r l) : ∀ j, j < l.length → r l[j]! l[0]! = false := fun j => by
  induction j using Nat.strongRecOn with
  | ind j ih =>
    intro hj
    by_cases j0 : j = 0
    · subst j0
      cases hb : r l[0]! l[0]!
      · rfl
      · have := o.asy _ _ hb; rw [hb] at this; cases this
    · exact o.nt _ _ _ (h j (by omega) hj) (ih ((j - 1) / 2) (by omega) (by omega))
theorem HI.first {r : β → β → Bool} (o : WO r) {l : List β} (h : HI r l) : ∀ y ∈ l, r y l[0]! = false := fun y hy => by
  obtain ⟨j, hj, rfl⟩ := List.getElem_of_mem hy
  rw [← get_of hj]
  exact h.front o j hj
/-- By a function, and of equal ones the one that came first. -/
def ah {α : Type} (lt : α → α → Bool) (a b : α × Int) : Bool := if a.2 < b.2 then !lt b.1 a.1 else lt a.1 b.1
theorem WO.ah {α : Type} {lt : α → α → Bool} (o : WO lt) : WO (Go.Proofs.YtifioikdhfhljaaGreatDoor.Hp.ah lt) := by
  have ir : ∀ a, lt a a = false := fun a => by
    cases h : lt a a
    · rfl
    · have := o.asy _ _ h; rw [h] at this; exact this
  refine ⟨fun a b h => ?_, fun a b c h k => ?_, fun a b c h k => ?_⟩
  · unfold Go.Proofs.YtifioikdhfhljaaGreatDoor.Hp.ah at h ⊢
    split at h
    · rw [if_neg (by omega)]; simpa using h
    · split
      · rw [h]; rfl
      · exact o.asy _ _ h
  · unfold Go.Proofs.YtifioikdhfhljaaGreatDoor.Hp.ah at h k ⊢
    split at h <;> split at k
    · rw [if_pos (by omega)]
      simp only [Bool.not_eq_true'] at h k ⊢
      exact o.nt _ _ _ k h
    · simp only [Bool.not_eq_true'] at h
      have h2 : lt a.1 c.1 = true := by
        cases hb : lt a.1 c.1
        · have := o.nt _ _ _ h hb; rw [k] at this; cases this
        · rfl
      split
      · rw [o.asy _ _ h2]; rfl
      · exact h2
    · simp only [Bool.not_eq_true'] at k
      have h2 : lt a.1 c.1 = true := by
        cases hb : lt a.1 c.1
        · have := o.nt _ _ _ hb k; rw [h] at this; cases this
        · rfl
      split
      · rw [o.asy _ _ h2]; rfl
      · exact h2
    · have h2 := o.tr _ _ _ h k
      split
      · rw [o.asy _ _ h2]; rfl
      · exact h2
  · unfold Go.Proofs.YtifioikdhfhljaaGreatDoor.Hp.ah at h k ⊢
    split at h <;> split at k
    · simp only [Bool.not_eq_false'] at h k
      rw [if_pos (by omega), o.tr _ _ _ k h]; rfl
    · simp only [Bool.not_eq_false'] at h
      have h2 : lt c.1 a.1 = true := by
        cases hb : lt c.1 a.1
        · have := o.nt _ _ _ k hb; rw [h] at this; cases this
        · rfl
      split
      · rw [h2]; rfl
      · exact o.asy _ _ h2
    · simp only [Bool.not_eq_false'] at k
      have h2 : lt c.1 a.1 = true := by
        cases hb : lt c.1 a.1
        · have := o.nt _ _ _ hb h; rw [k] at this; cases this
        · rfl
      split
      · rw [h2]; rfl
      · exact o.asy _ _ h2
    · rw [if_neg (by omega)]
      exact o.nt _ _ _ h k
end Hp
end Go.Proofs.YtifioikdhfhljaaGreatDoor
