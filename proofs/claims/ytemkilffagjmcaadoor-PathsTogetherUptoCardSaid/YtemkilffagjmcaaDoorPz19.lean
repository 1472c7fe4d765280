/- PathsOrders: the walk. -/
import Derived.Test.YtemkilffagjmcaaDoorPz18
import Derived.Test.YtemkilffagjmcaaDoorPm4
namespace Go.Proofs.YtemkilffagjmcaaDoor
open Go.RowKit

/-- A row of ids stays where only the asked list turns, which is another one. -/
theorem Rw.askO {lo n : Nat} {W W' : World} {v av av' : Value} {xs : List Value} (h : Rw lo 2 1 W v n xs) (k : AskO W W' av av') (hne : ∀ b, v.ownBlock = some b → av.ownBlock ≠ some b) : Rw lo 2 1 W' v n xs := h.keep fun b hb => by
  obtain ⟨_, _, ys, hy⟩ := h.own hb
  exact k.1 b ys hy (hne b hb)
theorem noown : ∀ b, (Value.slice none 0 0).ownBlock ≠ some b := fun b e => by simp [Value.ownBlock] at e
theorem Rw.relo {lo m n : Nat} {e : TypeId} {w : World} {v : Value} {xs : List Value} (h : Rw lo e 1 w v n xs) (hb : ∀ b, v.ownBlock = some b → m ≤ b) : Rw m e 1 w v n xs := by
  refine ⟨h.1, ?_⟩
  rcases h.2 with q | ⟨g, cap, cur, rfl, h1, h2⟩
  · exact .inl q
  · exact .inr ⟨g, cap, cur, rfl, hb g rfl, h2⟩
theorem half_ids {w : World} {la : Option Addr} {lc : Nat} {l : List Int} (h : Ids w (.slice la l.length lc) l) (k : Nat) (hk : k ≤ l.length) : Ids w (.slice la k lc) (l.take k) := by
  have e : (l.take k).length = k := by rw [List.length_take]; omega
  obtain ⟨a, c, e1, h1, h2⟩ := h.at_
  simp only [Value.slice.injEq] at e1
  obtain ⟨rfl, -, rfl⟩ := e1
  refine ⟨⟨la, lc, by rw [e], h1, ?_⟩, fun x hx => h.ok x (List.mem_of_mem_take hx)⟩
  rcases h2 with rfl | ⟨b, off, rfl, h3⟩
  · exact .inl (by simp)
  · refine .inr ⟨b, off, rfl, fun o ho => ?_⟩
    rw [e] at ho
    rw [h3 o (by omega), List.map_take, List.getElem?_take, if_pos ho]
theorem three_ls (lo m1 m2 : Nat) (w : World) (v0 v1 v2 : Value) (l0 l1 l2 : List Int) (r0 : Rw lo 2 1 w v0 l0.length (l0.map I)) (r1 : Rw lo 2 1 w v1 l1.length (l1.map I)) (r2 : Rw lo 2 1 w v2 l2.length (l2.map I)) (o0 : ∀ b, v0.ownBlock = some b → b < m1) (o1 : ∀ b, v1.ownBlock = some b → m1 ≤ b ∧ b < m2) (o2 : ∀ b, v2.ownBlock = some b → m2 ≤ b) (hm : m1 ≤ m2) : Ls lo w [v0, v1, v2] [l0, l1, l2] := by
  refine ⟨rfl, fun j v l hv hl => ?_, fun i j v v' b hij hv hv' hb e => ?_⟩
  · match j, hv, hl with
    | 0, hv, hl => simp only [List.getElem?_cons_zero, Option.some.injEq] at hv hl; subst hv; subst hl; exact r0
    | 1, hv, hl => simp only [List.getElem?_cons_zero, List.getElem?_cons_succ, Option.some.injEq] at hv hl; subst hv; subst hl; exact r1
    | 2, hv, hl => simp only [List.getElem?_cons_zero, List.getElem?_cons_succ, Option.some.injEq] at hv hl; subst hv; subst hl; exact r2
    | j + 3, hv, hl => simp at hv
  · match i, j, hv, hv' with
    | 0, 0, _, _ => exact absurd rfl hij
    | 1, 1, _, _ => exact absurd rfl hij
    | 2, 2, _, _ => exact absurd rfl hij
    | 0, 1, hv, hv' => simp only [List.getElem?_cons_zero, List.getElem?_cons_succ, Option.some.injEq] at hv hv'; subst hv; subst hv'; have := o0 b hb; have := o1 b e; omega
    | 0, 2, hv, hv' => simp only [List.getElem?_cons_zero, List.getElem?_cons_succ, Option.some.injEq] at hv hv'; subst hv; subst hv'; have := o0 b hb; have := o2 b e; omega
    | 1, 2, hv, hv' => simp only [List.getElem?_cons_zero, List.getElem?_cons_succ, Option.some.injEq] at hv hv'; subst hv; subst hv'; have := o1 b hb; have := o2 b e; omega
    | 1, 0, hv, hv' => simp only [List.getElem?_cons_zero, List.getElem?_cons_succ, Option.some.injEq] at hv hv'; subst hv; subst hv'; have := o1 b hb; have := o0 b e; omega
    | 2, 0, hv, hv' => simp only [List.getElem?_cons_zero, List.getElem?_cons_succ, Option.some.injEq] at hv hv'; subst hv; subst hv'; have := o2 b hb; have := o0 b e; omega
    | 2, 1, hv, hv' => simp only [List.getElem?_cons_zero, List.getElem?_cons_succ, Option.some.injEq] at hv hv'; subst hv; subst hv'; have := o2 b hb; have := o1 b e; omega
    | i + 3, _, hv, _ => simp at hv
    | _, j + 3, _, hv' => simp at hv'
/-- The room, cut to the nodes. -/
theorem room_ids {lo g cap : Nat} {w : World} {l : List Int} (hf : Rw lo 2 1 w (.slice (some ⟨g, 0, none⟩) (l.length + 2) cap) (l.length + 2) ((l ++ [-81, -82]).map I)) (hr : ∀ x ∈ l, R64 x) : Ids w (.slice (some ⟨g, 0, none⟩) l.length cap) l := by
  obtain ⟨g', cap', rest, e, -, hblk, hlen⟩ := Rw.blk hf (by omega)
  have eg : g = g' := by simp at e; exact e.1
  subst eg
  exact ⟨⟨_, cap, rfl, fun q => (by cases q), .inr ⟨g, 0, rfl, fun o ho => by
    rw [hblk.cell, Nat.zero_add, List.getElem?_append_left (by rw [List.length_map, List.length_append]; omega), List.map_append, List.getElem?_append_left (by rw [List.length_map]; exact ho)]⟩⟩, hr⟩
theorem room_form {lo n : Nat} {w : World} {v : Value} {xs : List Value} (h : Rw lo 2 1 w v (n + 2) xs) : ∃ g cap, v = .slice (some ⟨g, 0, none⟩) (n + 2) cap ∧ lo ≤ g ∧ g < w.heap.size ∧ n + 2 ≤ cap := by
  rcases h.2 with ⟨-, h0⟩ | ⟨g, cap, cur, rfl, h1, h2, h3, -⟩
  · omega
  · exact ⟨g, cap, rfl, h1, (Rw.own h (b := g) rfl).2.1, h3⟩
end Go.Proofs.YtemkilffagjmcaaDoor
