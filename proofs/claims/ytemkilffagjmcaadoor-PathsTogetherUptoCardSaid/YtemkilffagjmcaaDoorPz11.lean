/- Paths: the document's Order, the walk. -/
import Derived.Test.YtemkilffagjmcaaDoorPz8
namespace Go.Proofs.YtemkilffagjmcaaDoor
section
section
open Go.RowKit

/-- Has no node that is not done an arc to node k? -/
def freeB (L : List (List Nat)) (D : List Bool) (k : Nat) : Bool := (List.range L.length).all fun i => D[i]! || !(L[i]!).contains k
theorem freeB_iff {L : List (List Nat)} {D : List Bool} {k : Nat} : freeB L D k = true ↔ ∀ i, i < L.length → D[i]! = false → k ∉ L[i]! := by
  unfold freeB
  rw [List.all_eq_true]
  constructor
  · intro h i hi hd hk
    have := h i (List.mem_range.2 hi)
    rw [hd, Bool.false_or, List.contains_iff_mem.2 hk] at this
    cases this
  · intro h i hi
    cases hd : D[i]! with
    | true => rfl
    | false =>
      have h2 := h i (List.mem_range.1 hi) hd
      rw [Bool.false_or]
      cases hc : (L[i]!).contains k with
      | true => exact absurd (List.contains_iff_mem.1 hc) h2
      | false => rfl
/-- The next one: the least that is not done and free. -/
def nxtO (L : List (List Nat)) (D : List Bool) : Option Nat := (List.range L.length).find? fun k => !D[k]! && freeB L D k
/-- The order: which are taken, one after another; false: there is a ring. -/
def ordF (L : List (List Nat)) : Nat → List Bool → List Nat → List Nat × Bool
  | 0, _, O => (O, true)
  | f + 1, D, O => match nxtO L D with
    | none => (O, false)
    | some k => ordF L f (D.set k true) (O ++ [k])
end
open Go.RowKit

theorem nxtO_none {L : List (List Nat)} {D : List Bool} (h : ∀ j, j < L.length → D[j]! = true ∨ freeB L D j = false) : nxtO L D = none := by
  unfold nxtO
  rw [List.find?_range_eq_none]
  intro i hi
  rcases h i hi with q | q <;> simp [q]
theorem nxtO_some {L : List (List Nat)} {D : List Bool} {k : Nat} (hk : k < L.length) (hd : D[k]! = false) (hf : freeB L D k = true) (h : ∀ j, j < k → D[j]! = true ∨ freeB L D j = false) : nxtO L D = some k := by
  unfold nxtO
  rw [List.find?_range_eq_some]
  refine ⟨by rw [hd, hf]; rfl, List.mem_range.2 hk, fun j hj => ?_⟩
  rcases h j hj with q | q <;> simp [q]
theorem ordF_none {L : List (List Nat)} {D : List Bool} {O : List Nat} {f : Nat} (h : nxtO L D = none) : ordF L (f + 1) D O = (O, false) := by rw [ordF, h]
theorem ordF_some {L : List (List Nat)} {D : List Bool} {O : List Nat} {f k : Nat} (h : nxtO L D = some k) : ordF L (f + 1) D O = ordF L f (D.set k true) (O ++ [k]) := by rw [ordF, h]
theorem info_B : ∃ i, Tryd.prog.info? 4 = some i ∧ i.zero = some (.bool false) ∧ i.size = 1 ∧ i.bytes = 1 := info_parts (by kernel_rfl)
theorem made_b (n : Nat) : madeCells (Value.bool false).cells n = (List.replicate n (Value.bool false)).toArray := by
  have e : (Value.bool false).cells = #[.bool false] := rfl
  rw [e]
  unfold madeCells
  apply Array.ext
  · simp
  · intro i h1 h2
    simp [Nat.mod_one]
theorem rw_mb (w : World) (lo n : Nat) (hn : n ≤ maxLen) (hlo : lo ≤ w.heap.size) : Rw lo 4 1 (w.alloc (.cells (List.replicate n (Value.bool false)).toArray 4)) (.slice (some ⟨w.heap.size, 0, none⟩) n n) n ((List.replicate n false).map Value.bool) :=
  ⟨by simp, .inr ⟨w.heap.size, n, _, rfl, hlo, heap_alloc_new w _, Nat.le_refl _, hn, by simp, by simp⟩⟩
/-- What the document's Order tells. -/
def ROPost (W : World) (rs : List Nr) (tail : Bool) (ids : List Int) (e : Ending) (W' : World) : Prop := G W W' ∧
  ((4096 < ids.length ∧ e = .returned (.tuple #[.slice none 0 0, .bool false, I 92, .slice none 0 0])) ∨
   (ids.length ≤ 4096 ∧ ∃ (k : Nat) (id : Int) (av : Value), ids[k]? = some id ∧ (netOf rs tail id).2 ≠ 0 ∧ (∀ (j : Nat) id', j < k → ids[j]? = some id' → (netOf rs tail id').2 = 0) ∧ e = .returned (.tuple #[.slice none 0 0, .bool false, I (netOf rs tail id).2, av]) ∧ Rw W.heap.size 2 1 W' av (ids.take (k + 1)).length ((ids.take (k + 1)).map I)) ∨
   (ids.length ≤ 4096 ∧ (∀ id ∈ ids, (netOf rs tail id).2 = 0) ∧ ∃ (O : List Nat) (ok : Bool) (ov av : Value), ordF (ids.map fun id => insL (atI ids) (netOf rs tail id).1) ids.length (List.replicate ids.length false) [] = (O, ok) ∧ Rw W.heap.size 2 1 W' av ids.length (ids.map I) ∧ e = .returned (.tuple #[ov, .bool ok, I 0, av]) ∧ (ok = true → Rw W.heap.size 2 1 W' ov O.length ((O.map fun k => ids[k]!).map I)) ∧ (ok = false → ov = .slice none 0 0)))
/-- Between two rounds. -/
structure Ro2 (lo : Nat) (w : World) (iv av ov dv xv : Value) (ids : List Int) (L : List (List Nat)) (D : List Bool) (O : List Nat) : Prop where
  ga : Ga lo w iv av ov ids ids L
  d : Rw lo 4 1 w dv D.length (D.map Value.bool)
  x : Rw lo 2 1 w xv O.length ((O.map fun k => ids[k]!).map I)
  dis : ∀ b, xv.ownBlock = some b → iv.ownBlock ≠ some b ∧ av.ownBlock ≠ some b
theorem Ro2.G {lo : Nat} {w w' : World} {iv av ov dv xv : Value} {ids : List Int} {L : List (List Nat)} {D : List Bool} {O : List Nat} (h : Ro2 lo w iv av ov dv xv ids L D O) (g : Go.Proofs.YtemkilffagjmcaaDoor.G w w') : Ro2 lo w' iv av ov dv xv ids L D O := ⟨h.ga.G g, Rw.G h.d g, Rw.G h.x g, h.dis⟩
theorem Ga.keep {lo : Nat} {w w' : World} {iv av ov : Value} {ids asked : List Int} {L : List (List Nat)} (h : Ga lo w iv av ov ids asked L) (hr : ∀ e v n xs, (e = 2 → v = iv ∨ v = av) → (e = 2 ∨ e = 3 ∨ e = 62) → Rw lo e 1 w v n xs → Rw lo e 1 w' v n xs) : Ga lo w' iv av ov ids asked L := by
  obtain ⟨vs, h1, h2⟩ := h.arc
  exact ⟨hr _ _ _ _ (fun _ => .inl rfl) (.inl rfl) h.ids, hr _ _ _ _ (fun _ => .inr rfl) (.inl rfl) h.ask, h.dis, ⟨vs, hr _ _ _ _ (fun e => absurd e (by decide)) (.inr (.inr rfl)) h1, fun j v l a b => hr _ _ _ _ (fun e => absurd e (by decide)) (.inr (.inl rfl)) (h2 j v l a b)⟩⟩
/-- One is taken: it is marked. -/
theorem Ro2.mark {lo : Nat} {w : World} {iv av ov xv : Value} {g cap : Nat} {ids : List Int} {L : List (List Nat)} {D : List Bool} {O : List Nat} (h : Ro2 lo w iv av ov (.slice (some ⟨g, 0, none⟩) D.length cap) xv ids L D O) {k : Nat} (hk : k < D.length) : Ro2 lo (w.setCell ⟨g, k, none⟩ (.bool true)) iv av ov (.slice (some ⟨g, 0, none⟩) (D.set k true).length cap) xv ids L (D.set k true) O := by
  have hdb : ∃ ys, Blk w g 4 ys := (Rw.own h.d (b := g) rfl).2.2
  obtain ⟨ys, hy⟩ := hdb
  have hoff : ∀ e v n xs, e ≠ 4 → Rw lo e 1 w v n xs → Rw lo e 1 (w.setCell ⟨g, k, none⟩ (.bool true)) v n xs := fun e v n xs he hr => hr.keep (fun b hb => Below.heap_setCell _ _ _ _ (fun e3 => Rw.offb hr hy he (by rw [hb]; exact congrArg some e3)))
  refine ⟨h.ga.keep (fun e v n xs _ he hr => hoff e v n xs (by rcases he with rfl | rfl | rfl <;> decide) hr), ?_, hoff _ _ _ _ (by decide) h.x, h.dis⟩
  have := Rw.set h.d k (by omega) (.bool true)
  rw [List.length_set, List.map_set]
  exact this
/-- .. and told. -/
theorem Ro2.tell {lo : Nat} {w : World} {iv av ov dv xv : Value} {ids : List Int} {L : List (List Nat)} {D : List Bool} {O : List Nat} (h : Ro2 lo w iv av ov dv xv ids L D O) (hz : lo ≤ w.heap.size) (k : Nat) (id : Int) (hid : ids[k]? = some id) (hb : O.length ≤ 1048576) :
    ∃ v' w', (Builtin.append_ #[23, 23] 23 #[xv, .slice (some ⟨w.heap.size, 0, none⟩) 1 1]).run Tryd.prog (w.alloc (.cells #[I id] 2)) = .ok v' w' ∧ Ro2 lo w' iv av ov dv v' ids L D (O ++ [k]) ∧ Chg (fun b => lo ≤ b) w w' := by
  have gA : Go.Proofs.YtemkilffagjmcaaDoor.G w (w.alloc (.cells #[I id] 2)) := (G.refl w).alloc _
  have hA := h.G gA
  have hl : (O.map fun k => ids[k]!).length = O.length := List.length_map _
  obtain ⟨v', w', q1, q2, q3, q4⟩ := app_I (w.alloc (.cells #[I id] 2)) lo xv O.length ((O.map fun k => ids[k]!).map I) hA.x ⟨w.heap.size, 0, none⟩ 1 1 [I id] rfl (fun j u hj => by rw [Addr.add_mid, Nat.zero_add, (Blk.new w [I id] 2).cell]; exact hj) (fun u hu => by simp at hu; subst hu; rfl) (by omega) (Nat.le_trans hz gA.size)
  refine ⟨v', w', q1, ⟨hA.ga.keep (fun e v n xs hv he hr => ?_), hA.d.other hA.x (by decide) q3, ?_, fun b hb => ?_⟩, (gA.chg).trans (q3.mono (fun b hb => (Rw.own hA.x hb).1))⟩
  · by_cases e1 : e = 2
    · refine hr.chg q3 (fun b hb q => ?_)
      rcases hv e1 with rfl | rfl
      · exact (h.dis b q).1 hb
      · exact (h.dis b q).2 hb
    · exact hr.other hA.x e1 q3
  · rw [List.length_append, List.map_append, List.map_append]
    have e2 : ids[k]! = id := by simp [hid]
    simp only [List.map_cons, List.map_nil, e2]
    exact q2
  · rcases q4 with q | q
    · exact h.dis b (q ▸ hb)
    · rw [q] at hb
      have e2 := Option.some.inj hb
      refine ⟨fun e => ?_, fun e => ?_⟩
      · have := (Rw.own hA.ga.ids e).2.1
        omega
      · have := (Rw.own hA.ga.ask e).2.1
        omega
end
open Go.RowKit

/-- A slice's length. -/
def slen : Value → Nat
  | .slice _ n _ => n
  | _ => 0
end Go.Proofs.YtemkilffagjmcaaDoor
