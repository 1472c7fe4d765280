/- GateOwn: keep. -/
import Derived.Test.YtmclbnhbioficacGl4
namespace Go.Proofs.Ytmclbnhbioficac
open Go.RowKit

/-- A slice, by its parts. -/
abbrev SV := Option Addr × Nat × Nat
def sv (s : SV) : Value := .slice s.1 s.2.1 s.2.2
abbrev eK : Enc (SV × SV) := ⟨fun x => [sv x.1, sv x.2], 2, fun _ => rfl, fun _ u hu => by simp at hu; rcases hu with rfl | rfl <;> rfl⟩
abbrev SwK := Sw eK 43
theorem info_K : ∃ i, Try.prog.info? 43 = some i ∧ i.zero = some (.agg #[.slice none 0 0, .slice none 0 0]) ∧ i.size = 2 ∧ i.bytes = 48 := info_parts (by kernel_rfl)
theorem app_nilI (a : Option Addr) (cap : Nat) (W : World) : (Builtin.append_ #[33, 33] 33 #[.slice none 0 0, .slice a 0 cap]).run Try.prog W = .ok (.slice none 0 0) W := by
  cases a <;> simp [Builtin.append_, run_underlying Try.underlying33, Try.sizeOf3, Builtin.lenOf, Builtin.firstCells, loadCells, loadCellsFrom]
/-- One number more, put behind a row. -/
theorem app_int {w : World} {v : Value} {l : List Int} (h : SwI w v l) (hl : l.length ≤ 100000) (x : Int) :
    ∃ v' w', (Builtin.append_ #[33, 33] 33 #[v, .slice (some ⟨w.heap.size, 0, none⟩) 1 1]).run Try.prog (w.alloc (.cells #[I x] 3)) = .ok v' w' ∧ SwI w' v' (l ++ [x]) ∧ ((v'.ownBlock = v.ownBlock ∧ v'.ownBlock ≠ none ∧ Chg (fun k => v.ownBlock = some k) (w.alloc (.cells #[I x] 3)) w') ∨ (v'.ownBlock = some (w.alloc (.cells #[I x] 3)).heap.size ∧ G (w.alloc (.cells #[I x] 3)) w')) := by
  obtain ⟨i0, hi0, hz0, hz1, hz2⟩ := info_I
  have hmx : (100001 : Nat) ≤ maxLen := of_decide_eq_true (by kernel_rfl)
  exact app_one (P := Try.prog) (ts := 33) i0 _ 8 Try.underlying33 hi0 hz0 hz1 hz2 rfl (by decide) (h.G ((G.refl w).alloc (.cells #[I x] 3))) ⟨w.heap.size, 0, none⟩ 1 x (fun j u hj => by
    have h1 := (Blk.new w [I x] 3).cell j
    rw [Addr.add_mid, Nat.zero_add]
    rw [hj] at h1
    exact h1) (by omega) (by omega)
/-- Two lists more, put into the book. -/
theorem app_kept {w : World} {v : Value} {es : List (SV × SV)} (h : SwK w v es) (hl : es.length ≤ 1000000000) (x : SV × SV) :
    ∃ v' w', (Builtin.append_ #[30, 30] 30 #[v, .slice (some ⟨w.heap.size, 0, none⟩) 1 1]).run Try.prog (w.alloc (.cells #[sv x.1, sv x.2] 43)) = .ok v' w' ∧ SwK w' v' (es ++ [x]) ∧ Chg (fun k => v.ownBlock = some k) (w.alloc (.cells #[sv x.1, sv x.2] 43)) w' ∧ ∀ k, v'.ownBlock = some k → v.ownBlock = some k ∨ (w.alloc (.cells #[sv x.1, sv x.2] 43)).heap.size ≤ k := by
  obtain ⟨i0, hi0, hz0, hz1, hz2⟩ := info_K
  have hmx : (1000000001 : Nat) ≤ maxLen := of_decide_eq_true (by kernel_rfl)
  obtain ⟨v', w', q1, q2, q3⟩ := app_one (P := Try.prog) (ts := 30) i0 _ 48 Try.underlying30 hi0 hz0 hz1 hz2 rfl (by decide) (h.G ((G.refl w).alloc (.cells #[sv x.1, sv x.2] 43))) ⟨w.heap.size, 0, none⟩ 1 x (fun j u hj => by
    have h1 := (Blk.new w [sv x.1, sv x.2] 43).cell j
    rw [Addr.add_mid, Nat.zero_add]
    rw [hj] at h1
    exact h1) (by omega) (by omega)
  obtain ⟨a, b⟩ := Chg.app q3
  exact ⟨v', w', q1, q2, a, b⟩
theorem SwI.put {w : World} {g n cap : Nat} {l : List Int} (h : SwI w (.slice (some ⟨g, 0, none⟩) n cap) l) (i : Nat) (hi : i < l.length) (c : Int) : SwI (w.setCell ⟨g, i, none⟩ (I c)) (.slice (some ⟨g, 0, none⟩) n cap) (l.set i c) := by
  obtain ⟨rfl, rest, hb, hr⟩ := h.open
  refine .inr ⟨g, cap, rest, by rw [List.length_set], ?_, by rw [List.length_set]; exact hr⟩
  have h1 := hb.set i (I c)
  have hl : (eI.fl l).length = l.length * 1 := Enc.len eI l
  rw [List.set_append_left _ _ (by omega)] at h1
  have e0 : ∀ q : List Int, eI.fl q = q.map I := fun q => by
    induction q with
    | nil => rfl
    | cons a q ih => rw [Enc.fl_cons, ih]; rfl
  rw [e0, ← List.map_set] at h1
  rw [e0]
  exact h1
theorem RowI.chg {F : Nat → Prop} {w w' : World} {v : Value} {l : List Int} (h : RowI w v l) (k : Chg F w w') (hF : ∀ b, v.ownBlock = some b → ¬ F b) : RowI w' v l := by
  obtain ⟨a, c, rfl, h⟩ := h
  refine ⟨a, c, rfl, ?_⟩
  rcases h with h | ⟨g, off, rfl, h⟩
  · exact .inl h
  · refine .inr ⟨g, off, rfl, fun i x hx => ?_⟩
    have h1 := h i x hx
    have hb := k.block g (cell_lt h1) (hF g rfl)
    simp only [World.cell?] at h1 ⊢
    rw [hb]
    exact h1
/-- A list whose block another one has grown in holds what it held. -/
theorem RowI.pre {w : World} {u v : Value} {a b : List Int} (h : SwI w u (a ++ b)) (hv : ∃ o c, v = .slice o a.length c ∧ (a = [] ∨ ∃ g, o = some ⟨g, 0, none⟩)) (e : u.ownBlock = v.ownBlock) : RowI w v a := by
  obtain ⟨o, c, rfl, hv⟩ := hv
  refine ⟨o, c, rfl, ?_⟩
  rcases hv with rfl | ⟨g, rfl⟩
  · exact .inl rfl
  · by_cases ha : a = []
    · exact .inl ha
    · obtain ⟨g', cap, rfl⟩ := h.slice (by rw [List.length_append]; have := List.length_pos_iff.2 ha; omega)
      have hg : g' = g := by simpa [Value.ownBlock] using e
      subst hg
      refine .inr ⟨g', 0, rfl, fun i x hx => ?_⟩
      have h2 : (a ++ b)[i]? = some x := by rw [List.getElem?_append_left (List.getElem?_eq_some_iff.1 hx).1]; exact hx
      have := h.at h2 0 (by decide)
      rw [Nat.zero_add]
      simpa using this
end Go.Proofs.Ytmclbnhbioficac
