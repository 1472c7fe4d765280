/- value.KeyOf: the key's cells, as it is built. -/
import Derived.Test.YtdiikofgilplkaaDoorKey1
import Derived.Laws.IdiomCopy
namespace Go.Proofs.YtdiikofgilplkaaDoor
open Go.RowKit Go.Shelf Go.PlainAid Go.Lib

/-- Under way in KeyOf, entered at w: g is the block of the key, which holds these bytes. -/
structure KW (w : World) (g : Nat) (f : Nat → Nat) (W : World) : Prop where
  gg : G w W
  rb : W.there (w.heap.size + 1) 0 24
  c : ∀ j, j < 24 → W.cell? ⟨g, j, none⟩ = some (bv (f j))
  fz : ∀ j, j < 24 → W.frozen? ⟨g, j, none⟩ = false
  lo : w.heap.size + 1 < g
  hi : g < W.heap.size
theorem KW.keep {w : World} {g : Nat} {f : Nat → Nat} {W W' : World} (h : KW w g f W) (k : G W W') : KW w g f W' :=
  ⟨h.gg.trans k, there_G k (by have := h.lo; have := h.hi; omega) h.rb, fun j hj => by rw [k.cell h.hi]; exact h.c j hj, fun j hj => by rw [k.frozen h.hi]; exact h.fz j hj, h.lo, Nat.lt_of_lt_of_le h.hi k.size⟩
theorem KW.put {w : World} {g : Nat} {f : Nat → Nat} {W W' : World} (h : KW w g f W) {off len x : Nat} (k : PutR W g off len len x W') :
    KW w g (fun j => if off ≤ j ∧ j < off + len then x / 256 ^ (len - 1 - (j - off)) % 256 else f j) W' := by
  have hlo := h.lo
  refine ⟨k.keep _ h.gg (by omega), fun j hj => ?_, fun j hj => ?_, fun j hj => by rw [k.frozen]; exact h.fz j hj, hlo, by rw [k.size]; exact h.hi⟩
  · rw [k.other _ _ (by omega), k.frozen]; exact h.rb j hj
  · by_cases hj2 : off ≤ j ∧ j < off + len
    · have := k.new (j - off) (by omega) (by omega)
      rw [show off + (j - off) = j by omega] at this
      rw [this]; simp only [if_pos hj2]
    · rw [k.old j (by omega)]; simp only [if_neg hj2]; exact h.c j hj
theorem KW.cells {w : World} {g : Nat} {f : Nat → Nat} {W : World} (h : KW w g f W) {off : Nat} (ys : List Nat) (hl : off + ys.length ≤ 24) :
    KW w g (fun j => if off ≤ j ∧ j < off + ys.length then ys.getD (j - off) 0 else f j) (W.setCells g off (ys.map bv)) := by
  have hlo := h.lo
  refine ⟨G.setCells _ h.gg (by omega), World.there_setCells h.rb _ _ _, fun j hj => ?_, fun j hj => by rw [World.frozen?_setCells]; exact h.fz j hj, hlo, ?_⟩
  · by_cases hj2 : off ≤ j ∧ j < off + ys.length
    · have := World.cell?_setCells_in g (ys.map bv) off W (fun i hi => by rw [h.c (off + i) (by simp at hi; omega)]; rfl) (j - off) (by simp; omega)
      rw [show off + (j - off) = j by omega] at this
      rw [this]; simp only [if_pos hj2, List.getElem_map]
      rw [List.getD_eq_getElem?_getD, List.getElem?_eq_getElem (by omega), Option.getD_some]
    · rw [World.cell?_setCells_out g (ys.map bv) off W _ (fun _ _ => by simp; omega)]; simp only [if_neg hj2]; exact h.c j hj
  · have := (G.setCells (a := W) (ys.map bv) (G.refl W) (b := W.heap.size) (o := off) (Nat.le_refl _)).size
    have e : ∀ (vs : List Value) (W : World) (o : Nat), (W.setCells g o vs).heap.size = W.heap.size := by
      intro vs; induction vs with
      | nil => intros; rfl
      | cons v vs ih => intro W o; rw [World.setCells, ih]; simp
    rw [e]; exact h.hi
def cellsOf (f : Nat → Nat) : List Value := (List.range 24).map fun j => bv (f j)
theorem cellsOf_len (f : Nat → Nat) : (cellsOf f).length = 24 := by simp [cellsOf]
theorem cellsOf_one (f : Nat → Nat) : (cellsOf f).toArray.all (·.oneCell') = true := all_oneCell_toArray (fun v hv => by
  simp only [cellsOf, List.mem_map] at hv; obtain ⟨j, _, rfl⟩ := hv; rfl)
theorem KW.range {w : World} {g : Nat} {f : Nat → Nat} {W : World} (h : KW w g f W) : W.rangeAt g 0 (cellsOf f) := fun j u hj => by
  have hj24 : j < 24 := by have := (List.getElem?_eq_some_iff.1 hj).1; rwa [cellsOf_len] at this
  rw [Nat.zero_add, h.c j hj24, ← hj]
  simp [cellsOf, hj24]
theorem step_copy_there {P : Program} {ops : Array Oper} {o : Oper} {a : Act} {w : World} {K : Act → World → Prop} {Q : Exit → Act → World → Prop} {E : Prop} (hgd : o.guard = none) (d s : Operand) (dT sT : TypeId)
    (ho : o.op = .call { callee := .builtin .copy, args := #[d, s], argTypes := #[dT, sT] }) (elem : TypeId) (hu : P.underlying dT = some (.slice elem)) (hsz : (P.info? elem).map (·.size) = some 1)
    (g off dLen dCap : Nat) (ad : Addr) (sLen sCap : Nat) (hd : a.eval d = .slice (some ⟨g, off, none⟩) dLen dCap) (hs : a.eval s = .slice (some ad) sLen sCap)
    (cs : List Value) (hn : cs.length = Nat.min sLen dLen) (hsrc : ∀ j v, cs[j]? = some v → w.cell? (ad.add j) = some v) (ht : w.there g off cs.length) (h1 : ∀ v ∈ cs, v.oneCell' = true)
    (h : K (a.put o.dst (goInt cs.length)) (w.setCells g off cs)) :
    if Region.wanted o (yielded ops a.tmps) = true then Oper.wp P o a w K Q else E := by
  have hw : Region.wanted o (yielded ops a.tmps) = true := by simp [Region.wanted, hgd]
  rw [if_pos hw]
  have hrun := run_copy_cells (P := P) w dT sT o.type elem g off dLen dCap ad sLen sCap cs hu hsz hn hsrc (fun j hj => (ht j hj).1) (fun j hj => (ht j hj).2) h1
  unfold Oper.wp
  simp [execOp, ho, resolve, invoke, builtin, hd, hs, hrun, Result.andThen]
  exact h
end Go.Proofs.YtdiikofgilplkaaDoor
