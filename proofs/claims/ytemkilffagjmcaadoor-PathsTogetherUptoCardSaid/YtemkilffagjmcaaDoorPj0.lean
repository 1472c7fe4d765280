/- Paths: what a search may turn; rows; finds. -/
import Derived.Test.YtemkilffagjmcaaDoorPi6
namespace Go.Proofs.YtemkilffagjmcaaDoor
open Go.RowKit

/-- What is older than Wb stays, blocks of other kinds than ts stay, maps but those of mp stay. -/
structure Mv (Wb : World) (ts : List TypeId) (mp : Nat → Prop) (w w' : World) : Prop where
  os : w'.os = w.os
  tape : w'.tape = w.tape
  output : w'.output = w.output
  size : w.heap.size ≤ w'.heap.size
  old : ∀ b, b < Wb.heap.size → w'.heap[b]? = w.heap[b]?
  blk : ∀ b e xs, Blk w b e xs → e ∉ ts → w'.heap[b]? = w.heap[b]?
  map : ∀ b es c, w.heap[b]? = some (.map es c) → ¬ mp b → w'.heap[b]? = w.heap[b]?
section
variable {Wb w w' w'' : World} {ts : List TypeId} {mp : Nat → Prop}
theorem Mv.refl (Wb : World) (ts : List TypeId) (mp : Nat → Prop) (w : World) : Mv Wb ts mp w w := ⟨rfl, rfl, rfl, Nat.le_refl _, fun _ _ => rfl, fun _ _ _ _ _ => rfl, fun _ _ _ _ _ => rfl⟩
theorem Mv.trans (h : Mv Wb ts mp w w') (k : Mv Wb ts mp w' w'') : Mv Wb ts mp w w'' :=
  ⟨k.os.trans h.os, k.tape.trans h.tape, k.output.trans h.output, Nat.le_trans h.size k.size, fun b hb => (k.old b hb).trans (h.old b hb),
    fun b e xs hb he => (k.blk b e xs (hb.keep (h.blk b e xs hb he)) he).trans (h.blk b e xs hb he),
    fun b es c hb hm => (k.map b es c ((h.map b es c hb hm).trans hb) hm).trans (h.map b es c hb hm)⟩
theorem Mv.of_G (hG : G Wb w) (h : G w w') : Mv Wb ts mp w w' :=
  have lt : ∀ b o, w.heap[b]? = some o → b < w.heap.size := fun _ _ e => (Array.getElem?_eq_some_iff.1 e).1
  ⟨h.os, h.tape, h.output, h.size, fun b hb => h.block b (Nat.lt_of_lt_of_le hb hG.size), fun b _ _ hb _ => h.block b hb.lt, fun b _ _ hb _ => h.block b (lt b _ hb)⟩
theorem Mv.of_chg {F : Nat → Prop} (hG : G Wb w) (h : Chg F w w') (h1 : ∀ b, F b → Wb.heap.size ≤ b) (h2 : ∀ b e xs, Blk w b e xs → F b → e ∈ ts) (h3 : ∀ b es c, w.heap[b]? = some (.map es c) → F b → mp b) : Mv Wb ts mp w w' :=
  have lt : ∀ b o, w.heap[b]? = some o → b < w.heap.size := fun _ _ e => (Array.getElem?_eq_some_iff.1 e).1
  ⟨h.os, h.tape, h.output, h.size, fun b hb => h.block b (Nat.lt_of_lt_of_le hb hG.size) (fun q => by have := h1 b q; omega), fun b e xs hb he => h.block b hb.lt (fun q => he (h2 b e xs hb q)), fun b es c hb hm => h.block b (lt b _ hb) (fun q => hm (h3 b es c hb q))⟩
theorem Mv.G (h : Mv Wb ts mp w w') (hG : Go.Proofs.YtemkilffagjmcaaDoor.G Wb w) : Go.Proofs.YtemkilffagjmcaaDoor.G Wb w' :=
  ⟨h.os.trans hG.os, h.tape.trans hG.tape, h.output.trans hG.output, Nat.le_trans hG.size h.size, fun b hb => (h.old b hb).trans (hG.block b hb)⟩
theorem Mv.mono {ts' : List TypeId} {mp' : Nat → Prop} (h : Mv Wb ts mp w w') (h1 : ∀ e, e ∈ ts → e ∈ ts') (h2 : ∀ b, mp b → mp' b) : Mv Wb ts' mp' w w' :=
  ⟨h.os, h.tape, h.output, h.size, h.old, fun b e xs hb he => h.blk b e xs hb (fun q => he (h1 e q)), fun b es c hb hm => h.map b es c hb (fun q => hm (h2 b q))⟩
theorem Blk.mv {b : Nat} {e : TypeId} {xs : List Value} (h : Blk w b e xs) (k : Mv Wb ts mp w w') (he : e ∉ ts) : Blk w' b e xs := h.keep (k.blk b e xs h he)
theorem Blk.nomap {b : Nat} {e : TypeId} {xs : List Value} (h : Blk w b e xs) {es c} (k : w.heap[b]? = some (.map es c)) : False := by
  have := h.h.symm.trans k
  cases this
end
/-- A row of elements e, each of nc cells, at the beginning of a block that is no older than lo. -/
abbrev Rw (lo : Nat) (e : TypeId) (nc : Nat) (w : World) (v : Value) (n : Nat) (xs : List Value) : Prop := w.ownsRow lo e nc v n xs
section
variable {lo : Nat} {e : TypeId} {nc : Nat} {w w' : World} {v : Value} {n : Nat} {xs : List Value}
theorem Rw.nil (lo : Nat) (e : TypeId) (nc : Nat) (w : World) : Rw lo e nc w (.slice none 0 0) 0 [] := ⟨by simp, .inl ⟨rfl, rfl⟩⟩
theorem Rw.form (h : Rw lo e nc w v n xs) : ∃ a c, v = .slice a n c := by
  rcases h.2 with ⟨rfl, rfl⟩ | ⟨g, cap, cur, rfl, _⟩ <;> exact ⟨_, _, rfl⟩
theorem Rw.blk (h : Rw lo e nc w v n xs) (h0 : 0 < n) : ∃ g cap rest, v = .slice (some ⟨g, 0, none⟩) n cap ∧ lo ≤ g ∧ Blk w g e (xs ++ rest) ∧ xs.length = n * nc := by
  have hl := h.1
  rcases h.2 with ⟨rfl, h0⟩ | ⟨g, cap, cur, rfl, hlo, hg, hc, hm, hs, ht⟩
  · omega
  · have e : cur.toList = xs ++ cur.toList.drop (n * nc) := by
      rw [← ht]; exact (List.take_append_drop _ _).symm
    exact ⟨g, cap, cur.toList.drop (n * nc), rfl, hlo, ⟨by rw [← e]; exact hg⟩, hl⟩
theorem Rw.own (h : Rw lo e nc w v n xs) {b : Nat} (hb : v.ownBlock = some b) : lo ≤ b ∧ b < w.heap.size ∧ ∃ ys, Blk w b e ys := by
  rcases h.2 with ⟨rfl, h0⟩ | ⟨g, cap, cur, rfl, hlo, hg, hc, hm, hs, ht⟩
  · simp [Value.ownBlock] at hb
  · simp [Value.ownBlock] at hb
    subst hb
    have hk : Blk w g e cur.toList := ⟨hg⟩
    exact ⟨hlo, hk.lt, _, hk⟩
theorem Rw.keep (h : Rw lo e nc w v n xs) (hb : ∀ b, v.ownBlock = some b → w'.heap[b]? = w.heap[b]?) : Rw lo e nc w' v n xs := by
  refine ⟨h.1, ?_⟩
  rcases h.2 with h0 | ⟨g, cap, cur, rfl, hlo, hg, h2⟩
  · exact .inl h0
  · exact .inr ⟨g, cap, cur, rfl, hlo, (hb g rfl).trans hg, h2⟩
theorem Rw.G (h : Rw lo e nc w v n xs) (g : Go.Proofs.YtemkilffagjmcaaDoor.G w w') : Rw lo e nc w' v n xs := h.keep fun b hb => g.block b (h.own hb).2.1
theorem Rw.chg {F : Nat → Prop} (h : Rw lo e nc w v n xs) (g : Chg F w w') (hF : ∀ b, v.ownBlock = some b → ¬ F b) : Rw lo e nc w' v n xs := h.keep fun b hb => g.block b (h.own hb).2.1 (hF b hb)
theorem Rw.mv {Wb : World} {ts : List TypeId} {mp : Nat → Prop} (h : Rw lo e nc w v n xs) (k : Mv Wb ts mp w w') (he : e ∉ ts) : Rw lo e nc w' v n xs := h.keep fun b hb => by
  obtain ⟨_, _, ys, hy⟩ := h.own hb
  exact k.blk b e ys hy he
theorem Rw.cell (h : Rw lo e nc w v n xs) (h0 : 0 < n) : ∃ g cap, v = .slice (some ⟨g, 0, none⟩) n cap ∧ lo ≤ g ∧ (∀ o, o < n * nc → w.cell? ⟨g, o, none⟩ = xs[o]?) ∧ g < w.heap.size := by
  obtain ⟨g, cap, rest, rfl, hlo, hb, hl⟩ := h.blk h0
  exact ⟨g, cap, rfl, hlo, fun o ho => by rw [hb.cell, List.getElem?_append_left (by omega)], hb.lt⟩
end
/-- A find. -/
structure Fd where
  n : Int
  s : Int
  e : Int
  b : Int
deriving DecidableEq, Inhabited
def flF (l : List Fd) : List Value := l.flatMap fun x => [I x.n, I x.s, I x.e, I x.b]
theorem flF_len (l : List Fd) : (flF l).length = l.length * 4 := by
  induction l with
  | nil => rfl
  | cons a l ih => simp [flF] at ih ⊢; omega
theorem flF_snoc (l : List Fd) (x : Fd) : flF (l ++ [x]) = flF l ++ [I x.n, I x.s, I x.e, I x.b] := by simp [flF]
theorem flF_get : ∀ (l : List Fd) (i : Nat) (x : Fd), l[i]? = some x → (flF l)[i * 4]? = some (I x.n) ∧ (flF l)[i * 4 + 1]? = some (I x.s) ∧ (flF l)[i * 4 + 2]? = some (I x.e) ∧ (flF l)[i * 4 + 3]? = some (I x.b)
  | [], i, x, h => by simp at h
  | a :: l, 0, x, h => by simp at h; subst h; simp [flF]
  | a :: l, i + 1, x, h => by
    have := flF_get l i x (by simpa using h)
    have e : flF (a :: l) = I a.n :: I a.s :: I a.e :: I a.b :: flF l := by simp [flF]
    rw [e, show (i + 1) * 4 = i * 4 + 1 + 1 + 1 + 1 by omega]
    simpa using this
/-- The finds, in memory. -/
abbrev Fin (lo : Nat) (w : World) (v : Value) (fs : List Fd) : Prop := Rw lo 72 4 w v fs.length (flF fs)
theorem fin_at {lo : Nat} {w : World} {v : Value} {fs : List Fd} (h : Fin lo w v fs) {i : Nat} {x : Fd} (hi : fs[i]? = some x) : ∃ g cap, v = .slice (some ⟨g, 0, none⟩) fs.length cap ∧ g < w.heap.size ∧ w.cell? ⟨g, i * 4, none⟩ = some (I x.n) ∧ w.cell? ⟨g, i * 4 + 1, none⟩ = some (I x.s) ∧ w.cell? ⟨g, i * 4 + 2, none⟩ = some (I x.e) ∧ w.cell? ⟨g, i * 4 + 3, none⟩ = some (I x.b) := by
  have hl := (List.getElem?_eq_some_iff.1 hi).1
  obtain ⟨g, cap, e, _, hc, hg⟩ := h.cell (by omega)
  obtain ⟨h1, h2, h3, h4⟩ := flF_get fs i x hi
  exact ⟨g, cap, e, hg, by rw [hc _ (by omega)]; exact h1, by rw [hc _ (by omega)]; exact h2, by rw [hc _ (by omega)]; exact h3, by rw [hc _ (by omega)]; exact h4⟩
/-- Which of two finds is settled first. -/
def ltF (fs : List Fd) (a b : Int) : Bool := decide ((fs[a.toNat]!).s < (fs[b.toNat]!).s) || (decide ((fs[a.toNat]!).s = (fs[b.toNat]!).s) && decide ((fs[a.toNat]!).n < (fs[b.toNat]!).n))
theorem ltF_iff {fs : List Fd} {a b : Int} : ltF fs a b = true ↔ (fs[a.toNat]!).s < (fs[b.toNat]!).s ∨ ((fs[a.toNat]!).s = (fs[b.toNat]!).s ∧ (fs[a.toNat]!).n < (fs[b.toNat]!).n) := by simp [ltF]
theorem ltF_no {fs : List Fd} {a b : Int} : ltF fs a b = false ↔ (fs[b.toNat]!).s < (fs[a.toNat]!).s ∨ ((fs[a.toNat]!).s = (fs[b.toNat]!).s ∧ (fs[b.toNat]!).n ≤ (fs[a.toNat]!).n) := by
  rw [← Bool.not_eq_true, ltF_iff]
  omega
theorem wo_F (fs : List Fd) : Hp.WO (ltF fs) := ⟨fun a b h => by rw [ltF_iff] at h; rw [ltF_no]; omega, fun a b c h k => by rw [ltF_iff] at *; omega, fun a b c h k => by rw [ltF_no] at *; omega⟩
theorem ltF_snoc {fs : List Fd} {x : Fd} {a b : Int} (ha : 0 ≤ a ∧ a < fs.length) (hb : 0 ≤ b ∧ b < fs.length) : ltF (fs ++ [x]) a b = ltF fs a b := by
  have e : ∀ i : Int, 0 ≤ i ∧ i < fs.length → (fs ++ [x])[i.toNat]! = fs[i.toNat]! := fun i hi => by
    rw [Hp.get_of (by simp; omega), Hp.get_of (by omega), List.getElem_append_left]
  simp only [ltF, e a ha, e b hb]
theorem hi_snoc {fs : List Fd} {x : Fd} {l : List It} (hd : ∀ y ∈ l, 0 ≤ y.1 ∧ y.1 < fs.length) (h : Hp.HI (Hp.ah (ltF fs)) l) : Hp.HI (Hp.ah (ltF (fs ++ [x]))) l := fun j j0 jl => by
  have hm : ∀ i, i < l.length → 0 ≤ (l[i]!).1 ∧ (l[i]!).1 < fs.length := fun i hi => hd _ (by rw [Hp.get_of hi]; exact List.getElem_mem hi)
  have e : ∀ a b, a < l.length → b < l.length → Hp.ah (ltF (fs ++ [x])) l[a]! l[b]! = Hp.ah (ltF fs) l[a]! l[b]! := fun a b ha hb => by
    unfold Hp.ah
    rw [ltF_snoc (hm b hb) (hm a ha), ltF_snoc (hm a ha) (hm b hb)]
  rw [e j _ jl (by omega)]
  exact h j j0 jl
end Go.Proofs.YtemkilffagjmcaaDoor
