/- Wire: rows. -/
import Derived.Test.YtifioikdhfhljaaGreatDoorPaL
namespace Go.Proofs.YtifioikdhfhljaaGreatDoor
open Go.RowKit

abbrev bv (n : Nat) : Value := .int .u8 n
abbrev ptr (b : Nat) : Value := .pointer (some ⟨b, 0, none⟩)
theorem G.drewN {a w : World} (h : G a w) (n : Nat) : G a (w.drewN n) := h.trans ⟨rfl, rfl, rfl, Nat.le_refl _, fun _ _ => rfl⟩
theorem cell_lt {w : World} {b o : Nat} {v : Value} (h : w.cell? ⟨b, o, none⟩ = some v) : b < w.heap.size := by
  unfold World.cell? at h
  by_cases hb : b < w.heap.size
  · exact hb
  · have : w.heap[b]? = none := Array.getElem?_eq_none (by omega)
    simp [this] at h
/-- What is laid in a row: how one is written in cells. -/
structure Enc (α : Type) where
  e : α → List Value
  s : Nat
  hs : ∀ a, (e a).length = s
  one : ∀ a, ∀ u ∈ e a, u.oneCell' = true
namespace Enc
variable {α : Type} (E : Enc α)
def fl (l : List α) : List Value := l.flatMap E.e
theorem fl_cons (a : α) (l : List α) : E.fl (a :: l) = E.e a ++ E.fl l := by simp [fl]
theorem len (l : List α) : (E.fl l).length = l.length * E.s := by
  induction l with
  | nil => simp [fl]
  | cons a l ih => rw [fl_cons, List.length_append, ih, E.hs, List.length_cons, Nat.succ_mul, Nat.add_comm]
theorem app (a b : List α) : E.fl (a ++ b) = E.fl a ++ E.fl b := by unfold fl; exact List.flatMap_append
theorem snoc (a : List α) (x : α) : E.fl (a ++ [x]) = E.fl a ++ E.e x := by rw [app]; simp [fl]
theorem ones (l : List α) : ∀ u ∈ E.fl l, u.oneCell' = true := fun u hu => by
  obtain ⟨a, _, h⟩ := List.mem_flatMap.1 hu
  exact E.one a u h
theorem get : ∀ (l : List α) (i : Nat) (x : α), l[i]? = some x → ∀ j, j < E.s → (E.fl l)[i * E.s + j]? = (E.e x)[j]?
  | [], i, x, h, _, _ => by simp at h
  | a :: l, 0, x, h, j, hj => by
    simp at h; subst h
    rw [fl_cons, List.getElem?_append_left (by rw [E.hs]; omega)]
    simp
  | a :: l, i + 1, x, h, j, hj => by
    have := get l i x (by simpa using h) j hj
    rw [fl_cons, List.getElem?_append_right (by rw [E.hs, Nat.succ_mul]; omega), E.hs, show (i + 1) * E.s + j - E.s = i * E.s + j by rw [Nat.succ_mul]; omega]
    exact this
end Enc
/-- A slice of our own that holds these, at the beginning of its block. -/
def Sw {α : Type} (E : Enc α) (ty : TypeId) (w : World) (v : Value) (l : List α) : Prop :=
  (v = .slice none 0 0 ∧ l = []) ∨ ∃ g cap rest, v = .slice (some ⟨g, 0, none⟩) l.length cap ∧ Blk w g ty (E.fl l ++ rest) ∧ l.length * E.s + rest.length = cap * E.s ∧ l.length ≤ cap ∧ cap ≤ maxLen
section
variable {α : Type} {E : Enc α} {ty : TypeId} {w w' : World} {v : Value} {l : List α}
theorem Sw.nil (E : Enc α) (ty : TypeId) (w : World) : Sw E ty w (.slice none 0 0) [] := .inl ⟨rfl, rfl⟩
theorem Sw.keep (h : Sw E ty w v l) (hb : ∀ b, v.ownBlock = some b → w'.heap[b]? = w.heap[b]?) : Sw E ty w' v l := by
  rcases h with h | ⟨g, cap, rest, rfl, h2, h3⟩
  · exact .inl h
  · exact .inr ⟨g, cap, rest, rfl, h2.keep (hb g rfl), h3⟩
theorem Sw.lt (h : Sw E ty w v l) {b : Nat} (hb : v.ownBlock = some b) : b < w.heap.size := by
  rcases h with ⟨rfl, _⟩ | ⟨g, cap, rest, rfl, h2, _⟩
  · simp [Value.ownBlock] at hb
  · simp [Value.ownBlock] at hb; subst hb; exact h2.lt
theorem Sw.G (h : Sw E ty w v l) (g : Go.Proofs.YtifioikdhfhljaaGreatDoor.G w w') : Sw E ty w' v l := h.keep fun b hb => g.block b (h.lt hb)
theorem Sw.chg {F : Nat → Prop} (h : Sw E ty w v l) (g : Chg F w w') (hF : ∀ b, v.ownBlock = some b → ¬ F b) : Sw E ty w' v l := h.keep fun b hb => g.block b (h.lt hb) (hF b hb)
theorem Sw.off {b o : Nat} {u : Value} (h : Sw E ty w v l) (hb : v.ownBlock ≠ some b) : Sw E ty (w.setCell ⟨b, o, none⟩ u) v l := h.keep fun _ hk => Below.heap_setCell _ _ _ _ (fun e => hb (hk.trans (congrArg some e)))
theorem Sw.ne (h : Sw E ty w v l) {g : Nat} {t2 : TypeId} {xs : List Value} (hb : Blk w g t2 xs) (hne : ty ≠ t2) : v.ownBlock ≠ some g := fun e => by
  rcases h with ⟨rfl, _⟩ | ⟨g', cap, rest, rfl, h2, _⟩
  · simp [Value.ownBlock] at e
  · simp [Value.ownBlock] at e; subst e; exact h2.ne hb hne rfl
theorem Sw.form (h : Sw E ty w v l) : ∃ a c, v = .slice a l.length c := by
  rcases h with ⟨rfl, rfl⟩ | ⟨g, cap, rest, rfl, _⟩ <;> exact ⟨_, _, rfl⟩
theorem Sw.slice (h : Sw E ty w v l) (hl : 0 < l.length) : ∃ g cap, v = .slice (some ⟨g, 0, none⟩) l.length cap := by
  rcases h with ⟨_, rfl⟩ | ⟨g, cap, rest, rfl, _⟩
  · simp at hl
  · exact ⟨g, cap, rfl⟩
theorem Sw.at {g n cap : Nat} (h : Sw E ty w (.slice (some ⟨g, 0, none⟩) n cap) l) {i : Nat} {x : α} (hi : l[i]? = some x) (j : Nat) (hj : j < E.s) : w.cell? ⟨g, i * E.s + j, none⟩ = (E.e x)[j]? := by
  rcases h with ⟨e, _⟩ | ⟨g', cap', rest, e, hb, _⟩
  · cases e
  · simp only [Value.slice.injEq, Option.some.injEq, Addr.mk.injEq] at e
    obtain ⟨⟨rfl, -, -⟩, rfl, rfl⟩ := e
    have hl := (List.getElem?_eq_some_iff.1 hi).1
    rw [hb.cell, List.getElem?_append_left, E.get l i x hi j hj]
    rw [E.len]
    have : (i + 1) * E.s ≤ l.length * E.s := Nat.mul_le_mul_right _ hl
    rw [Nat.succ_mul] at this
    omega
theorem Sw.open {g n cap : Nat} (h : Sw E ty w (.slice (some ⟨g, 0, none⟩) n cap) l) : n = l.length ∧ ∃ rest, Blk w g ty (E.fl l ++ rest) ∧ l.length * E.s + rest.length = cap * E.s ∧ l.length ≤ cap ∧ cap ≤ maxLen := by
  rcases h with ⟨q, _⟩ | ⟨g', cap', rest, q, q2, q3⟩
  · cases q
  · simp only [Value.slice.injEq, Option.some.injEq, Addr.mk.injEq] at q
    obtain ⟨⟨rfl, -, -⟩, rfl, rfl⟩ := q
    exact ⟨rfl, rest, q2, q3⟩
theorem Sw.row (h : Sw E ty w v l) : w.ownsRow 0 ty E.s v l.length (E.fl l) := by
  refine ⟨E.len l, ?_⟩
  rcases h with ⟨rfl, rfl⟩ | ⟨g, cap, rest, rfl, hb, hl, hc, hm⟩
  · exact .inl ⟨rfl, rfl⟩
  · refine .inr ⟨g, cap, (E.fl l ++ rest).toArray, rfl, Nat.zero_le _, hb.h, hc, hm, ?_, ?_⟩
    · simp [E.len]; omega
    · simp [← E.len]
theorem Sw.of_row {b n : Nat} (h : w.ownsRow b ty E.s v n (E.fl l)) (hn : n = l.length) : Sw E ty w v l := by
  subst hn
  rcases h.2 with ⟨rfl, h0⟩ | ⟨g, cap, cur, rfl, _, hg, hc, hm, hs, ht⟩
  · exact .inl ⟨rfl, List.eq_nil_of_length_eq_zero h0⟩
  · have e : cur.toList = E.fl l ++ cur.toList.drop (l.length * E.s) := by
      rw [← ht]; exact (List.take_append_drop _ _).symm
    refine .inr ⟨g, cap, cur.toList.drop (l.length * E.s), rfl, ⟨?_⟩, ?_, hc, hm⟩
    · rw [← e]; exact hg
    · have : l.length * E.s ≤ cap * E.s := Nat.mul_le_mul_right _ hc
      simp; omega
end

theorem wpList_append_run {P : Program} {w : World} {ops : Array Oper} {rest : List Oper} {o : Oper} {a : Act} {Q : Exit → Act → World → Prop} (hgd : o.guard = none) (s x : Operand) (t : TypeId)
    (ho : o.op = .call { callee := .builtin .append, args := #[s, x], argTypes := #[t, t] }) (v z : Value) (hs : a.eval s = v) (hx : a.eval x = z) {v' : Value} {w' : World} (hr : (Builtin.append_ #[t, t] o.type #[v, z]).run P w = .ok v' w')
    (h : wpList P ops Q rest (a.put o.dst v') w') : wpList P ops Q (o :: rest) a w := by
  refine wpList_plain hgd fun K hK => ?_
  unfold Oper.wp execOp
  simp only [ho, resolve, invoke, builtin, Sem.run_bind, Sem.run_pure, Result.andThen_ok, List.map_toArray, List.map_cons, List.map_nil, hs, hx, hr]
  exact hK _ _ h

/-- How one lies in cells, in a world. -/
structure Rel (α : Type) where
  s : Nat
  r : World → List Value → α → Prop
  len : ∀ {w cs x}, r w cs x → cs.length = s
  keep : ∀ {w w' cs x}, Go.Proofs.YtifioikdhfhljaaGreatDoor.G w w' → r w cs x → r w' cs x
/-- One that is its cells. -/
abbrev Enc.rel {α : Type} (E : Enc α) : Rel α := ⟨E.s, fun _ cs x => cs = E.e x, fun h => by rw [h]; exact E.hs _, fun _ h => h⟩
/-- A slice that holds these, wherever it begins. -/
def Row {α : Type} (R : Rel α) (w : World) (v : Value) (l : List α) : Prop :=
  ∃ p cap, v = .slice p l.length cap ∧ l.length ≤ cap ∧ (p = none → cap = 0) ∧ ∀ i x, l[i]? = some x → ∃ g o cs, p = some ⟨g, o, none⟩ ∧ R.r w cs x ∧ w.rangeAt g (o + i * R.s) cs
section
variable {α : Type} {R : Rel α} {E : Enc α} {w w' : World} {v : Value} {l : List α}
theorem rangeAt_G {g o : Nat} {cs : List Value} (h : w.rangeAt g o cs) (k : Go.Proofs.YtifioikdhfhljaaGreatDoor.G w w') : w'.rangeAt g o cs := fun j u hj => by
  have h1 := h j u hj
  rw [k.cell (cell_lt h1)]; exact h1
theorem Row.G (h : Row R w v l) (k : Go.Proofs.YtifioikdhfhljaaGreatDoor.G w w') : Row R w' v l := by
  obtain ⟨p, cap, rfl, hc, hn, hr⟩ := h
  refine ⟨p, cap, rfl, hc, hn, fun i x hx => ?_⟩
  obtain ⟨g, o, cs, h1, h2, h3⟩ := hr i x hx
  exact ⟨g, o, cs, h1, R.keep k h2, rangeAt_G h3 k⟩
theorem Row.nil (R : Rel α) (w : World) : Row R w (.slice none 0 0) [] := ⟨none, 0, rfl, Nat.le_refl _, fun _ => rfl, fun i x hx => by simp at hx⟩
theorem Row.form (h : Row R w v l) : ∃ p cap, v = .slice p l.length cap := by
  obtain ⟨p, cap, rfl, _⟩ := h; exact ⟨p, cap, rfl⟩
theorem Row.addr (h : Row R w v l) (hl : 0 < l.length) : ∃ g o cap, v = .slice (some ⟨g, o, none⟩) l.length cap := by
  obtain ⟨p, cap, rfl, _, _, hr⟩ := h
  obtain ⟨g, o, _, rfl, _⟩ := hr 0 _ (List.getElem?_eq_getElem hl)
  exact ⟨g, o, cap, rfl⟩
theorem Row.at {g o n cap : Nat} (h : Row R w (.slice (some ⟨g, o, none⟩) n cap) l) {i : Nat} {x : α} (hx : l[i]? = some x) : ∃ cs, R.r w cs x ∧ w.rangeAt g (o + i * R.s) cs := by
  obtain ⟨p, cap', e, _, _, hr⟩ := h
  obtain ⟨g', o', cs, h1, h2, h3⟩ := hr i x hx
  subst h1
  cases e
  exact ⟨cs, h2, h3⟩
theorem Row.one {g o n cap : Nat} (h : Row E.rel w (.slice (some ⟨g, o, none⟩) n cap) l) {i : Nat} {x : α} (hx : l[i]? = some x) (j : Nat) {u : Value} (hj : (E.e x)[j]? = some u) : w.cell? ⟨g, o + i * E.s + j, none⟩ = some u := by
  obtain ⟨cs, rfl, h3⟩ := h.at hx
  exact h3 j u hj
theorem Sw.toRow {ty : TypeId} (h : Sw E ty w v l) : Row E.rel w v l := by
  rcases h with ⟨rfl, rfl⟩ | ⟨g, cap, rest, rfl, hb, hr, hc, hm⟩
  · exact Row.nil _ _
  · have h : Sw E ty w (.slice (some ⟨g, 0, none⟩) l.length cap) l := .inr ⟨g, cap, rest, rfl, hb, hr, hc, hm⟩
    refine ⟨_, cap, rfl, hc, (fun q => by cases q), fun i x hx => ⟨g, 0, E.e x, rfl, rfl, fun j u hj => ?_⟩⟩
    have hjs : j < E.s := by rw [← E.hs x]; exact (List.getElem?_eq_some_iff.1 hj).1
    have e2 : (0 : Nat) + i * E.rel.s + j = i * E.s + j := by rw [Nat.zero_add]
    rw [e2, h.at hx j hjs, hj]
/-- All cells of a row, one after the other. -/
theorem Row.cells {g o n cap : Nat} (hs : 0 < E.s) (h : Row E.rel w (.slice (some ⟨g, o, none⟩) n cap) l) : ∀ j u, (E.fl l)[j]? = some u → w.cell? ((⟨g, o, none⟩ : Addr).add j) = some u := fun j u hj => by
  have hjl := (List.getElem?_eq_some_iff.1 hj).1
  rw [E.len] at hjl
  have hq : j / E.s < l.length := (Nat.div_lt_iff_lt_mul hs).2 hjl
  have hm := Nat.mod_lt j hs
  have e := E.get l (j / E.s) _ (List.getElem?_eq_getElem hq) (j % E.s) hm
  have e0 : j / E.s * E.s + j % E.s = j := by rw [Nat.mul_comm]; exact Nat.div_add_mod j E.s
  rw [e0, hj] at e
  have := h.one (List.getElem?_eq_getElem hq) (j % E.s) e.symm
  rw [Addr.add_mid]
  rw [Nat.add_assoc, e0] at this
  exact this
/-- An append of a row to a row of our own. -/
theorem app_row {P : Program} {ty ts tr : TypeId} {x : Value} {ns : List α} (i : TypeInfo) (z : Value) (bytes : Nat) (hts : P.underlying ts = some (.slice ty)) (hi : P.info? ty = some i) (hz : i.zero = some z) (hsize : i.size = E.s) (hby : i.bytes = bytes) (hzs : z.cells.size = E.s) (hsz : 0 < E.s)
    (h : Sw E ty w v l) (hx : Row E.rel w x ns) (h63 : l.length + ns.length ≤ maxLen) (hbytes : (l.length + ns.length) * bytes ≤ 140737488355328) :
    ∃ v' w', (Builtin.append_ #[ts, ts] tr #[v, x]).run P w = .ok v' w' ∧ Sw E ty w' v' (l ++ ns) ∧ Chg (fun k => v.ownBlock = some k) w w' ∧ (v'.ownBlock = v.ownBlock ∨ v'.ownBlock = some w.heap.size) := by
  obtain ⟨p, cap, rfl, hc, hn, hr⟩ := hx
  cases p with
  | none =>
    have h0 : ns = [] := by
      cases ns with
      | nil => rfl
      | cons y r => obtain ⟨g, o, cs, q, _⟩ := hr 0 y rfl; cases q
    subst h0
    have := hn rfl
    subst this
    exact ⟨v, w, run_append_owned_none (P := P) w 0 ts tr ty i E.s hts hi v l.length (E.fl l) h.row, by simpa using h, Chg.refl _ _, .inl rfl⟩
  | some a =>
    have hcells : ∀ j u, (E.fl ns)[j]? = some u → w.cell? (a.add j) = some u := fun j u hj => by
      have hjl := (List.getElem?_eq_some_iff.1 hj).1
      rw [E.len] at hjl
      cases ns with
      | nil => simp at hjl
      | cons y r =>
        obtain ⟨g, o, cs, q, _⟩ := hr 0 y rfl
        cases q
        exact Row.cells (cap := cap) hsz ⟨_, cap, rfl, hc, hn, hr⟩ j u hj
    obtain ⟨v', w', hrr, q2, q3, _, q5⟩ := run_append_own_at (P := P) w 0 ts tr ty i z E.s bytes hts hi hz hsize hby hzs hsz v l.length (E.fl l) h.row a ns.length cap (E.fl ns) (E.len ns) hcells (E.ones ns) h63 hbytes (Nat.zero_le _)
    rw [← E.app] at q2
    exact ⟨v', w', hrr, Sw.of_row (b := 0) q2 (by simp), ⟨q3.os, q3.tape, q3.output, q3.size, fun k hk hne => q3.block k hk (fun e => hne e.symm)⟩, q5⟩
end
/-- What is of one's own since W. -/
def Fresh (W : World) (v : Value) : Prop := ∀ k, v.ownBlock = some k → W.heap.size ≤ k
theorem Fresh.app {W w w' : World} {v v' : Value} (h : Fresh W v) (hg : G W w) (hch : Chg (fun k => v.ownBlock = some k) w w') (hob : v'.ownBlock = v.ownBlock ∨ v'.ownBlock = some w.heap.size) : Fresh W v' ∧ G W w' := by
  refine ⟨fun k e => ?_, ⟨hch.os.trans hg.os, hch.tape.trans hg.tape, hch.output.trans hg.output, Nat.le_trans hg.size hch.size, fun k hk => (hch.block k (Nat.lt_of_lt_of_le hk hg.size) (fun e => Nat.not_le.2 hk (h k e))).trans (hg.block k hk)⟩⟩
  rcases hob with q | q
  · rw [q] at e; exact h k e
  · rw [q] at e; have := Option.some.inj e; have := hg.size; omega
theorem Fresh.nil (W : World) : Fresh W (.slice none 0 0) := fun k e => by simp [Value.ownBlock] at e
theorem Fresh.old {W W' : World} {v : Value} (h : Fresh W' v) (g : G W W') : Fresh W v := fun k e => Nat.le_trans g.size (h k e)
abbrev eB : Enc Nat := ⟨fun x => [bv x], 1, fun _ => rfl, fun _ u hu => by simp at hu; subst hu; rfl⟩
/-- A slice of bytes, of our own; wherever it begins. -/
abbrev SwB := Sw eB 5
abbrev Rb := Row eB.rel
/-- Bytes. -/
abbrev By (l : List Nat) : Prop := ∀ x ∈ l, x < 256
theorem info_B : ∃ i, Tryz.prog.info? 5 = some i ∧ i.zero = some (bv 0) ∧ i.size = 1 ∧ i.bytes = 1 := info_parts (by kernel_rfl)
theorem app_B {w : World} {v x : Value} {l ns : List Nat} (tr : TypeId) (h : SwB w v l) (hx : Rb w x ns) (hb : l.length + ns.length ≤ 140737488355328) :
    ∃ v' w', (Builtin.append_ #[255, 255] tr #[v, x]).run Tryz.prog w = .ok v' w' ∧ SwB w' v' (l ++ ns) ∧ Chg (fun k => v.ownBlock = some k) w w' ∧ (v'.ownBlock = v.ownBlock ∨ v'.ownBlock = some w.heap.size) := by
  obtain ⟨i, hi, h0, h1, h2⟩ := info_B
  have hm : (140737488355328 : Nat) ≤ maxLen := of_decide_eq_true (by kernel_rfl)
  exact app_row (P := Tryz.prog) i _ 1 Tryz.underlying255 hi h0 h1 h2 rfl (by decide) h hx (by omega) (by omega)
/-- The same for whoever goes on from W. -/
theorem grow_B {W w : World} {v x : Value} {l ns : List Nat} (tr : TypeId) (h : SwB w v l) (hx : Rb w x ns) (hg : G W w) (hf : Fresh W v) (hb : l.length + ns.length ≤ 140737488355328) :
    ∃ v' w', (Builtin.append_ #[255, 255] tr #[v, x]).run Tryz.prog w = .ok v' w' ∧ SwB w' v' (l ++ ns) ∧ G W w' ∧ Fresh W v' := by
  obtain ⟨v', w', h1, h2, h3, h4⟩ := app_B tr h hx hb
  obtain ⟨h5, h6⟩ := hf.app hg h3 h4
  exact ⟨v', w', h1, h2, h6, h5⟩
/-- A list that was written out. -/
theorem Row.lit {α : Type} {E : Enc α} (w : World) (ty : TypeId) (l : List α) (cap : Nat) (hc : l.length ≤ cap) : Row E.rel (w.alloc (.cells (E.fl l).toArray ty)) (.slice (some ⟨w.heap.size, 0, none⟩) l.length cap) l := by
  refine ⟨_, cap, rfl, hc, (fun q => by cases q), fun i x hx => ⟨w.heap.size, 0, E.e x, rfl, rfl, fun j u hj => ?_⟩⟩
  have hjs : j < E.s := by rw [← E.hs x]; exact (List.getElem?_eq_some_iff.1 hj).1
  have e2 : (0 : Nat) + i * E.rel.s + j = i * E.s + j := by rw [Nat.zero_add]
  rw [e2, (Blk.new w (E.fl l) ty).cell, E.get l i x hx j hjs, hj]
/-- An empty one with room. -/
theorem Sw.made {α : Type} {E : Enc α} {ty : TypeId} (w : World) (cs : List Value) (cap : Nat) (hcs : cs.length = cap * E.s) (hm : cap ≤ maxLen) : Sw E ty (w.alloc (.cells cs.toArray ty)) (.slice (some ⟨w.heap.size, 0, none⟩) 0 cap) [] :=
  .inr ⟨w.heap.size, cap, cs, rfl, by simpa [Enc.fl] using Blk.new w cs ty, by simp [hcs], Nat.zero_le _, hm⟩
end Go.Proofs.YtifioikdhfhljaaGreatDoor
