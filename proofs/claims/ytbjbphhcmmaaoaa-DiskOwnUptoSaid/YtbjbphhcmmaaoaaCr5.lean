/- DiskCrash: what is known between its rounds. -/
import Derived.Test.YtbjbphhcmmaaoaaCr4
namespace Go.Proofs.Ytbjbphhcmmaaoaa
open Go.RowKit

/-- A row of slices of bytes at block g, apart from the blocks of F; nothing of it is older than z. -/
structure Row (W : World) (g n z : Nat) (F : Nat → Prop) (Y : Nat → List Nat) (X : Nat → Value) : Prop where
  c : ∀ i, i < n → W.cell? ⟨g, i, none⟩ = some (X i)
  y : ∀ i, i < n → Bytes W (X i) (Y i)
  b : ∀ i, i < n → ∀ j, Value.blk (X i) j → ¬ F j ∧ j ≠ g ∧ z ≤ j ∧ j < W.heap.size
  f : ∀ o, W.frozen? ⟨g, o, none⟩ = false
  nf : ¬ F g
  zg : z ≤ g
  gl : g < W.heap.size
theorem frozen_chg {F : Nat → Prop} {w w' : World} {g : Nat} (k : Chg F w w') (hg : g < w.heap.size) (hF : ¬ F g) (o : Nat) : w'.frozen? ⟨g, o, none⟩ = w.frozen? ⟨g, o, none⟩ := by
  have := k.block g hg hF
  simp [World.frozen?, this]
theorem Row.chg {F' : Nat → Prop} {W W' : World} {g n z : Nat} {F : Nat → Prop} {Y : Nat → List Nat} {X : Nat → Value} (h : Row W g n z F Y X) (k : Chg F' W W') (hg : ¬ F' g) (hF : ∀ i, i < n → ∀ j, Value.blk (X i) j → ¬ F' j) : Row W' g n z F Y X :=
  ⟨fun i hi => cell_chg (h.c i hi) k hg, fun i hi => (h.y i hi).chg k (hF i hi), fun i hi j hj => ⟨(h.b i hi j hj).1, (h.b i hi j hj).2.1, (h.b i hi j hj).2.2.1, Nat.lt_of_lt_of_le (h.b i hi j hj).2.2.2 k.size⟩, fun o => (frozen_chg k h.gl hg o).trans (h.f o), h.nf, h.zg, Nat.lt_of_lt_of_le h.gl k.size⟩
theorem Row.G {W W' : World} {g n z : Nat} {F : Nat → Prop} {Y : Nat → List Nat} {X : Nat → Value} (h : Row W g n z F Y X) (k : Go.Proofs.Ytbjbphhcmmaaoaa.G W W') : Row W' g n z F Y X := h.chg (F' := fun _ => False) k.chg (fun h => h) (fun _ _ _ _ h => h)
theorem Row.turn {W : World} {g n z : Nat} {F F' : Nat → Prop} {Y : Nat → List Nat} {X : Nat → Value} (h : Row W g n z F Y X) (hF : ∀ k, k < W.heap.size → F' k → F k) : Row W g n z F' Y X :=
  ⟨h.c, h.y, fun i hi j hj => ⟨fun e => (h.b i hi j hj).1 (hF j (h.b i hi j hj).2.2.2 e), (h.b i hi j hj).2⟩, h.f, fun e => h.nf (hF g h.gl e), h.zg, h.gl⟩
def upd {α : Type} (f : Nat → α) (k : Nat) (x : α) (i : Nat) : α := if i = k then x else f i
theorem Bytes.lt {W : World} {x : Value} {y : List Nat} (h : Bytes W x y) {j : Nat} (hj : Value.blk x j) : j < W.heap.size := by
  obtain ⟨ba, cap, rfl, _, hl⟩ := h
  obtain ⟨a, n, c, e, h0, rfl⟩ := hj
  simp only [Value.slice.injEq] at e
  obtain ⟨rfl, e2, _⟩ := e
  have hne : y ≠ [] := fun e => by rw [e] at e2; simp at e2; omega
  obtain ⟨b, o, hb, hc⟩ := hl.resolve_left hne
  cases hb
  obtain ⟨v, hv⟩ : ∃ v, y[0]? = some v := ⟨_, List.getElem?_eq_getElem (by omega)⟩
  have := World.block_lt_of_cell? _ _ (hc 0 v hv)
  simpa [Addr.add] using this
theorem cell_set {W : World} {g k i : Nat} {x y : Value} (h : W.cell? ⟨g, i, none⟩ = some y) : (W.setCell ⟨g, k, none⟩ x).cell? ⟨g, i, none⟩ = some (if i = k then x else y) := by
  unfold World.cell? at h ⊢
  cases ho : W.heap[g]? with
  | none => simp [ho] at h
  | some ob =>
    cases ob with
    | cells vs t fr =>
      simp only [ho] at h
      have h' : vs[i]? = some y := by simpa using h
      have hi : i < vs.size := (Array.getElem?_eq_some_iff.1 h').1
      by_cases e : i = k
      · subst e
        simp [World.setCell, Array.getElem?_modify, ho, hi]
      · have e' : ¬ k = i := fun x => e x.symm
        simp [World.setCell, Array.getElem?_modify, ho, h', e, e']
    | _ => simp [ho] at h
theorem Row.put {W : World} {g n z : Nat} {F : Nat → Prop} {Y : Nat → List Nat} {X : Nat → Value} (h : Row W g n z F Y X) {k : Nat} (_ : k < n) {x : Value} {y : List Nat} (hb : Bytes W x y) (hx : ∀ j, Value.blk x j → ¬ F j ∧ j ≠ g ∧ z ≤ j) : Row (W.setCell ⟨g, k, none⟩ x) g n z F (upd Y k y) (upd X k x) := by
  have hc : Chg (fun j => j = g) W (W.setCell ⟨g, k, none⟩ x) := chg_setCell W x (.inl rfl)
  have hs : (W.setCell ⟨g, k, none⟩ x).heap.size = W.heap.size := by simp
  refine ⟨fun i hi => ?_, fun i hi => ?_, fun i hi j hj => ?_, fun o => ?_, h.nf, h.zg, by rw [hs]; exact h.gl⟩
  · unfold upd
    exact cell_set (h.c i hi)
  · unfold upd
    by_cases e : i = k
    · rw [if_pos e, if_pos e]
      exact hb.chg hc (fun j hj => (hx j hj).2.1)
    · rw [if_neg e, if_neg e]
      exact (h.y i hi).chg hc (fun j hj => (h.b i hi j hj).2.1)
  · unfold upd at hj
    rw [hs]
    by_cases e : i = k
    · rw [if_pos e] at hj
      exact ⟨(hx j hj).1, (hx j hj).2.1, (hx j hj).2.2, hb.lt hj⟩
    · rw [if_neg e] at hj
      exact h.b i hi j hj
  · have := h.f o
    simpa using this
/-- One of the rounds, as it came in. -/
structure Rd where
  v1 : Value
  v2 : Value
  kv : Value
  dk : Bool
  L1 : Nat
  L2 : Nat
  E1 : Nat → Pu
  E2 : Nat → Pu
  ks : List Bool
structure RdOk (w : World) (r : Rd) : Prop where
  a : PuS w r.v1 r.L1 r.E1
  b : PuS w r.v2 r.L2 r.E2
  k : Keeps w r.kv r.ks
  kn : r.kv = .slice none 0 0 ∨ ∃ ad n c, r.kv = .slice (some ad) n c
  la : ∀ j, Value.blk r.v1 j → j < w.heap.size
  lb : ∀ j, Value.blk r.v2 j → j < w.heap.size
  lk : ∀ j, Value.blk r.kv j → j < w.heap.size
  l1 : r.L1 ≤ 1048576
  l2 : r.L2 ≤ 1048576
  l3 : r.ks.length ≤ 1073741824
def Rd.P (r : Rd) (m : DM) : DM := rndM m (vals m.n r.E1 r.L1) (vals m.n r.E2 r.L2) r.ks
/-- Between the rounds. -/
structure CS (w W : World) (p n B g : Nat) (F : Nat → Prop) (m : DM) (X : Nat → Value) : Prop where
  gw : G w W
  s : SlP W F (.pointer (some ⟨p, 0, none⟩)) (some m)
  hn : m.n = n
  ho : m.on
  he : m.pend = []
  fw : m.few B
  fb : ∀ k, F k → w.heap.size ≤ k ∧ k < W.heap.size
  r : Row W g n w.heap.size F (sector m.laid) X
theorem Om.cs {w W W' : World} {p n B B' g : Nat} {F : Nat → Prop} {m : DM} {X : Nat → Value} (h : CS w W p n B g F m X) (k : Om W ⟨p, 0, none⟩ F m B' W') : ∃ F', CS w W' p n B' g F' m X := by
  obtain ⟨F', h1, h2, h3, h4⟩ := k
  have z1 := h.gw.size
  have z2 := h3.size
  refine ⟨F', h.gw.trans2' h3 (fun k hk => (h.fb k hk).1), h1, h.hn, h.ho, h.he, h2, fun k hk => ?_, ?_⟩
  · rcases h4 k hk with x | x
    · exact ⟨(h.fb k x).1, by have := (h.fb k x).2; omega⟩
    · omega
  · have hr := h.r.turn (F' := F') (fun k hk e => (h4 k e).resolve_right (fun x => by omega))
    exact hr.chg h3 h.r.nf (fun i hi j hj => (h.r.b i hi j hj).1)
/-- Under way, in the row: up to k the sectors are those of behind the round. -/
structure AS (w W : World) (p n B g bx k : Nat) (F : Nat → Prop) (m : DM) (l0 : List Nat) (L4 : List Value) : Prop where
  gw : G w W
  s : SlP W F (.pointer (some ⟨p, 0, none⟩)) (some m)
  hn : m.n = n
  ho : m.on
  he : m.pend = []
  fw : m.few B
  fb : ∀ k, F k → w.heap.size ≤ k ∧ k < W.heap.size
  bb : Blk W bx 31 L4
  bg : bx ≠ g
  r : ∃ X, Row W g n w.heap.size F (fun i => if i < k then sector m.laid i else sector l0 i) X
theorem AS.G {w W W' : World} {p n B g bx k : Nat} {F : Nat → Prop} {m : DM} {l0 : List Nat} {L4 : List Value} (h : AS w W p n B g bx k F m l0 L4) (g' : Go.Proofs.Ytbjbphhcmmaaoaa.G W W') : AS w W' p n B g bx k F m l0 L4 := by
  obtain ⟨X, hr⟩ := h.r
  exact ⟨h.gw.trans g', h.s.G g', h.hn, h.ho, h.he, h.fw, fun k hk => ⟨(h.fb k hk).1, Nat.lt_of_lt_of_le (h.fb k hk).2 g'.size⟩, h.bb.G g', h.bg, X, hr.G g'⟩
/-- The two stores into the row at k. -/
theorem AS.put {w W W1 W2 : World} {p n B g bx k : Nat} {F : Nat → Prop} {m : DM} {l0 : List Nat} {L4 : List Value} (h : AS w W p n B g bx k F m l0 L4) (hk : k < n) {x1 x2 : Value} {y1 : List Nat} (g1 : Go.Proofs.Ytbjbphhcmmaaoaa.G W W1) (b1 : Bytes W1 x1 y1) (f1 : ∀ j, Value.blk x1 j → ¬ F j ∧ j ≠ g ∧ w.heap.size ≤ j)
    (g2 : Go.Proofs.Ytbjbphhcmmaaoaa.G (W1.setCell ⟨g, k, none⟩ x1) W2) (b2 : Bytes W2 x2 (sector m.laid k)) (f2 : ∀ j, Value.blk x2 j → ¬ F j ∧ j ≠ g ∧ w.heap.size ≤ j) : AS w (W2.setCell ⟨g, k, none⟩ x2) p n B g bx (k + 1) F m l0 L4 := by
  obtain ⟨X, hr⟩ := h.r
  have r1 := (((hr.G g1).put hk b1 f1).G g2).put hk b2 f2
  have c1 : Chg (fun j => j = g) W1 (W1.setCell ⟨g, k, none⟩ x1) := chg_setCell W1 x1 (.inl rfl)
  have c2 : Chg (fun j => j = g) W2 (W2.setCell ⟨g, k, none⟩ x2) := chg_setCell W2 x2 (.inl rfl)
  have hng : ∀ j, F j → ¬ j = g := fun j hj e => hr.nf (e ▸ hj)
  have z1 := g1.size
  have z2 := c1.size
  have z3 := g2.size
  have z4 := c2.size
  refine ⟨((h.gw.trans g1).trans2' c1 (fun j e => by rw [e]; exact hr.zg)).trans g2 |>.trans2' c2 (fun j e => by rw [e]; exact hr.zg), (((h.s.G g1).chg c1 hng).G g2).chg c2 hng, h.hn, h.ho, h.he, h.fw, fun j hj => ⟨(h.fb j hj).1, by have := (h.fb j hj).2; omega⟩, (((h.bb.G g1).chg c1 h.bg).G g2).chg c2 h.bg, h.bg, upd (upd X k x1) k x2, ?_⟩
  have he : upd (upd (fun i => if i < k then sector m.laid i else sector l0 i) k y1) k (sector m.laid k) = (fun i => if i < k + 1 then sector m.laid i else sector l0 i) := by
    funext i
    unfold upd
    by_cases e : i = k
    · subst e; rw [if_pos rfl, if_pos (by omega)]
    · rw [if_neg e, if_neg e]
      show (if i < k then sector m.laid i else sector l0 i) = _
      by_cases e2 : i < k
      · rw [if_pos e2, if_pos (by omega)]
      · rw [if_neg e2, if_neg (by omega)]
  rw [he] at r1
  exact r1
/-- 'append(laid, x)'. -/
theorem info_bs : ∃ i, Try.prog.info? 28 = some i ∧ i.zero = some (.slice none 0 0) ∧ i.size = 1 ∧ i.bytes = 24 := info_parts (by kernel_rfl)
/-- The row while it grows. -/
def Gr (W : World) (z k : Nat) (v : Value) : Prop := ∃ xs : List Value, W.ownsRow z 28 1 v k xs ∧ (∀ x ∈ xs, Bytes W x (List.replicate 128 0) ∧ ∀ j, Value.blk x j → z ≤ j ∧ v.ownBlock ≠ some j)
theorem app_row (ty : TypeId) {W W1 : World} {z k : Nat} {v : Value} (hk : k ≤ 4096) (hz : z ≤ W.heap.size) (h : Gr W z k v) (g1 : G W W1) (hb : Bytes W1 (.slice (some ⟨W.heap.size, 0, none⟩) 128 128) (List.replicate 128 0)) :
    ∃ v' w', (Builtin.append_ #[27, 27] ty #[v, .slice (some ⟨W1.heap.size, 0, none⟩) 1 1]).run Try.prog (W1.alloc (.cells #[.slice (some ⟨W.heap.size, 0, none⟩) 128 128] 28)) = .ok v' w' ∧ Chg (fun j => v.ownBlock = some j) W w' ∧ Gr w' z (k + 1) v' ∧ (∀ j, v'.ownBlock = some j → v.ownBlock = some j ∨ W1.heap.size ≤ j) := by
  obtain ⟨i, hi, hz0, hz1, hz2⟩ := info_bs
  obtain ⟨xs, ho, hx⟩ := h
  have hla : W.heap.size < W1.heap.size := hb.lt ⟨_, _, _, rfl, by decide, rfl⟩
  have hz1' := g1.size
  obtain ⟨v', w', hr, q2, q3, _, q5⟩ := run_append_own_at (P := Try.prog) (W1.alloc (.cells #[.slice (some ⟨W.heap.size, 0, none⟩) 128 128] 28)) z 27 ty 28 i _ 1 24 Try.underlying27 hi hz0 hz1 hz2 rfl (by decide) v k xs (own_G (own_G ho g1) ((G.refl _).alloc _)) ⟨W1.heap.size, 0, none⟩ 1 1 [.slice (some ⟨W.heap.size, 0, none⟩) 128 128] rfl (cell_one_new _ _ _) (fun u hu => by simp at hu; subst hu; rfl) (by unfold maxLen; omega) (by omega) (by simp; omega)
  have hg2 : G W (W1.alloc (.cells #[.slice (some ⟨W.heap.size, 0, none⟩) 128 128] 28)) := g1.alloc _
  have hch : Chg (fun j => v.ownBlock = some j) (W1.alloc (.cells #[.slice (some ⟨W.heap.size, 0, none⟩) 128 128] 28)) w' := ⟨q3.os, q3.tape, q3.output, q3.size, fun k hk hn => q3.block k hk (fun e => hn e.symm)⟩
  have hown : ∀ j, v'.ownBlock = some j → v.ownBlock = some j ∨ W1.heap.size + 1 ≤ j := fun j hj => by
    rcases q5 with q5 | q5
    · exact .inl (q5 ▸ hj)
    · right
      rw [q5] at hj
      simp at hj
      omega
  refine ⟨v', w', hr, hg2.chg.trans hch, ⟨xs ++ [.slice (some ⟨W.heap.size, 0, none⟩) 128 128], q2, fun x hxm => ?_⟩, fun j hj => (hown j hj).imp id (fun h => by omega)⟩
  rcases List.mem_append.1 hxm with hm | hm
  · obtain ⟨h1, h2⟩ := hx x hm
    refine ⟨(h1.G hg2).chg hch (fun j hj => (h2 j hj).2), fun j hj => ⟨(h2 j hj).1, fun e => ?_⟩⟩
    rcases hown j e with y | y
    · exact (h2 j hj).2 y
    · have := h1.lt hj; omega
  · simp at hm
    subst hm
    have hvb : ∀ j, Value.blk (.slice (some ⟨W.heap.size, 0, none⟩) 128 128) j → j = W.heap.size := fun j hj => by
      obtain ⟨a, n, c, e, _, rfl⟩ := hj
      cases e
      rfl
    have hne : v.ownBlock ≠ some W.heap.size := fun e => by have := own_lt ho e; omega
    refine ⟨(hb.G ((G.refl _).alloc _)).chg hch (fun j hj => by rw [hvb j hj]; exact hne), fun j hj => ?_⟩
    rw [hvb j hj]
    refine ⟨hz, fun e => ?_⟩
    rcases hown _ e with y | y
    · exact hne y
    · omega
end Go.Proofs.Ytbjbphhcmmaaoaa
