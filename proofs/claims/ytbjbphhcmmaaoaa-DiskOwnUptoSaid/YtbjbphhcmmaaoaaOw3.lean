/- The book's rows grow. -/
import Derived.Test.YtbjbphhcmmaaoaaOw2
namespace Go.Proofs.Ytbjbphhcmmaaoaa
open Go.RowKit

theorem RowN.push {W : World} {z : Nat} {e : TypeId} {v : Value} {n : Nat} {X : Nat → Value} {x : Value} (h : W.ownsRow z e 1 v (n + 1) ((List.range n).map X ++ [x])) : RowN W z e v (n + 1) (upd X n x) := by
  have he : (List.range (n + 1)).map (upd X n x) = (List.range n).map X ++ [x] := by
    rw [List.range_succ, List.map_append]
    congr 1
    · refine List.map_congr_left fun i hi => ?_
      have := List.mem_range.1 hi
      unfold upd
      rw [if_neg (by omega)]
    · simp [upd]
  unfold RowN
  rw [he]
  exact h
/-- The book's head and its four rows; their blocks are of R. -/
structure BH (W : World) (R : Nat → Prop) (z bb nl nm ml mm : Nat) (lv mv uv vv : Value) (X Y U V : Nat → Value) : Prop where
  blk : Blk W bb 61 [lv, mv, uv, vv]
  l : RowN W z 28 lv nl X
  m : RowN W z 28 mv nm Y
  u : RowN W z 88 uv ml U
  v : RowN W z 88 vv mm V
  r : ∀ g, lv.ownBlock = some g ∨ mv.ownBlock = some g ∨ uv.ownBlock = some g ∨ vv.ownBlock = some g → R g
  d1 : ∀ g, lv.ownBlock = some g → mv.ownBlock ≠ some g
  d2 : ∀ g, uv.ownBlock = some g → vv.ownBlock ≠ some g
  b : R bb
/-- One of the book's own blocks. -/
def rB (bb : Nat) (lv mv uv vv : Value) (g : Nat) : Prop := g = bb ∨ lv.ownBlock = some g ∨ mv.ownBlock = some g ∨ uv.ownBlock = some g ∨ vv.ownBlock = some g
theorem BH.chg {F : Nat → Prop} {W W' : World} {R : Nat → Prop} {z bb nl nm ml mm : Nat} {lv mv uv vv : Value} {X Y U V : Nat → Value} (h : BH W R z bb nl nm ml mm lv mv uv vv X Y U V) (k : Chg F W W') (hF : ∀ j, rB bb lv mv uv vv j → ¬ F j) : BH W' R z bb nl nm ml mm lv mv uv vv X Y U V :=
  ⟨h.blk.chg k (hF _ (.inl rfl)), h.l.chg k (fun _ hg => hF _ (.inr (.inl hg))), h.m.chg k (fun _ hg => hF _ (.inr (.inr (.inl hg)))), h.u.chg k (fun _ hg => hF _ (.inr (.inr (.inr (.inl hg))))), h.v.chg k (fun _ hg => hF _ (.inr (.inr (.inr (.inr hg))))), h.r, h.d1, h.d2, h.b⟩
theorem BH.G {W W' : World} {R : Nat → Prop} {z bb nl nm ml mm : Nat} {lv mv uv vv : Value} {X Y U V : Nat → Value} (h : BH W R z bb nl nm ml mm lv mv uv vv X Y U V) (g : Go.Proofs.Ytbjbphhcmmaaoaa.G W W') : BH W' R z bb nl nm ml mm lv mv uv vv X Y U V := h.chg (F := fun _ => False) g.chg (fun _ _ h => h)
theorem BH.R {W : World} {R : Nat → Prop} {z bb nl nm ml mm : Nat} {lv mv uv vv : Value} {X Y U V : Nat → Value} (h : BH W R z bb nl nm ml mm lv mv uv vv X Y U V) {j : Nat} (hj : rB bb lv mv uv vv j) : R j := hj.elim (fun e => e ▸ h.b) (h.r j)
/-- Its blocks hold no bytes and no writes. -/
theorem BH.ty {W : World} {R : Nat → Prop} {z bb nl nm ml mm : Nat} {lv mv uv vv : Value} {X Y U V : Nat → Value} (h : BH W R z bb nl nm ml mm lv mv uv vv X Y U V) {j : Nat} {e : TypeId} (ht : TyB W j e) (h1 : e ≠ 61) (h2 : e ≠ 28) (h3 : e ≠ 88) : ¬ rB bb lv mv uv vv j := fun hj => by
  obtain ⟨cur, fr, hh⟩ := ht
  have hrow : ∀ {v : Value} {n : Nat} {e' : TypeId} {f : Nat → Value}, RowN W z e' v n f → v.ownBlock = some j → e' = e := fun hr hv => by
    rcases hr.2 with ⟨rfl, _⟩ | ⟨g, c, u, rfl, _, hg, _⟩
    · cases hv
    · simp [Value.ownBlock] at hv
      subst hv
      rw [hh] at hg
      simp at hg
      exact hg.2.1.symm
  rcases hj with rfl | hj | hj | hj | hj
  · have := h.blk.h
    rw [hh] at this
    simp at this
    exact h1 this.2.1
  · exact h2 (hrow h.l hj).symm
  · exact h2 (hrow h.m hj).symm
  · exact h3 (hrow h.u hj).symm
  · exact h3 (hrow h.v hj).symm
theorem BH.mono {W : World} {R R' : Nat → Prop} {z bb nl nm ml mm : Nat} {lv mv uv vv : Value} {X Y U V : Nat → Value} (h : BH W R z bb nl nm ml mm lv mv uv vv X Y U V) (hR : ∀ j, R j → R' j) : BH W R' z bb nl nm ml mm lv mv uv vv X Y U V :=
  ⟨h.blk, h.l, h.m, h.u, h.v, fun g hg => hR _ (h.r g hg), h.d1, h.d2, hR _ h.b⟩
/-- What an append to one of the rows left. -/
structure Ap (W W' : World) (v v' : Value) : Prop where
  h : (v'.ownBlock = v.ownBlock ∧ v'.ownBlock ≠ none ∧ Chg (fun k => v.ownBlock = some k) W W') ∨ (v'.ownBlock = some W.heap.size ∧ Go.Proofs.Ytbjbphhcmmaaoaa.G W W')
theorem Ap.chg {W W' : World} {v v' : Value} (h : Ap W W' v v') : Chg (fun k => v.ownBlock = some k) W W' := by
  rcases h.h with h | h
  · exact h.2.2
  · exact h.2.chg
theorem Ap.own {W W' : World} {v v' : Value} (h : Ap W W' v v') {g : Nat} (hg : v'.ownBlock = some g) : v.ownBlock = some g ∨ g = W.heap.size := by
  rcases h.h with h | h
  · exact .inl (h.1 ▸ hg)
  · rw [h.1] at hg
    exact .inr (Option.some.inj hg).symm
theorem own_lt2 {W : World} {z : Nat} {e : TypeId} {v : Value} {n : Nat} {X : Nat → Value} (h : RowN W z e v n X) {g : Nat} (hg : v.ownBlock = some g) : g < W.heap.size := own_lt h hg
theorem row_bb {W : World} {z bb n : Nat} {e : TypeId} {v : Value} {X : Nat → Value} {xs : List Value} (h : RowN W z e v n X) (hb : Blk W bb 61 xs) (he : e ≠ 61) : v.ownBlock ≠ some bb := own_ne h hb he
theorem row_row {W : World} {z n n' : Nat} {e e' : TypeId} {v v' : Value} {X X' : Nat → Value} (h : RowN W z e v n X) (h' : RowN W z e' v' n' X') (he : e ≠ e') {g : Nat} (hg : v.ownBlock = some g) : v'.ownBlock ≠ some g := fun hg' => he (own_kind h h' hg hg')
theorem BH.pushL {W W' : World} {R : Nat → Prop} {z bb nl nm ml mm : Nat} {lv mv uv vv : Value} {X Y U V : Nat → Value} (h : BH W R z bb nl nm ml mm lv mv uv vv X Y U V) {v' x : Value} (hrow : W'.ownsRow z 28 1 v' (nl + 1) ((List.range nl).map X ++ [x])) (hap : Ap W W' lv v') (hR : ∀ j, W.heap.size ≤ j → R j) :
    BH (W'.setCell ⟨bb, 0, none⟩ v') R z bb (nl + 1) nm ml mm v' mv uv vv (upd X nl x) Y U V ∧ Chg (fun j => rB bb lv mv uv vv j) W (W'.setCell ⟨bb, 0, none⟩ v') := by
  have cs : Chg (fun j => j = bb) W' (W'.setCell ⟨bb, 0, none⟩ v') := chg_setCell W' v' (.inl rfl)
  have hnb := row_bb h.l h.blk (by decide)
  have hbl := h.blk.lt
  have hob : ∀ g, v'.ownBlock = some g → g ≠ bb := fun g hg e => (hap.own hg).elim (fun e2 => hnb (e ▸ e2)) (fun e2 => by omega)
  refine ⟨⟨?_, (RowN.push hrow).chg cs (fun g hg e => (hob g hg) e), ((h.m.chg hap.chg (fun g hg hk => (fun hg => h.d1 _ hk hg) hg)).chg cs (fun g hg e => row_bb h.m h.blk (by decide) (e ▸ hg))), ((h.u.chg hap.chg (fun g hg hk => (fun hg => row_row h.l h.u (by decide) hk hg) hg)).chg cs (fun g hg e => row_bb h.u h.blk (by decide) (e ▸ hg))), ((h.v.chg hap.chg (fun g hg hk => (fun hg => row_row h.l h.v (by decide) hk hg) hg)).chg cs (fun g hg e => row_bb h.v h.blk (by decide) (e ▸ hg))), fun g hg => ?_, fun g hg hg' => (hap.own hg).elim (fun e => h.d1 g e hg') (fun e => by have := own_lt2 h.m hg'; omega), h.d2, h.b⟩, ?_⟩
  · exact (h.blk.chg hap.chg (fun e => hnb e)).set 0 v'
  · rcases hg with hg | hg | hg | hg
    · exact (hap.own hg).elim (fun e => h.r g (.inl e)) (fun e => hR g (by omega))
    · exact h.r g (.inr (.inl hg))
    · exact h.r g (.inr (.inr (.inl hg)))
    · exact h.r g (.inr (.inr (.inr hg)))
  · exact (hap.chg.mono (fun k hk => .inr (.inl hk))).trans (cs.mono (fun k hk => .inl hk))
theorem BH.pushM {W W' : World} {R : Nat → Prop} {z bb nl nm ml mm : Nat} {lv mv uv vv : Value} {X Y U V : Nat → Value} (h : BH W R z bb nl nm ml mm lv mv uv vv X Y U V) {v' x : Value} (hrow : W'.ownsRow z 28 1 v' (nm + 1) ((List.range nm).map Y ++ [x])) (hap : Ap W W' mv v') (hR : ∀ j, W.heap.size ≤ j → R j) :
    BH (W'.setCell ⟨bb, 1, none⟩ v') R z bb nl (nm + 1) ml mm lv v' uv vv X (upd Y nm x) U V ∧ Chg (fun j => rB bb lv mv uv vv j) W (W'.setCell ⟨bb, 1, none⟩ v') := by
  have cs : Chg (fun j => j = bb) W' (W'.setCell ⟨bb, 1, none⟩ v') := chg_setCell W' v' (.inl rfl)
  have hnb := row_bb h.m h.blk (by decide)
  have hbl := h.blk.lt
  have hob : ∀ g, v'.ownBlock = some g → g ≠ bb := fun g hg e => (hap.own hg).elim (fun e2 => hnb (e ▸ e2)) (fun e2 => by omega)
  refine ⟨⟨?_, ((h.l.chg hap.chg (fun g hg hk => (fun hg => h.d1 _ hg hk) hg)).chg cs (fun g hg e => row_bb h.l h.blk (by decide) (e ▸ hg))), (RowN.push hrow).chg cs (fun g hg e => (hob g hg) e), ((h.u.chg hap.chg (fun g hg hk => (fun hg => row_row h.m h.u (by decide) hk hg) hg)).chg cs (fun g hg e => row_bb h.u h.blk (by decide) (e ▸ hg))), ((h.v.chg hap.chg (fun g hg hk => (fun hg => row_row h.m h.v (by decide) hk hg) hg)).chg cs (fun g hg e => row_bb h.v h.blk (by decide) (e ▸ hg))), fun g hg => ?_, fun g hg hg' => (hap.own hg').elim (fun e => h.d1 g hg e) (fun e => by have := own_lt2 h.l hg; omega), h.d2, h.b⟩, ?_⟩
  · exact (h.blk.chg hap.chg (fun e => hnb e)).set 1 v'
  · rcases hg with hg | hg | hg | hg
    · exact h.r g (.inl hg)
    · exact (hap.own hg).elim (fun e => h.r g (.inr (.inl e))) (fun e => hR g (by omega))
    · exact h.r g (.inr (.inr (.inl hg)))
    · exact h.r g (.inr (.inr (.inr hg)))
  · exact (hap.chg.mono (fun k hk => .inr (.inr (.inl hk)))).trans (cs.mono (fun k hk => .inl hk))
theorem BH.pushU {W W' : World} {R : Nat → Prop} {z bb nl nm ml mm : Nat} {lv mv uv vv : Value} {X Y U V : Nat → Value} (h : BH W R z bb nl nm ml mm lv mv uv vv X Y U V) {v' x : Value} (hrow : W'.ownsRow z 88 1 v' (ml + 1) ((List.range ml).map U ++ [x])) (hap : Ap W W' uv v') (hR : ∀ j, W.heap.size ≤ j → R j) :
    BH (W'.setCell ⟨bb, 2, none⟩ v') R z bb nl nm (ml + 1) mm lv mv v' vv X Y (upd U ml x) V ∧ Chg (fun j => rB bb lv mv uv vv j) W (W'.setCell ⟨bb, 2, none⟩ v') := by
  have cs : Chg (fun j => j = bb) W' (W'.setCell ⟨bb, 2, none⟩ v') := chg_setCell W' v' (.inl rfl)
  have hnb := row_bb h.u h.blk (by decide)
  have hbl := h.blk.lt
  have hob : ∀ g, v'.ownBlock = some g → g ≠ bb := fun g hg e => (hap.own hg).elim (fun e2 => hnb (e ▸ e2)) (fun e2 => by omega)
  refine ⟨⟨?_, ((h.l.chg hap.chg (fun g hg hk => (fun hg => row_row h.u h.l (by decide) hk hg) hg)).chg cs (fun g hg e => row_bb h.l h.blk (by decide) (e ▸ hg))), ((h.m.chg hap.chg (fun g hg hk => (fun hg => row_row h.u h.m (by decide) hk hg) hg)).chg cs (fun g hg e => row_bb h.m h.blk (by decide) (e ▸ hg))), (RowN.push hrow).chg cs (fun g hg e => (hob g hg) e), ((h.v.chg hap.chg (fun g hg hk => (fun hg => h.d2 _ hk hg) hg)).chg cs (fun g hg e => row_bb h.v h.blk (by decide) (e ▸ hg))), fun g hg => ?_, h.d1, fun g hg hg' => (hap.own hg).elim (fun e => h.d2 g e hg') (fun e => by have := own_lt2 h.v hg'; omega), h.b⟩, ?_⟩
  · exact (h.blk.chg hap.chg (fun e => hnb e)).set 2 v'
  · rcases hg with hg | hg | hg | hg
    · exact h.r g (.inl hg)
    · exact h.r g (.inr (.inl hg))
    · exact (hap.own hg).elim (fun e => h.r g (.inr (.inr (.inl e)))) (fun e => hR g (by omega))
    · exact h.r g (.inr (.inr (.inr hg)))
  · exact (hap.chg.mono (fun k hk => .inr (.inr (.inr (.inl hk))))).trans (cs.mono (fun k hk => .inl hk))
theorem BH.pushV {W W' : World} {R : Nat → Prop} {z bb nl nm ml mm : Nat} {lv mv uv vv : Value} {X Y U V : Nat → Value} (h : BH W R z bb nl nm ml mm lv mv uv vv X Y U V) {v' x : Value} (hrow : W'.ownsRow z 88 1 v' (mm + 1) ((List.range mm).map V ++ [x])) (hap : Ap W W' vv v') (hR : ∀ j, W.heap.size ≤ j → R j) :
    BH (W'.setCell ⟨bb, 3, none⟩ v') R z bb nl nm ml (mm + 1) lv mv uv v' X Y U (upd V mm x) ∧ Chg (fun j => rB bb lv mv uv vv j) W (W'.setCell ⟨bb, 3, none⟩ v') := by
  have cs : Chg (fun j => j = bb) W' (W'.setCell ⟨bb, 3, none⟩ v') := chg_setCell W' v' (.inl rfl)
  have hnb := row_bb h.v h.blk (by decide)
  have hbl := h.blk.lt
  have hob : ∀ g, v'.ownBlock = some g → g ≠ bb := fun g hg e => (hap.own hg).elim (fun e2 => hnb (e ▸ e2)) (fun e2 => by omega)
  refine ⟨⟨?_, ((h.l.chg hap.chg (fun g hg hk => (fun hg => row_row h.v h.l (by decide) hk hg) hg)).chg cs (fun g hg e => row_bb h.l h.blk (by decide) (e ▸ hg))), ((h.m.chg hap.chg (fun g hg hk => (fun hg => row_row h.v h.m (by decide) hk hg) hg)).chg cs (fun g hg e => row_bb h.m h.blk (by decide) (e ▸ hg))), ((h.u.chg hap.chg (fun g hg hk => (fun hg => h.d2 _ hg hk) hg)).chg cs (fun g hg e => row_bb h.u h.blk (by decide) (e ▸ hg))), (RowN.push hrow).chg cs (fun g hg e => (hob g hg) e), fun g hg => ?_, h.d1, fun g hg hg' => (hap.own hg').elim (fun e => h.d2 g hg e) (fun e => by have := own_lt2 h.u hg; omega), h.b⟩, ?_⟩
  · exact (h.blk.chg hap.chg (fun e => hnb e)).set 3 v'
  · rcases hg with hg | hg | hg | hg
    · exact h.r g (.inl hg)
    · exact h.r g (.inr (.inl hg))
    · exact h.r g (.inr (.inr (.inl hg)))
    · exact (hap.own hg).elim (fun e => h.r g (.inr (.inr (.inr e)))) (fun e => hR g (by omega))
  · exact (hap.chg.mono (fun k hk => .inr (.inr (.inr (.inr hk))))).trans (cs.mono (fun k hk => .inl hk))
theorem BH.growU {W W' : World} {R : Nat → Prop} {z bb nl nm ml mm : Nat} {lv mv uv vv : Value} {X Y U V : Nat → Value} (h : BH W R z bb nl nm ml mm lv mv uv vv X Y U V) {v' : Value} {N : Nat} {U' : Nat → Value} (hrow : RowN W' z 88 v' N U') (hap : Ap W W' uv v') (hR : ∀ j, W.heap.size ≤ j → R j) :
    BH (W'.setCell ⟨bb, 2, none⟩ v') R z bb nl nm N mm lv mv v' vv X Y U' V ∧ Chg (fun j => rB bb lv mv uv vv j) W (W'.setCell ⟨bb, 2, none⟩ v') := by
  have cs : Chg (fun j => j = bb) W' (W'.setCell ⟨bb, 2, none⟩ v') := chg_setCell W' v' (.inl rfl)
  have hnb := row_bb h.u h.blk (by decide)
  have hbl := h.blk.lt
  have hob : ∀ g, v'.ownBlock = some g → g ≠ bb := fun g hg e => (hap.own hg).elim (fun e2 => hnb (e ▸ e2)) (fun e2 => by omega)
  refine ⟨⟨?_, ((h.l.chg hap.chg (fun g hg hk => (fun hg => row_row h.u h.l (by decide) hk hg) hg)).chg cs (fun g hg e => row_bb h.l h.blk (by decide) (e ▸ hg))), ((h.m.chg hap.chg (fun g hg hk => (fun hg => row_row h.u h.m (by decide) hk hg) hg)).chg cs (fun g hg e => row_bb h.m h.blk (by decide) (e ▸ hg))), hrow.chg cs (fun g hg e => (hob g hg) e), ((h.v.chg hap.chg (fun g hg hk => (fun hg => h.d2 _ hk hg) hg)).chg cs (fun g hg e => row_bb h.v h.blk (by decide) (e ▸ hg))), fun g hg => ?_, h.d1, fun g hg hg' => (hap.own hg).elim (fun e => h.d2 g e hg') (fun e => by have := own_lt2 h.v hg'; omega), h.b⟩, ?_⟩
  · exact (h.blk.chg hap.chg (fun e => hnb e)).set 2 v'
  · rcases hg with hg | hg | hg | hg
    · exact h.r g (.inl hg)
    · exact h.r g (.inr (.inl hg))
    · exact (hap.own hg).elim (fun e => h.r g (.inr (.inr (.inl e)))) (fun e => hR g (by omega))
    · exact h.r g (.inr (.inr (.inr hg)))
  · exact (hap.chg.mono (fun k hk => .inr (.inr (.inr (.inl hk))))).trans (cs.mono (fun k hk => .inl hk))
end Go.Proofs.Ytbjbphhcmmaaoaa
