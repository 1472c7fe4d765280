/- Paths: the document's search. -/
import Derived.Test.YtcbjcienjolceaaDoorPk2
import Derived.Test.YtcbjcienjolceaaDoorPj10
namespace Go.Proofs.YtcbjcienjolceaaDoor
open Go.RowKit

/-- What is done with the node that is settled next. -/
def srchB (hops : Bool) (rs : List Nr) (tail : Bool) (aim : Option Int) (most : Int) (f : Nat) (st : List Sn) (x : Sn) (near : List Sn) (asked : List Int) : Rs :=
  if aim = some x.1 then ⟨st ++ [x], asked, 0, true⟩
  else if most < 0 ∨ x.2 < most then
    if (netOf rs tail x.1).2 ≠ 0 then ⟨st ++ [x], asked ++ [x.1], (netOf rs tail x.1).2, false⟩
    else if (relaxR hops x.2 (st ++ [x]) (netOf rs tail x.1).1 near).1 ≠ 0 then ⟨st ++ [x], asked ++ [x.1], (relaxR hops x.2 (st ++ [x]) (netOf rs tail x.1).1 near).1, false⟩
    else srch hops rs tail aim most f (st ++ [x]) (relaxR hops x.2 (st ++ [x]) (netOf rs tail x.1).1 near).2 (asked ++ [x.1])
  else srch hops rs tail aim most f (st ++ [x]) near asked
theorem srch_B {hops : Bool} {rs : List Nr} {tail : Bool} {aim : Option Int} {most : Int} {f : Nat} {st near : List Sn} {asked : List Int} (h : near ≠ []) (h4 : st.length ≠ 4096) :
    srch hops rs tail aim most (f + 1) st near asked = srchB hops rs tail aim most f st near[nextI near]! (near.eraseIdx (nextI near)) asked := by
  conv => lhs; unfold srch
  rw [if_neg h, if_neg h4]
  rfl
/-- The document's search, in memory. -/
structure RS (W wr : World) (b3 b5 b6 b7 b9 : Nat) (rv : Value) (tail aimB : Bool) (to_ most : Int) (hops : Bool) (sv av nv : Value) (st near : List Sn) (asked : List Int) (x : Sn) : Prop where
  g : G W wr
  k3 : Blk wr b3 25 [rv, .bool tail]
  k5 : Blk wr b5 89 [.bool aimB, I to_, I most, .bool hops]
  k6 : Blk wr b6 86 [.slice none 0 0, .slice none 0 0, I 0, .bool false]
  k7 : Blk wr b7 86 [sv, av, I 0, .bool false]
  k9 : Blk wr b9 91 [I x.1, I x.2]
  s : Sr W.heap.size wr sv st
  a : Rw W.heap.size 2 1 wr av asked.length (asked.map I)
  n : Sr W.heap.size wr nv near
  d1 : ∀ b, sv.ownBlock = some b → nv.ownBlock ≠ some b ∧ b ≠ b9
  d2 : ∀ b, nv.ownBlock = some b → b ≠ b9
  lo : W.heap.size ≤ b3 ∧ W.heap.size ≤ b5 ∧ W.heap.size ≤ b6 ∧ W.heap.size ≤ b7 ∧ W.heap.size ≤ b9
  ne : b6 ≠ b7
section
variable {W wr w' : World} {b3 b5 b6 b7 b9 : Nat} {rv : Value} {tail aimB : Bool} {to_ most : Int} {hops : Bool} {sv av nv : Value} {st near : List Sn} {asked : List Int} {x : Sn}
theorem RS.grow (k : RS W wr b3 b5 b6 b7 b9 rv tail aimB to_ most hops sv av nv st near asked x) (g : Go.Proofs.YtcbjcienjolceaaDoor.G wr w') : RS W w' b3 b5 b6 b7 b9 rv tail aimB to_ most hops sv av nv st near asked x :=
  ⟨k.g.trans g, k.k3.G g, k.k5.G g, k.k6.G g, k.k7.G g, k.k9.G g, k.s.G g, k.a.G g, k.n.G g, k.d1, k.d2, k.lo, k.ne⟩
theorem Rw.offb {lo : Nat} {e e' : TypeId} {nc : Nat} {w : World} {v : Value} {n b : Nat} {xs ys : List Value} (h : Rw lo e nc w v n xs) (hb : Blk w b e' ys) (he : e ≠ e') : v.ownBlock ≠ some b := fun q => by
  obtain ⟨_, _, zs, hz⟩ := h.own q
  exact he (hz.type hb).1
/-- What is told at the end. -/
theorem RS.tell (k : RS W wr b3 b5 b6 b7 b9 rv tail aimB to_ most hops sv av nv st near asked x) (code : Int) (hit : Bool) (w1 : World) (c : Chg (fun b => b = b7) wr w1) : 
    G W ((((w1.setCell ⟨b6, 0, none⟩ sv).setCell ⟨b6, 1, none⟩ av).setCell ⟨b6, 2, none⟩ (I code)).setCell ⟨b6, 3, none⟩ (.bool hit)) ∧
    Blk ((((w1.setCell ⟨b6, 0, none⟩ sv).setCell ⟨b6, 1, none⟩ av).setCell ⟨b6, 2, none⟩ (I code)).setCell ⟨b6, 3, none⟩ (.bool hit)) b6 86 [sv, av, I code, .bool hit] ∧
    Sr W.heap.size ((((w1.setCell ⟨b6, 0, none⟩ sv).setCell ⟨b6, 1, none⟩ av).setCell ⟨b6, 2, none⟩ (I code)).setCell ⟨b6, 3, none⟩ (.bool hit)) sv st ∧
    Rw W.heap.size 2 1 ((((w1.setCell ⟨b6, 0, none⟩ sv).setCell ⟨b6, 1, none⟩ av).setCell ⟨b6, 2, none⟩ (I code)).setCell ⟨b6, 3, none⟩ (.bool hit)) av asked.length (asked.map I) := by
  have h6 : Blk w1 b6 86 _ := k.k6.chg c k.ne
  have hg1 : G W w1 := (k.g.chg (F := fun _ => False)).more c (fun i hi e => by have := k.lo; omega) |>.G (fun _ q => q.elim)
  have hof : ∀ b, b ≠ b6 → ((((w1.setCell ⟨b6, 0, none⟩ sv).setCell ⟨b6, 1, none⟩ av).setCell ⟨b6, 2, none⟩ (I code)).setCell ⟨b6, 3, none⟩ (.bool hit)).heap[b]? = w1.heap[b]? := fun b hb => by
    rw [Below.heap_setCell _ _ _ _ hb, Below.heap_setCell _ _ _ _ hb, Below.heap_setCell _ _ _ _ hb, Below.heap_setCell _ _ _ _ hb]
  have hs1 := k.s.chg c (fun b hb e => k.s.offb k.k7 (by decide) (by rw [← e]; exact hb))
  have ha1 := k.a.chg c (fun b hb e => k.a.offb k.k7 (by decide) (by rw [← e]; exact hb))
  refine ⟨(((hg1.setCell k.lo.2.2.1 _).setCell k.lo.2.2.1 _).setCell k.lo.2.2.1 _).setCell k.lo.2.2.1 _, (((h6.set 0 _).set 1 _).set 2 _).set 3 _, hs1.keep (fun b hb => hof b (fun e => ?_)), ha1.keep (fun b hb => hof b (fun e => ?_))⟩
  · exact k.s.offb k.k6 (by decide) (by rw [← e]; exact hb)
  · exact k.a.offb k.k6 (by decide) (by rw [← e]; exact hb)
/-- The next one is settled. -/
theorem RS.settle {sv' : Value} {w2 : World} (k : RS W wr b3 b5 b6 b7 b9 rv tail aimB to_ most hops sv av nv st near asked x) (w1 : World) (g1 : Go.Proofs.YtcbjcienjolceaaDoor.G wr w1) (hr : Sr W.heap.size w2 sv' (st ++ [x])) (hc : Chg (fun q => sv.ownBlock = some q) w1 w2) (ho : sv'.ownBlock = sv.ownBlock ∨ sv'.ownBlock = some w1.heap.size) :
    RS W (w2.setCell ⟨b7, 0, none⟩ sv') b3 b5 b6 b7 b9 rv tail aimB to_ most hops sv' av nv (st ++ [x]) near asked x := by
  have k1 := k.grow g1
  have hof : ∀ b, b ≠ b7 → (w2.setCell ⟨b7, 0, none⟩ sv').heap[b]? = w2.heap[b]? := fun b hb => Below.heap_setCell _ _ _ _ hb
  have h7 := k1.k7.chg hc (k1.s.offb k1.k7 (by decide))
  have hn : Sr W.heap.size w2 nv near := k1.n.chg hc (fun b hb e => (k1.d1 b e).1 hb)
  have ha := k1.a.chg hc (fun b hb e => by obtain ⟨_, _, ys, hy⟩ := k1.a.own hb; exact k1.s.offb hy (by decide) e)
  have hb7 : ∀ {v : Value} {b : Nat}, v.ownBlock = some b → v.ownBlock ≠ some b7 → b ≠ b7 := fun h1 h2 e => h2 (by rw [← e]; exact h1)
  have hs7 : sv'.ownBlock ≠ some b7 := by
    rcases ho with e | e
    · rw [e]; exact k1.s.offb k1.k7 (by decide)
    · rw [e]; intro q; have := k1.k7.lt; cases q; omega
  refine ⟨?_, (k1.k3.chg hc (k1.s.offb k1.k3 (by decide))).keep (hof _ (k1.k3.ne k1.k7 (by decide))), (k1.k5.chg hc (k1.s.offb k1.k5 (by decide))).keep (hof _ (k1.k5.ne k1.k7 (by decide))), (k1.k6.chg hc (k1.s.offb k1.k6 (by decide))).keep (hof _ k.ne), h7.set 0 _, (k1.k9.chg hc (fun e => (k1.d1 _ e).2 rfl)).keep (hof _ (k1.k9.ne k1.k7 (by decide))),
    hr.keep (fun b hb => hof b (hb7 hb hs7)), ha.keep (fun b hb => hof b (hb7 hb (k1.a.offb k1.k7 (by decide)))), hn.keep (fun b hb => hof b (hb7 hb (k1.n.offb k1.k7 (by decide)))), fun b hb => ?_, k.d2, k.lo, k.ne⟩
  · refine G.setCell ?_ k.lo.2.2.2.1 _
    exact (k1.g.chg (F := fun _ => False)).more hc (fun i hi e => by have := (k1.s.own e).1; omega) |>.G (fun _ q => q.elim)
  · rcases ho with e | e
    · rw [e] at hb; exact k.d1 b hb
    · rw [e] at hb
      cases hb
      refine ⟨fun q => ?_, fun q => ?_⟩
      · have := (k1.n.own q).2.1; omega
      · have := k1.k9.lt; omega
/-- One more is asked. -/
theorem RS.ask {av' : Value} {w2 : World} {id : Int} (k : RS W wr b3 b5 b6 b7 b9 rv tail aimB to_ most hops sv av nv st near asked x) (w1 : World) (g1 : Go.Proofs.YtcbjcienjolceaaDoor.G wr w1) (hr : Rw W.heap.size 2 1 w2 av' (asked ++ [id]).length ((asked ++ [id]).map I)) (hc : Chg (fun q => av.ownBlock = some q) w1 w2) (ho : av'.ownBlock = av.ownBlock ∨ av'.ownBlock = some w1.heap.size) :
    RS W (w2.setCell ⟨b7, 1, none⟩ av') b3 b5 b6 b7 b9 rv tail aimB to_ most hops sv av' nv st near (asked ++ [id]) x := by
  have k1 := k.grow g1
  have hof : ∀ b, b ≠ b7 → (w2.setCell ⟨b7, 1, none⟩ av').heap[b]? = w2.heap[b]? := fun b hb => Below.heap_setCell _ _ _ _ hb
  have hoff : ∀ {e : TypeId} {b : Nat} {ys : List Value}, Blk w1 b e ys → 2 ≠ e → ¬ (av.ownBlock = some b) := fun hb he => k1.a.offb hb he
  have h7 := k1.k7.chg hc (hoff k1.k7 (by decide))
  have hs : Sr W.heap.size w2 sv st := k1.s.chg hc (fun b hb => by obtain ⟨_, _, ys, hy⟩ := k1.s.own hb; exact hoff hy (by decide))
  have hn : Sr W.heap.size w2 nv near := k1.n.chg hc (fun b hb => by obtain ⟨_, _, ys, hy⟩ := k1.n.own hb; exact hoff hy (by decide))
  have hb7 : ∀ {v : Value} {b : Nat}, v.ownBlock = some b → v.ownBlock ≠ some b7 → b ≠ b7 := fun h1 h2 e => h2 (by rw [← e]; exact h1)
  have ha7 : av'.ownBlock ≠ some b7 := by
    rcases ho with e | e
    · rw [e]; exact k1.a.offb k1.k7 (by decide)
    · rw [e]; intro q; have := k1.k7.lt; cases q; omega
  refine ⟨?_, (k1.k3.chg hc (hoff k1.k3 (by decide))).keep (hof _ (k1.k3.ne k1.k7 (by decide))), (k1.k5.chg hc (hoff k1.k5 (by decide))).keep (hof _ (k1.k5.ne k1.k7 (by decide))), (k1.k6.chg hc (hoff k1.k6 (by decide))).keep (hof _ k.ne), h7.set 1 _, (k1.k9.chg hc (hoff k1.k9 (by decide))).keep (hof _ (k1.k9.ne k1.k7 (by decide))),
    hs.keep (fun b hb => hof b (hb7 hb (k1.s.offb k1.k7 (by decide)))), hr.keep (fun b hb => hof b (hb7 hb ha7)), hn.keep (fun b hb => hof b (hb7 hb (k1.n.offb k1.k7 (by decide)))), k.d1, k.d2, k.lo, k.ne⟩
  refine G.setCell ?_ k.lo.2.2.2.1 _
  exact (k1.g.chg (F := fun _ => False)).more hc (fun i hi e => by have := (k1.a.own e).1; omega) |>.G (fun _ q => q.elim)
/-- What is in sight turns. -/
theorem RS.sight {nv' : Value} {near' : List Sn} (k : RS W wr b3 b5 b6 b7 b9 rv tail aimB to_ most hops sv av nv st near asked x) (hr : Sr W.heap.size w' nv' near') (hc : Chg (fun q => nv.ownBlock = some q) wr w') (ho : ∀ b, nv'.ownBlock = some b → nv.ownBlock = some b ∨ wr.heap.size ≤ b) :
    RS W w' b3 b5 b6 b7 b9 rv tail aimB to_ most hops sv av nv' st near' asked x := by
  have hoff : ∀ {e : TypeId} {b : Nat} {ys : List Value}, Blk wr b e ys → 91 ≠ e → ¬ (nv.ownBlock = some b) := fun hb he => k.n.offb hb he
  refine ⟨?_, k.k3.chg hc (hoff k.k3 (by decide)), k.k5.chg hc (hoff k.k5 (by decide)), k.k6.chg hc (hoff k.k6 (by decide)), k.k7.chg hc (hoff k.k7 (by decide)), k.k9.chg hc (fun e => k.d2 _ e rfl), k.s.chg hc (fun b hb => (k.d1 b hb).1), k.a.chg hc (fun b hb => by obtain ⟨_, _, ys, hy⟩ := k.a.own hb; exact hoff hy (by decide)), hr, fun b hb => ⟨fun q => ?_, (k.d1 b hb).2⟩, fun b hb => ?_, k.lo, k.ne⟩
  · exact (k.g.chg (F := fun _ => False)).more hc (fun i hi e => by have := (k.n.own e).1; omega) |>.G (fun _ q => q.elim)
  · rcases ho b q with e | hl
    · exact (k.d1 b hb).1 e
    · have := (k.s.own hb).2.1; omega
  · rcases ho b hb with e | hl
    · exact k.d2 b e
    · have := k.k9.lt; omega
/-- The one that is next. -/
theorem RS.at_ (k : RS W wr b3 b5 b6 b7 b9 rv tail aimB to_ most hops sv av nv st near asked x) (y : Sn) : RS W ((wr.setCell ⟨b9, 0, none⟩ (I y.1)).setCell ⟨b9, 1, none⟩ (I y.2)) b3 b5 b6 b7 b9 rv tail aimB to_ most hops sv av nv st near asked y := by
  have hof : ∀ b, b ≠ b9 → ((wr.setCell ⟨b9, 0, none⟩ (I y.1)).setCell ⟨b9, 1, none⟩ (I y.2)).heap[b]? = wr.heap[b]? := fun b hb => by
    rw [Below.heap_setCell _ _ _ _ hb, Below.heap_setCell _ _ _ _ hb]
  exact ⟨(k.g.setCell k.lo.2.2.2.2 _).setCell k.lo.2.2.2.2 _, k.k3.keep (hof _ (k.k3.ne k.k9 (by decide))), k.k5.keep (hof _ (k.k5.ne k.k9 (by decide))), k.k6.keep (hof _ (k.k6.ne k.k9 (by decide))), k.k7.keep (hof _ (k.k7.ne k.k9 (by decide))), (k.k9.set 0 _).set 1 _, k.s.keep (fun b hb => hof b (k.d1 b hb).2), k.a.keep (fun b hb => hof b (fun e => k.a.offb k.k9 (by decide) (by rw [← e]; exact hb))), k.n.keep (fun b hb => hof b (k.d2 b hb)), k.d1, k.d2, k.lo, k.ne⟩
end
/-- Sums and ids that are in their ranges. -/
def Okn (l : List Sn) : Prop := ∀ p ∈ l, R64 p.1 ∧ 0 ≤ p.2 ∧ p.2 ≤ 1099511627776
theorem Okn.sight {l : List Sn} (h : Okn l) {id s : Int} (hi : R64 id) (hs : 0 ≤ s ∧ s ≤ 1099511627776) : Okn (sightL l id s) := by
  induction l with
  | nil => intro p hp; simp [sightL] at hp; subst hp; exact ⟨hi, hs⟩
  | cons x r ih =>
    intro p hp
    unfold sightL at hp
    have hx := h x (by simp)
    split at hp
    · split at hp
      · rcases List.mem_cons.1 hp with rfl | q
        · exact ⟨hx.1, hs⟩
        · exact h p (by simp [q])
      · exact h p hp
    · rcases List.mem_cons.1 hp with rfl | q
      · exact hx
      · exact ih (fun p hp => h p (by simp [hp])) p q
theorem sight_len (l : List Sn) (id s : Int) : (sightL l id s).length ≤ l.length + 1 := by
  induction l with
  | nil => simp [sightL]
  | cons x r ih =>
    unfold sightL
    split
    · split <;> simp
    · simp; omega
end Go.Proofs.YtcbjcienjolceaaDoor
