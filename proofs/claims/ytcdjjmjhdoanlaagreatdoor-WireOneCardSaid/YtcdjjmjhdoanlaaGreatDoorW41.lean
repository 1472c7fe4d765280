/- Wire: frames by types, things that hold rows, readers. -/
import Derived.Test.YtcdjjmjhdoanlaaGreatDoorW40
namespace Go.Proofs.YtcdjjmjhdoanlaaGreatDoor
open Go.RowKit

/-- Blocks of other elements than these are as they were. -/
def Kx (X : List Nat) (u u' : World) : Prop := ∀ (k : Nat) (cs : Array Value) (t : TypeId) (fz : Nat × Nat), u.heap[k]? = some (Obj.cells cs t fz) → t ∉ X → u'.heap[k]? = u.heap[k]?
theorem Kx.refl (X : List Nat) (w : World) : Kx X w w := fun _ _ _ _ _ _ => rfl
theorem Kx.trans {X : List Nat} {a b c : World} (h : Kx X a b) (k : Kx X b c) : Kx X a c := fun i cs t fz hi h1 => by
  have e := h i cs t fz hi h1
  rw [← e]
  exact k i cs t fz (e.trans hi) h1
theorem Kx.mono {X Y : List Nat} {a b : World} (h : Kx X a b) (hs : ∀ t ∈ X, t ∈ Y) : Kx Y a b := fun i cs t fz hi h1 => h i cs t fz hi (fun q => h1 (hs t q))
theorem Kx.of_G {X : List Nat} {a b : World} (h : Go.Proofs.YtcdjjmjhdoanlaaGreatDoor.G a b) : Kx X a b := fun i _ _ _ hi _ => h.block i (Array.getElem?_eq_some_iff.1 hi).1
theorem Kx.chg {X : List Nat} {F : Nat → Prop} {a b : World} (h : Chg F a b) (hF : ∀ k, F k → k < a.heap.size → ∃ t xs, Blk a k t xs ∧ t ∈ X) : Kx X a b := fun i cs t fz hi h1 => by
  have hl := (Array.getElem?_eq_some_iff.1 hi).1
  refine h.block i hl (fun q => ?_)
  obtain ⟨t', xs, hb, ht⟩ := hF i q hl
  have := hb.h
  rw [hi] at this
  simp at this
  exact h1 (this.2.1 ▸ ht)
theorem Kx.one {X : List Nat} {b : Nat} {t : TypeId} {xs : List Value} {u u' : World} (h : Chg (fun k => k = b) u u') (hb : Blk u b t xs) (ht : t ∈ X) : Kx X u u' := Kx.chg h (fun k hk _ => by subst hk; exact ⟨t, xs, hb, ht⟩)
theorem Kx.set {X : List Nat} {b o : Nat} {t : TypeId} {xs : List Value} {u : World} {v : Value} (hb : Blk u b t xs) (ht : t ∈ X) : Kx X u (u.setCell ⟨b, o, none⟩ v) := Kx.one (b := b) (chg_setCell u v (.inl rfl)) hb ht
theorem Kx.own {α : Type} {E : Enc α} {X : List Nat} {t : TypeId} {v : Value} {l : List α} {u u' : World} (h : Chg (fun k => v.ownBlock = some k) u u') (hs : Sw E t u v l) (ht : t ∈ X) : Kx X u u' := Kx.chg h (fun k hk _ => by
  rcases hs with ⟨rfl, _⟩ | ⟨g, cap, rest, rfl, hb, _⟩
  · simp [Value.ownBlock] at hk
  · simp [Value.ownBlock] at hk; subst hk; exact ⟨t, _, hb, ht⟩)
theorem Kx.blk {X : List Nat} {u u' : World} {k : Nat} {t : TypeId} {xs : List Value} (h : Kx X u u') (hb : Blk u k t xs) (ht : t ∉ X) : Blk u' k t xs := ⟨(h k _ t _ hb.h ht).trans hb.h⟩
theorem Sw.kx {α : Type} {E : Enc α} {X : List Nat} {t : TypeId} {v : Value} {l : List α} {u u' : World} (hs : Sw E t u v l) (h : Kx X u u') (ht : t ∉ X) : Sw E t u' v l := by
  rcases hs with q | ⟨g, cap, rest, rfl, hb, q⟩
  · exact .inl q
  · exact .inr ⟨g, cap, rest, rfl, h.blk hb ht, q⟩
/-- How one lies in cells, with rows of its own; tys: their types. -/
structure Nst (α : Type) where
  s : Nat
  tys : List Nat
  r : World → List Value → α → Prop
  keep : ∀ {X : List Nat} {w w' : World} {cs : List Value} {x : α}, Kx X w w' → (∀ t ∈ tys, t ∉ X) → r w cs x → r w' cs x
/-- Cells of one. -/
abbrev Raw (s : Nat) := {cs : List Value // cs.length = s ∧ ∀ u ∈ cs, u.oneCell' = true}
abbrev eR (s : Nat) : Enc (Raw s) := ⟨fun x => x.1, s, fun a => a.2.1, fun a => a.2.2⟩
/-- A row of our own of such ones. -/
def NRow {α : Type} (D : Nst α) (ty : TypeId) (w : World) (v : Value) (l : List α) : Prop := ∃ rs : List (Raw D.s), Sw (eR D.s) ty w v rs ∧ rs.length = l.length ∧ ∀ (i : Nat) (c : Raw D.s) (x : α), rs[i]? = some c → l[i]? = some x → D.r w c.1 x
theorem NRow.kx {α : Type} {D : Nst α} {ty : TypeId} {X : List Nat} {w w' : World} {v : Value} {l : List α} (h : NRow D ty w v l) (k : Kx X w w') (h1 : ty ∉ X) (h2 : ∀ t ∈ D.tys, t ∉ X) : NRow D ty w' v l := by
  obtain ⟨rs, q1, q2, q3⟩ := h
  exact ⟨rs, q1.kx k h1, q2, fun i c x e1 e2 => D.keep k h2 (q3 i c x e1 e2)⟩
theorem NRow.form {α : Type} {D : Nst α} {ty : TypeId} {w : World} {v : Value} {l : List α} (h : NRow D ty w v l) : ∃ a c, v = .slice a l.length c := by
  obtain ⟨rs, q1, q2, _⟩ := h
  obtain ⟨a, c, q⟩ := q1.form
  exact ⟨a, c, by rw [q, q2]⟩
abbrev Nst.list {α : Type} (D : Nst α) (ty : TypeId) : Nst (List α) := ⟨1, ty :: D.tys, fun w cs l => ∃ v, cs = [v] ∧ NRow D ty w v l, fun k ht h => by
  obtain ⟨v, e, h⟩ := h
  exact ⟨v, e, h.kx k (ht _ (by simp)) (fun t q => ht t (by simp [q]))⟩⟩
abbrev Nst.enc {α : Type} (E : Enc α) : Nst α := ⟨E.s, [], fun _ cs x => cs = E.e x, fun _ _ h => h⟩
abbrev Nst.own {α : Type} (E : Enc α) (ty : TypeId) : Nst (List α) := ⟨1, [ty], fun w cs l => ∃ v, cs = [v] ∧ Sw E ty w v l, fun k ht h => by
  obtain ⟨v, e, h⟩ := h
  exact ⟨v, e, h.kx k (ht _ (by simp))⟩⟩
/-- One more. -/
theorem nrow_step {α : Type} {D : Nst α} {w : World} {rs : List (Raw D.s)} {xs : List α} (h : ∀ (i : Nat) (c : Raw D.s) (x : α), rs[i]? = some c → xs[i]? = some x → D.r w c.1 x) (hl : rs.length = xs.length) {c : Raw D.s} {x : α} (hx : D.r w c.1 x) : ∀ (i : Nat) (c' : Raw D.s) (x' : α), (rs ++ [c])[i]? = some c' → (xs ++ [x])[i]? = some x' → D.r w c'.1 x' := fun i c' x' e1 e2 => by
  by_cases hi : i < rs.length
  · rw [List.getElem?_append_left hi] at e1
    rw [List.getElem?_append_left (by omega)] at e2
    exact h i c' x' e1 e2
  · have h1 := (List.getElem?_eq_some_iff.1 e1).1
    simp at h1
    have hi' : i = rs.length := by omega
    subst hi'
    rw [List.getElem?_append_right (Nat.le_refl _), Nat.sub_self] at e1
    rw [hl, List.getElem?_append_right (Nat.le_refl _), Nat.sub_self] at e2
    simp at e1 e2
    subst e1 e2
    exact hx
/-- A call that reads; V: the form of what it answers. -/
def GetF {α : Type} (N : Nat) (p : List Nat → Option (α × List Nat)) (V : Value → Prop) (R : World → Value → α → Prop) (b : Nat) (w : World) (s : Option (List Nat)) (e : Ending) (w' : World) : Prop :=
  ∃ v', e = .returned v' ∧ V v' ∧ Cb b w w' ∧ Sc N w' b ((s.bind p).map (·.2)) ∧ ∀ x l', s.bind p = some (x, l') → R w' v' x
theorem GetF.of {α : Type} {N : Nat} {p : List Nat → Option (α × List Nat)} {R R' : World → Value → α → Prop} {J : World → Value → Prop} {V : Value → Prop} {b : Nat} {w w' : World} {s : Option (List Nat)} {e : Ending} (h : GetP N p R J b w s e w') (h1 : ∀ u v x, R u v x → V v ∧ R' u v x) (h2 : ∀ u v, J u v → V v) : GetF N p V R' b w s e w' := by
  obtain ⟨v', e1, hc, ⟨x, l', hp, hs, hr⟩ | ⟨hp, hs, hj⟩⟩ := h
  · exact ⟨v', e1, (h1 _ _ _ hr).1, hc, by rw [hp]; exact hs, fun y m q => by rw [hp] at q; cases q; exact (h1 _ _ _ hr).2⟩
  · exact ⟨v', e1, h2 _ _ hj, hc, by rw [hp]; exact hs, fun y m q => by rw [hp] at q; cases q⟩
/-- Between two fields: the result's block rb, what is known so far. -/
def Ps {β : Type} (N b : Nat) (w : World) (s : Option (List Nat)) (p : List Nat → Option (β × List Nat)) (rb : Nat) (T : TypeId) (cs : List Value) (Φ : World → List Nat → Prop) (u : World) : Prop :=
  ∃ s', Sc N u b s' ∧ Cb b w u ∧ Blk u rb T cs ∧ ((s' = none ∧ s.bind p = none) ∨ ∃ r, s' = some r ∧ Φ u r)
theorem Ps.start {β : Type} {N b : Nat} {w u : World} {s : Option (List Nat)} (p : List Nat → Option (β × List Nat)) {rb : Nat} {T : TypeId} {cs : List Value} (hs : Sc N w b s) (hg : Go.Proofs.YtcdjjmjhdoanlaaGreatDoor.G w u) (hb : Blk u rb T cs) : Ps N b w s p rb T cs (fun _ r => s = some r) u :=
  ⟨s, hs.G hg, hg.chg, hb, by cases s with
    | none => exact .inl ⟨rfl, rfl⟩
    | some l => exact .inr ⟨l, rfl, rfl⟩⟩
theorem Sc.blk {N : Nat} {w : World} {b : Nat} {s : Option (List Nat)} (h : Sc N w b s) : ∃ xs, Blk w b 62 xs := by
  obtain ⟨p, n, c, q⟩ := h.bad
  exact ⟨_, q⟩
/-- What was read is laid into the result. -/
theorem Ps.step {α β : Type} {N b : Nat} {w u u' u'' : World} {s s' : Option (List Nat)} {p : List Nat → Option (β × List Nat)} {q : List Nat → Option (α × List Nat)} {rb : Nat} {T : TypeId} {cs cs' : List Value} {Φ : World → List Nat → Prop} {R : World → α → Prop}
    (hs : Sc N u b s') (hc : Cb b w u) (hr : (s' = none ∧ s.bind p = none) ∨ ∃ r, s' = some r ∧ Φ u r) (hN : N ≤ rb) (hw : w.heap.size ≤ rb) (hne : rb ≠ b)
    (hc2 : Cb b u u') (hs2 : Sc N u' b ((s'.bind q).map (·.2))) (hR : ∀ x l', s'.bind q = some (x, l') → R u' x)
    (h3 : Chg (fun k => k = rb) u' u'') (hb' : Blk u' rb T cs) (hb3 : Blk u'' rb T cs')
    (kΦ : ∀ u u' r, Kx [62, T] u u' → Φ u r → Φ u' r) (kR : ∀ u u' x, Kx [62, T] u u' → R u x → R u' x) (hno : ∀ u r, Φ u r → q r = none → s.bind p = none) :
    Ps N b w s p rb T cs' (fun u r' => ∃ r x, Φ u r ∧ q r = some (x, r') ∧ R u x) u'' := by
  obtain ⟨xs, hB⟩ := hs.blk
  have k1 : Kx [62, T] u u' := Kx.one hc2 hB (by simp)
  have k2 : Kx [62, T] u' u'' := Kx.one h3 hb' (by simp)
  refine ⟨_, hs2.far (F := fun k => k = rb) (fun k hk => by subst hk; exact ⟨hN, hne⟩) h3, (hc.trans hc2).more h3 (fun k hk e => by omega), hb3, ?_⟩
  rcases hr with ⟨rfl, hn⟩ | ⟨r, rfl, hΦ⟩
  · exact .inl ⟨rfl, hn⟩
  · show (((q r).map (·.2)) = none ∧ _) ∨ _
    cases e : q r with
    | none => exact .inl ⟨rfl, hno u r hΦ e⟩
    | some y => exact .inr ⟨y.2, by show (q r).map _ = _; rw [e]; rfl, r, y.1, kΦ _ _ _ (k1.trans k2) hΦ, e, kR _ _ _ k2 (hR y.1 y.2 e)⟩
end Go.Proofs.YtcdjjmjhdoanlaaGreatDoor
