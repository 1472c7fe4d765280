/- Graphs: what stays; maps. -/
import Derived.Test.YtifioikdhfhljaaGreatDoorSg1
import Derived.Maps.RangeWalk
import Derived.DeepKeys4
namespace Go.Proofs.YtifioikdhfhljaaGreatDoor
open Go.RowKit Go.Maps
open Go.WideElems (Fit rd rg pl rd_key rd_val rg_of)

theorem wf_iff64 {n : Int} : (Lit.int .i64 n).wf = true ↔ R64 n := by simp [Lit.wf, IntKind.min, IntKind.max, IntKind.signed, IntKind.bits, R64]
/-- Blocks of other elements than these are as they were. -/
def Kx (X : List Nat) (u u' : World) : Prop := ∀ (k : Nat) (cs : Array Value) (t : TypeId) (fz : Nat × Nat), u.heap[k]? = some (Obj.cells cs t fz) → t ∉ X → u'.heap[k]? = u.heap[k]?
theorem Kx.refl (X : List Nat) (w : World) : Kx X w w := fun _ _ _ _ _ _ => rfl
theorem Kx.trans {X : List Nat} {a b c : World} (h : Kx X a b) (k : Kx X b c) : Kx X a c := fun i cs t fz hi h1 => by
  have e := h i cs t fz hi h1
  rw [← e]
  exact k i cs t fz (e.trans hi) h1
theorem Kx.mono {X Y : List Nat} {a b : World} (h : Kx X a b) (hs : ∀ t ∈ X, t ∈ Y) : Kx Y a b := fun i cs t fz hi h1 => h i cs t fz hi (fun q => h1 (hs t q))
theorem Kx.of_G {X : List Nat} {a b : World} (h : Go.Proofs.YtifioikdhfhljaaGreatDoor.G a b) : Kx X a b := fun i _ _ _ hi _ => h.block i (Array.getElem?_eq_some_iff.1 hi).1
theorem Kx.chg {X : List Nat} {F : Nat → Prop} {a b : World} (h : Chg F a b) (hF : ∀ k, F k → k < a.heap.size → ∃ t xs, Blk a k t xs ∧ t ∈ X) : Kx X a b := fun i cs t fz hi h1 => by
  have hl := (Array.getElem?_eq_some_iff.1 hi).1
  refine h.block i hl (fun q => ?_)
  obtain ⟨t', xs, hb, ht⟩ := hF i q hl
  have := hb.h
  rw [hi] at this
  simp at this
  exact h1 (this.2.1 ▸ ht)
theorem Kx.one {X : List Nat} {b : Nat} {t : TypeId} {xs : List Value} {u u' : World} (h : Chg (fun k => k = b) u u') (hb : Blk u b t xs) (ht : t ∈ X) : Kx X u u' := Kx.chg h (fun k hk _ => by subst hk; exact ⟨t, xs, hb, ht⟩)
theorem Kx.set {X : List Nat} {b o : Nat} {t : TypeId} {xs : List Value} {u : World} {v : Value} (hb : Blk u b t xs) (ht : t ∈ X) : Kx X u (u.setCell ⟨b, o, none⟩ v) := Kx.one (b := b) (chg_setCell u v (.inl rfl)) hb ht
theorem Kx.own {α : Type} {E : Enc α} {X : List Nat} {t : TypeId} {v : Value} {l : List α} {u u' : World} (h : Chg (fun k => v.ownBlock = some k) u u') (hs : Sw E t u v l) (ht : t ∈ X) : Kx X u u' := Kx.chg h (fun k hk _ => by
  rcases hs with ⟨rfl, _⟩ | ⟨g, cap, rest, rfl, hb, _⟩
  · simp [Value.ownBlock] at hk
  · simp [Value.ownBlock] at hk; subst hk; exact ⟨t, _, hb, ht⟩)
theorem Kx.blk {X : List Nat} {u u' : World} {k : Nat} {t : TypeId} {xs : List Value} (h : Kx X u u') (hb : Blk u k t xs) (ht : t ∉ X) : Blk u' k t xs := ⟨(h k _ t _ hb.h ht).trans hb.h⟩
theorem Sw.kx {α : Type} {E : Enc α} {X : List Nat} {t : TypeId} {v : Value} {l : List α} {u u' : World} (hs : Sw E t u v l) (h : Kx X u u') (ht : t ∉ X) : Sw E t u' v l := by
  rcases hs with q | ⟨g, cap, rest, rfl, hb, q⟩
  · exact .inl q
  · exact .inr ⟨g, cap, rest, rfl, h.blk hb ht, q⟩
/-- How one lies in cells, with rows of its own; tys: their types. -/
structure Nst (α : Type) where
  s : Nat
  tys : List Nat
  r : World → List Value → α → Prop
  keep : ∀ {X : List Nat} {w w' : World} {cs : List Value} {x : α}, Kx X w w' → (∀ t ∈ tys, t ∉ X) → r w cs x → r w' cs x
/-- Cells of one. -/
abbrev Raw (s : Nat) := {cs : List Value // cs.length = s ∧ ∀ u ∈ cs, u.oneCell' = true}
abbrev eR (s : Nat) : Enc (Raw s) := ⟨fun x => x.1, s, fun a => a.2.1, fun a => a.2.2⟩
/-- A row of our own of such ones. -/
def NRow {α : Type} (D : Nst α) (ty : TypeId) (w : World) (v : Value) (l : List α) : Prop := ∃ rs : List (Raw D.s), Sw (eR D.s) ty w v rs ∧ rs.length = l.length ∧ ∀ (i : Nat) (c : Raw D.s) (x : α), rs[i]? = some c → l[i]? = some x → D.r w c.1 x
theorem NRow.kx {α : Type} {D : Nst α} {ty : TypeId} {X : List Nat} {w w' : World} {v : Value} {l : List α} (h : NRow D ty w v l) (k : Kx X w w') (h1 : ty ∉ X) (h2 : ∀ t ∈ D.tys, t ∉ X) : NRow D ty w' v l := by
  obtain ⟨rs, q1, q2, q3⟩ := h
  exact ⟨rs, q1.kx k h1, q2, fun i c x e1 e2 => D.keep k h2 (q3 i c x e1 e2)⟩
theorem NRow.form {α : Type} {D : Nst α} {ty : TypeId} {w : World} {v : Value} {l : List α} (h : NRow D ty w v l) : ∃ a c, v = .slice a l.length c := by
  obtain ⟨rs, q1, q2, _⟩ := h
  obtain ⟨a, c, q⟩ := q1.form
  exact ⟨a, c, by rw [q, q2]⟩
abbrev Nst.list {α : Type} (D : Nst α) (ty : TypeId) : Nst (List α) := ⟨1, ty :: D.tys, fun w cs l => ∃ v, cs = [v] ∧ NRow D ty w v l, fun k ht h => by
  obtain ⟨v, e, h⟩ := h
  exact ⟨v, e, h.kx k (ht _ (by simp)) (fun t q => ht t (by simp [q]))⟩⟩
abbrev Nst.enc {α : Type} (E : Enc α) : Nst α := ⟨E.s, [], fun _ cs x => cs = E.e x, fun _ _ h => h⟩
abbrev Nst.own {α : Type} (E : Enc α) (ty : TypeId) : Nst (List α) := ⟨1, [ty], fun w cs l => ∃ v, cs = [v] ∧ Sw E ty w v l, fun k ht h => by
  obtain ⟨v, e, h⟩ := h
  exact ⟨v, e, h.kx k (ht _ (by simp))⟩⟩
/-- One more. -/
theorem nrow_step {α : Type} {D : Nst α} {w : World} {rs : List (Raw D.s)} {xs : List α} (h : ∀ (i : Nat) (c : Raw D.s) (x : α), rs[i]? = some c → xs[i]? = some x → D.r w c.1 x) (hl : rs.length = xs.length) {c : Raw D.s} {x : α} (hx : D.r w c.1 x) : ∀ (i : Nat) (c' : Raw D.s) (x' : α), (rs ++ [c])[i]? = some c' → (xs ++ [x])[i]? = some x' → D.r w c'.1 x' := fun i c' x' e1 e2 => by
  by_cases hi : i < rs.length
  · rw [List.getElem?_append_left hi] at e1
    rw [List.getElem?_append_left (by omega)] at e2
    exact h i c' x' e1 e2
  · have h1 := (List.getElem?_eq_some_iff.1 e1).1
    simp at h1
    have hi' : i = rs.length := by omega
    subst hi'
    rw [List.getElem?_append_right (Nat.le_refl _), Nat.sub_self] at e1
    rw [hl, List.getElem?_append_right (Nat.le_refl _), Nat.sub_self] at e2
    simp at e1 e2
    subst e1 e2
    exact hx
/-- An element, whatever it is. -/
def hE (v : Value) : Option (DataW Value × List MemPlace) := some (.held v, [])
def getH (D : DataW Value) (kl : Lit) : Option Value := match D.atKey kl .nil with | .held v => some v | _ => none
section
variable {k : TypeId} {w : World} {b n : Nat} {D : DataW Value}
theorem own_elems (h : w.ownsMap Tryz.prog k hE b n D) : ∃ es, D = .map es ∧ ∀ p ∈ es, ∃ v, p.2 = .held v := by
  obtain ⟨es, clock, _, F, _, rfl⟩ := h
  refine ⟨_, rfl, fun p hp => ?_⟩
  obtain ⟨x, hx, rfl⟩ := List.mem_map.1 (mem_sorted.1 hp)
  obtain ⟨y, hy⟩ := F.reads x hx
  obtain ⟨z, hz, hzd⟩ := rd_val hy
  rw [rg_of hy]
  simp [hE] at hz
  exact ⟨x.val, by rw [hzd, ← hz]⟩
/-- What stands at a key: something, or what was said for nothing. -/
theorem atKey_getH (h : w.ownsMap Tryz.prog k hE b n D) (kl : Lit) (z : Value) : D.atKey kl (.held z) = .held ((getH D kl).getD z) := by
  obtain ⟨es, rfl, he⟩ := own_elems h
  simp only [getH, DataW.atKey]
  cases hf : es.find? (fun p => p.1.sameKey kl) with
  | none => simp
  | some p =>
    obtain ⟨v, hv⟩ := he p (List.mem_of_find?_eq_some hf)
    simp [hv]
theorem getH_some (h : w.ownsMap Tryz.prog k hE b n D) {kl : Lit} {v : Value} (hg : getH D kl = some v) : ∀ z, D.atKey kl z = .held v := by
  obtain ⟨es, rfl, he⟩ := own_elems h
  intro z
  simp only [getH, DataW.atKey] at hg ⊢
  cases hf : es.find? (fun p => p.1.sameKey kl) with
  | none => simp [hf] at hg
  | some p =>
    obtain ⟨u, hu⟩ := he p (List.mem_of_find?_eq_some hf)
    simp [hf, hu] at hg
    simp [hu, hg]
theorem getH_of_at {kl : Lit} {v : Value} (h : ∀ z, D.atKey kl z = .held v) : getH D kl = some v := by simp [getH, h]
theorem getH_has (h : w.ownsMap Tryz.prog k hE b n D) (kl : Lit) : Maps.has D kl = (getH D kl).isSome := by
  cases hg : getH D kl with
  | some v => rw [has_true_of_atKey (getH_some h hg)]; rfl
  | none =>
    obtain ⟨es, rfl, he⟩ := own_elems h
    simp only [getH, DataW.atKey] at hg
    cases hf : es.find? (fun p => p.1.sameKey kl) with
    | none =>
      simp only [has_eq, Option.isSome_none]
      rw [List.find?_eq_none] at hf
      cases ha : es.any (fun p => p.1.sameKey kl) with
      | false => rfl
      | true =>
        obtain ⟨p, hp, hpk⟩ := List.any_eq_true.1 ha
        exact absurd hpk (hf p hp)
    | some p =>
      obtain ⟨u, hu⟩ := he p (List.mem_of_find?_eq_some hf)
      simp [hf, hu] at hg
end
theorem getH_put_same {w : World} {k : TypeId} {b n : Nat} {D : DataW Value} (h : w.ownsMap Tryz.prog k hE b n D) {kl : Lit} (hk : WideAt.IsKeyLit kl) (v : Value) : getH (D.put kl (.held v)) kl = some v := by
  simp only [getH, atKey_put_same h.isMap hk]
theorem getH_put_other {D : DataW Value} {kl kl' : Lit} (v : Value) (hn : kl' ≠ kl) : getH (D.put kl (.held v)) kl' = getH D kl' := by
  simp only [getH, atKey_put_other hn]
theorem getH_del_same {D : DataW Value} {kl : Lit} : getH (D.del kl) kl = none := by simp only [getH, atKey_del_same]
theorem getH_del_other {D : DataW Value} {kl kl' : Lit} (hn : kl' ≠ kl) : getH (D.del kl) kl' = getH D kl' := by simp only [getH, atKey_del_other hn]

/-- A kind of keys. -/
structure Ky {α : Type} (enc : α → Value) (k : TypeId) : Prop where
  keyed : Keyed Tryz.prog k
  inj : ∀ {a b : α}, enc a = enc b → a = b
  sur : ∀ {v : Value} {kl : Lit}, keyOf Tryz.prog k v = some kl → ∃ a, v = enc a
/-- It is a key. -/
def KyOk {α : Type} (enc : α → Value) (k : TypeId) (a : α) : Prop := ∃ kl, keyOf Tryz.prog k (enc a) = some kl
/-- Block b is a map: at the key enc a stands g a. -/
def Mp {α : Type} (enc : α → Value) (k : TypeId) (w : World) (b : Nat) (g : α → Option Value) : Prop :=
  ∃ n D, w.ownsMap Tryz.prog k hE b n D ∧ ∀ a kl, keyOf Tryz.prog k (enc a) = some kl → getH D kl = g a
def upd {α β : Type} [DecidableEq α] (g : α → β) (a : α) (v : β) : α → β := fun x => if x = a then v else g x
@[simp] theorem upd_same {α β : Type} [DecidableEq α] (g : α → β) (a : α) (v : β) : upd g a v a = v := by simp [upd]
theorem upd_other {α β : Type} [DecidableEq α] {g : α → β} {a x : α} {v : β} (h : x ≠ a) : upd g a v x = g x := by simp [upd, h]

theorem nodup_len {α : Type} : ∀ (l m : List α), l.Pairwise (· ≠ ·) → (∀ x ∈ l, x ∈ m) → l.length ≤ m.length
  | [], _, _, _ => by simp
  | x :: l, m, hp, hs => by
    classical
    obtain ⟨h1, h2⟩ := List.pairwise_cons.1 hp
    have hx := hs x (by simp)
    have e : (m.filter fun y => decide (y ≠ x)).length < m.length := by
      have : m.length ≠ (m.filter fun y => decide (y ≠ x)).length := fun e => by
        have := (List.length_filter_eq_length_iff (p := fun y => decide (y ≠ x)) (l := m)).1 e.symm x hx
        simp at this
      have := List.length_filter_le (fun y => decide (y ≠ x)) m
      omega
    have := nodup_len l (m.filter fun y => decide (y ≠ x)) h2 (fun y hy => by simp; exact ⟨hs y (by simp [hy]), fun e => h1 y hy e.symm⟩)
    simp
    omega
section
variable {α : Type} {enc : α → Value} {k : TypeId} {w w' : World} {b : Nat} {g : α → Option Value}
theorem Mp.lt (h : Mp enc k w b g) : b < w.heap.size := by obtain ⟨_, _, h, _⟩ := h; exact h.lt
theorem Mp.keep (h : Mp enc k w b g) (hb : w'.heap[b]? = w.heap[b]?) : Mp enc k w' b g := by
  obtain ⟨n, D, ⟨es, clock, h1, h2⟩, h3⟩ := h
  exact ⟨n, D, ⟨es, clock, hb.trans h1, h2⟩, h3⟩
theorem Mp.G (h : Mp enc k w b g) (hg : Go.Proofs.YtifioikdhfhljaaGreatDoor.G w w') : Mp enc k w' b g := h.keep (hg.block b h.lt)
theorem Mp.chg {F : Nat → Prop} (h : Mp enc k w b g) (hg : Chg F w w') (hF : ¬ F b) : Mp enc k w' b g := h.keep (hg.block b h.lt hF)
theorem Mp.congr {g' : α → Option Value} (h : Mp enc k w b g) (e : ∀ a, g a = g' a) : Mp enc k w b g' := by
  obtain ⟨n, D, h1, h2⟩ := h
  exact ⟨n, D, h1, fun a kl hk => (h2 a kl hk).trans (e a)⟩
/-- A map is no block of cells. -/
theorem Mp.ne (h : Mp enc k w b g) {q : Nat} {e : TypeId} {xs : List Value} (hq : Blk w q e xs) : b ≠ q := fun e => by
  subst e
  obtain ⟨_, _, ⟨es, clock, h1, _⟩, _⟩ := h
  have := hq.h
  rw [h1] at this
  cases this
theorem Mp.made (w : World) (enc : α → Value) (k : TypeId) : Mp enc k (w.alloc (.map #[] 0)) w.heap.size (fun _ => none) :=
  ⟨0, _, World.ownsMap_made w Tryz.prog k hE, fun _ _ _ => rfl⟩
theorem Mp.look (h : Mp enc k w b g) (Y : Ky enc k) {t e : TypeId} (ht : Tryz.prog.underlying t = some (.map k e)) {z : Value} (hz : (zeroValue e).run Tryz.prog w = .ok z w) {a : α} (ha : KyOk enc k a) :
    (Instr.lookup t (.map (some b)) (enc a) false).run Tryz.prog w = .ok ((g a).getD z) w := by
  obtain ⟨n, D, h1, h2⟩ := h
  obtain ⟨kl, hk⟩ := ha
  obtain ⟨v, ps, hr, hv⟩ := h1.lookup Y.keyed ht hz (zd := .held z) (zp := []) rfl hk
  rw [hr]
  simp only [hE, atKey_getH h1, Option.some.injEq, Prod.mk.injEq, DataW.held.injEq] at hv
  rw [hv.1, h2 a kl hk]
/-- The map has no more entries than there are possible keys. -/
theorem Mp.small (h : Mp enc k w b g) (Y : Ky enc k) (L : List α) (hL : ∀ a, KyOk enc k a → g a ≠ none → a ∈ L) : ∃ D, w.ownsMap Tryz.prog k hE b L.length D ∧ ∀ a kl, keyOf Tryz.prog k (enc a) = some kl → getH D kl = g a := by
  obtain ⟨n, D, h1, h2⟩ := h
  have h1' := h1
  obtain ⟨es, clock, hb, F, hs, hD⟩ := h1
  refine ⟨D, ⟨es, clock, hb, F, ?_, hD⟩, h2⟩
  have hn : es.toList.Pairwise (fun x y => x.key ≠ y.key) := ((MapKept.stamped_iff es clock).1 F.stamped).2.2
  have := nodup_len (es.toList.map (·.key)) (L.map enc) (by rw [List.pairwise_map]; exact hn) (fun v hv => by
    obtain ⟨x, hx, rfl⟩ := List.mem_map.1 hv
    obtain ⟨y, hy⟩ := F.reads x hx
    have hk := rd_key hy
    obtain ⟨a, ha⟩ := Y.sur hk
    refine List.mem_map.2 ⟨a, hL a ⟨_, ha ▸ hk⟩ ?_, ha.symm⟩
    rw [← h2 a _ (ha ▸ hk)]
    have hh : Maps.has D y.1 = true := by
      rw [hD]
      exact List.any_eq_true.2 ⟨rg Tryz.prog k hE x, mem_sorted.2 (List.mem_map.2 ⟨x, hx, rfl⟩), by rw [rg_of hy]; exact WideAt.sameKey_self (Y.keyed.key hk)⟩
    rw [getH_has h1'] at hh
    intro e
    rw [e] at hh
    cases hh)
  simpa using this
theorem Mp.put [DecidableEq α] (h : Mp enc k w b g) (Y : Ky enc k) (L : List α) (hL : ∀ a, KyOk enc k a → g a ≠ none → a ∈ L) (hl : L.length < maxLen) {t e : TypeId} (ht : Tryz.prog.underlying t = some (.map k e)) {a : α} (ha : KyOk enc k a) (v : Value) :
    ∃ w', (Instr.mapUpdate t (.map (some b)) (enc a) v).run Tryz.prog w = .ok () w' ∧ Mp enc k w' b (upd g a (some v)) ∧ Chg (fun k => k = b) w w' ∧ w'.heap.size = w.heap.size := by
  obtain ⟨D, h1, h2⟩ := h.small Y L hL
  obtain ⟨kl, hk⟩ := ha
  obtain ⟨w', hr, ho, ht'⟩ := h1.store Y.keyed ht hl hk (val := v) (d := .held v) (ps := []) rfl
  have hg := ht'.grown
  refine ⟨w', hr, ⟨_, _, ho, fun a' kl' hk' => ?_⟩, ⟨hg.os, hg.tape, hg.output, hg.size, fun i hi hn => hg.block i hi (fun e => hn (by cases e; rfl))⟩, ?_⟩
  · by_cases e : a' = a
    · subst e
      rw [hk] at hk'
      cases hk'
      rw [getH_put_same h1 (Y.keyed.key hk), upd_same]
    · rw [getH_put_other _ (fun e' => e (Y.inj (Y.keyed.inj hk' (by rw [e']; exact hk)))), upd_other e, h2 a' kl' hk']
  · obtain ⟨es, c, es', c', _, rfl⟩ := ht'
    simp [ChangeMaps.setBlock]
theorem Mp.del [DecidableEq α] (h : Mp enc k w b g) (Y : Ky enc k) {t e : TypeId} (ht : Tryz.prog.underlying t = some (.map k e)) {a : α} (ha : KyOk enc k a) (ty : TypeId) :
    ∃ w', (Builtin.delete_ #[t, k] ty #[.map (some b), enc a]).run Tryz.prog w = .ok (.tuple #[]) w' ∧ Mp enc k w' b (upd g a none) ∧ Chg (fun k => k = b) w w' ∧ w'.heap.size = w.heap.size := by
  obtain ⟨n, D, h1, h2⟩ := h
  obtain ⟨kl, hk⟩ := ha
  obtain ⟨w', hr, ho, ht'⟩ := h1.drop Y.keyed ht hk ty
  have hg := ht'.grown
  refine ⟨w', hr, ⟨_, _, ho, fun a' kl' hk' => ?_⟩, ⟨hg.os, hg.tape, hg.output, hg.size, fun i hi hn => hg.block i hi (fun e => hn (by cases e; rfl))⟩, ?_⟩
  · by_cases e : a' = a
    · subst e
      rw [hk] at hk'
      cases hk'
      rw [getH_del_same, upd_same]
    · rw [getH_del_other (fun e' => e (Y.inj (Y.keyed.inj hk' (by rw [e']; exact hk)))), upd_other e, h2 a' kl' hk']
  · obtain ⟨es, c, es', c', _, rfl⟩ := ht'
    simp [ChangeMaps.setBlock]
theorem Mp.len (h : Mp enc k w b g) (Y : Ky enc k) {t e : TypeId} (ht : Tryz.prog.underlying t = some (.map k e)) (ty : TypeId) :
    ∃ s : Nat, (Builtin.len_ #[t] ty #[.map (some b)]).run Tryz.prog w = .ok (I s) w ∧ (s = 0 ↔ ∀ a, KyOk enc k a → g a = none) := by
  obtain ⟨n, D, h1, h2⟩ := h
  refine ⟨Maps.size D, h1.len ht ty, ?_⟩
  obtain ⟨es, hes, hk⟩ := own_elems h1
  constructor
  · intro hs a ⟨kl, ha⟩
    rw [← h2 a kl ha]
    subst hes
    have : es = [] := List.eq_nil_of_length_eq_zero hs
    subst this
    rfl
  · intro hn
    obtain ⟨es1, clock, hb, F, hsz, hD⟩ := h1
    have h1' : w.ownsMap Tryz.prog k hE b n D := ⟨es1, clock, hb, F, hsz, hD⟩
    cases hs : es1.toList with
    | nil => rw [hD, size_eq, length_sorted, hs]; rfl
    | cons x r =>
      have hx : x ∈ es1.toList := by rw [hs]; simp
      obtain ⟨y, hy⟩ := F.reads x hx
      have hky := rd_key hy
      obtain ⟨a, ha⟩ := Y.sur hky
      have e1 := h2 a _ (ha ▸ hky)
      rw [hn a ⟨_, ha ▸ hky⟩] at e1
      have hh : Maps.has D y.1 = true := by
        rw [hD]
        exact List.any_eq_true.2 ⟨rg Tryz.prog k hE x, mem_sorted.2 (List.mem_map.2 ⟨x, hx, rfl⟩), by rw [rg_of hy]; exact WideAt.sameKey_self (Y.keyed.key hky)⟩
      rw [getH_has h1', e1] at hh
      cases hh
/-- A range over a map is under way: left says what is still to come. -/
def Rg (enc : α → Value) (k : TypeId) (w : World) (b r : Nat) (g : α → Option Value) (left : α → Prop) (cnt : Nat) : Prop :=
  ∃ n D lf, w.ranges Tryz.prog k hE b r n D lf cnt ∧ (∀ a kl, keyOf Tryz.prog k (enc a) = some kl → getH D kl = g a) ∧ ∀ a kl, keyOf Tryz.prog k (enc a) = some kl → (lf kl = true ↔ left a)
theorem Rg.mp {r cnt : Nat} {left : α → Prop} (h : Rg enc k w b r g left cnt) : Mp enc k w b g := by
  obtain ⟨n, D, lf, h1, h2, _⟩ := h
  exact ⟨n, D, h1.owns, h2⟩
theorem Rg.left_eq {r cnt : Nat} {left : α → Prop} (h : Rg enc k w b r g left cnt) : w.rangeLeft b r = cnt := by
  obtain ⟨n, D, lf, h1, _⟩ := h
  exact h1.left_eq
theorem Rg.keep {r cnt : Nat} {left : α → Prop} (h : Rg enc k w b r g left cnt) (hb : w'.heap[b]? = w.heap[b]?) (hr : w'.heap[r]? = w.heap[r]?) : Rg enc k w' b r g left cnt := by
  obtain ⟨n, D, lf, ⟨es, clock, since, seen, c0, h1, h2, h3, h4, h5, h6⟩, h7⟩ := h
  exact ⟨n, D, lf, ⟨es, clock, since, seen, c0, hb.trans h1, h2, h3, h4, hr.trans h5, h6⟩, h7⟩
theorem Rg.lt {r cnt : Nat} {left : α → Prop} (h : Rg enc k w b r g left cnt) : r < w.heap.size := by
  obtain ⟨n, D, lf, h1, _⟩ := h
  exact h1.lt
theorem Rg.ne {r cnt : Nat} {left : α → Prop} (h : Rg enc k w b r g left cnt) : r ≠ b := by
  obtain ⟨n, D, lf, h1, _⟩ := h
  exact h1.ne
theorem Mp.range (h : Mp enc k w b g) (Y : Ky enc k) {t e : TypeId} (ht : Tryz.prog.underlying t = some (.map k e)) :
    ∃ w' cnt, (Instr.range t (.map (some b))).run Tryz.prog w = .ok (.pointer (some ⟨w.heap.size, 0, none⟩)) w' ∧ Rg enc k w' b w.heap.size g (fun a => g a ≠ none) cnt ∧ Go.Proofs.YtifioikdhfhljaaGreatDoor.G w w' ∧ w'.heap.size = w.heap.size + 1 := by
  obtain ⟨n, D, h1, h2⟩ := h
  obtain ⟨w', hr, hg, hb, hs⟩ := h1.range Y.keyed ht
  refine ⟨w', _, hr, ⟨n, D, _, hg, h2, fun a kl ha => ?_⟩, ⟨hb.os, hb.tape, hb.output, hb.size, fun i hi => hb.block i hi (by simp)⟩, hs⟩
  rw [getH_has h1, h2 a kl ha]
  cases hga : g a <;> simp [hga]
/-- The step: nothing is left, or some key that was left comes out. -/
theorem Rg.next {r cnt : Nat} {left : α → Prop} (h : Rg enc k w b r g left cnt) (Y : Ky enc k) (ty : TypeId) :
    ((∀ a, KyOk enc k a → ¬ left a) ∧ (Instr.next (.pointer (some ⟨r, 0, none⟩)) false ty).run Tryz.prog w = .ok (.tuple #[.bool false]) w) ∨
    ∃ a v w' cnt', KyOk enc k a ∧ left a ∧ g a = some v ∧ (Instr.next (.pointer (some ⟨r, 0, none⟩)) false ty).run Tryz.prog w = .ok (.tuple #[.bool true, enc a, v]) w' ∧
      Rg enc k w' b r g (fun x => left x ∧ x ≠ a) cnt' ∧ cnt' < cnt ∧ Chg (fun k => k = r) w w' ∧ w'.heap.size = w.heap.size ∧ (Instr.entry (.pointer (some ⟨r, 0, none⟩))).run Tryz.prog w' = .ok (.tuple #[enc a, v]) w' := by
  obtain ⟨n, D, lf, h1, h2, h3⟩ := h
  rcases h1.next Y.keyed ty with ⟨hc, hl, hrun⟩ | ⟨key, v, kl, y, w', cnt', hkey, hlk, hv, hat, hrun, hrg, hlt, hgr, hsz, hen⟩
  · refine .inl ⟨?_, hrun⟩
    rintro a ⟨kl, ha⟩ hla
    have := (h3 a kl ha).2 hla
    rw [hl kl] at this
    cases this
  · obtain ⟨a, rfl⟩ := Y.sur hkey
    simp only [hE, Option.some.injEq] at hv
    subst hv
    have hga : g a = some v := by rw [← h2 a kl hkey]; exact getH_of_at hat
    refine .inr ⟨a, v, w', cnt', ⟨kl, hkey⟩, (h3 a kl hkey).1 hlk, hga, hrun, ⟨n, D, _, hrg, h2, fun a' kl' ha' => ?_⟩, hlt, ⟨hgr.os, hgr.tape, hgr.output, hgr.size, fun i hi hn => hgr.block i hi (fun e => hn (by cases e; rfl))⟩, hsz, hen⟩
    simp only [Bool.and_eq_true, Bool.not_eq_true']
    rw [h3 a' kl' ha']
    have : kl'.sameKey kl = false ↔ a' ≠ a := by
      constructor
      · intro hs e
        subst e
        rw [ha'] at hkey
        cases hkey
        rw [WideAt.sameKey_self (Y.keyed.key ha')] at hs
        cases hs
      · intro e
        exact sameKey_ne (fun e' => e (Y.inj (Y.keyed.inj (e' ▸ ha') hkey)))
    rw [this]
end
/-- Keys that are numbers. -/
theorem kyI : Ky (fun n : Int => I n) 2 := ⟨int_keyed Tryz.underlying2, fun h => by cases h; rfl, fun {v kl} h => by obtain ⟨x, rfl, _⟩ := keyOf_int_inv Tryz.underlying2 h; exact ⟨x, rfl⟩⟩
theorem kyI_ok {n : Int} : KyOk (fun n : Int => I n) 2 n ↔ R64 n := by
  constructor
  · rintro ⟨kl, h⟩
    obtain ⟨x, h1, _, h3⟩ := keyOf_int_inv Tryz.underlying2 h
    cases h1
    exact wf_iff64.1 h3
  · intro h
    exact ⟨_, keyOf_int_mk Tryz.underlying2 (wf_iff64.2 h)⟩
theorem Mp.isMap {α : Type} {enc : α → Value} {k : TypeId} {w : World} {b : Nat} {g : α → Option Value} (h : Mp enc k w b g) : ∃ es c, w.heap[b]? = some (.map es c) := by
  obtain ⟨_, _, ⟨es, clock, h1, _⟩, _⟩ := h
  exact ⟨es, clock, h1⟩
theorem Mp.lookOk {α : Type} {enc : α → Value} {k : TypeId} {w : World} {b : Nat} {g : α → Option Value} (h : Mp enc k w b g) (Y : Ky enc k) {t e : TypeId} (ht : Tryz.prog.underlying t = some (.map k e)) {z : Value} (hz : (zeroValue e).run Tryz.prog w = .ok z w) {a : α} (ha : KyOk enc k a) :
    (Instr.lookup t (.map (some b)) (enc a) true).run Tryz.prog w = .ok (.tuple #[(g a).getD z, .bool (g a).isSome]) w := by
  obtain ⟨n, D, h1, h2⟩ := h
  obtain ⟨kl, hk⟩ := ha
  obtain ⟨v, ps, hr, hv⟩ := h1.look_ok Y.keyed ht hz (zd := .held z) (zp := []) rfl hk
  rw [hr]
  simp only [hE, atKey_getH h1, Option.some.injEq, Prod.mk.injEq, DataW.held.injEq] at hv
  rw [hv.1, getH_has h1, h2 a kl hk]

/-- Blocks of other elements than these, and maps but these, are as they were. -/
structure Fx (X : List Nat) (M : List Nat) (w w' : World) : Prop where
  kx : Kx X w w'
  map : ∀ b es c, w.heap[b]? = some (.map es c) → b ∉ M → w'.heap[b]? = w.heap[b]?
theorem Fx.refl (X M : List Nat) (w : World) : Fx X M w w := ⟨Kx.refl X w, fun _ _ _ _ _ => rfl⟩
theorem Fx.trans {X M : List Nat} {a b c : World} (h : Fx X M a b) (k : Fx X M b c) : Fx X M a c :=
  ⟨h.kx.trans k.kx, fun i es t hi hn => (k.map i es t ((h.map i es t hi hn).trans hi) hn).trans (h.map i es t hi hn)⟩
theorem Fx.mono {X Y M N : List Nat} {a b : World} (h : Fx X M a b) (h1 : ∀ t ∈ X, t ∈ Y) (h2 : ∀ t ∈ M, t ∈ N) : Fx Y N a b :=
  ⟨h.kx.mono h1, fun i es t hi hn => h.map i es t hi (fun q => hn (h2 i q))⟩
theorem Fx.of_G {X M : List Nat} {a b : World} (h : Go.Proofs.YtifioikdhfhljaaGreatDoor.G a b) : Fx X M a b := ⟨Kx.of_G h, fun i _ _ hi _ => h.block i (Array.getElem?_eq_some_iff.1 hi).1⟩
theorem Fx.chg {X M : List Nat} {F : Nat → Prop} {a b : World} (h : Chg F a b) (hF : ∀ k, F k → k < a.heap.size → ∃ t xs, Blk a k t xs ∧ t ∈ X) : Fx X M a b :=
  ⟨Kx.chg h hF, fun i es t hi _ => by
    have hl := (Array.getElem?_eq_some_iff.1 hi).1
    refine h.block i hl (fun q => ?_)
    obtain ⟨_, _, hb, _⟩ := hF i q hl
    have := hb.h
    rw [hi] at this
    cases this⟩
theorem Fx.set {X M : List Nat} {b o : Nat} {t : TypeId} {xs : List Value} {u : World} {v : Value} (hb : Blk u b t xs) (ht : t ∈ X) : Fx X M u (u.setCell ⟨b, o, none⟩ v) :=
  Fx.chg (F := fun k => k = b) (chg_setCell u v (.inl rfl)) (fun k hk _ => by subst hk; exact ⟨t, xs, hb, ht⟩)
theorem Fx.own {α : Type} {E : Enc α} {X M : List Nat} {t : TypeId} {v : Value} {l : List α} {u u' : World} (h : Chg (fun k => v.ownBlock = some k) u u') (hs : Sw E t u v l) (ht : t ∈ X) : Fx X M u u' := Fx.chg h (fun k hk _ => by
  rcases hs with ⟨rfl, _⟩ | ⟨g, cap, rest, rfl, hb, _⟩
  · simp [Value.ownBlock] at hk
  · simp [Value.ownBlock] at hk; subst hk; exact ⟨t, _, hb, ht⟩)
/-- What turned is a map. -/
theorem Fx.put {α : Type} {enc : α → Value} {k : TypeId} {g : α → Option Value} {X M : List Nat} {b : Nat} {u u' : World} (h : Chg (fun k => k = b) u u') (hm : Mp enc k u b g) (hb : b ∈ M) : Fx X M u u' :=
  ⟨fun i cs t fz hi _ => h.block i (Array.getElem?_eq_some_iff.1 hi).1 (fun e => by
      subst e
      obtain ⟨es, c, q⟩ := hm.isMap
      rw [hi] at q
      cases q),
   fun i es t hi hn => h.block i (Array.getElem?_eq_some_iff.1 hi).1 (fun e => hn (e ▸ hb))⟩
theorem Blk.fx {X M : List Nat} {u u' : World} {k : Nat} {t : TypeId} {xs : List Value} (hb : Blk u k t xs) (h : Fx X M u u') (ht : t ∉ X) : Blk u' k t xs := h.kx.blk hb ht
theorem Sw.fx {α : Type} {E : Enc α} {X M : List Nat} {t : TypeId} {v : Value} {l : List α} {u u' : World} (hs : Sw E t u v l) (h : Fx X M u u') (ht : t ∉ X) : Sw E t u' v l := hs.kx h.kx ht
theorem Mp.fx {α : Type} {enc : α → Value} {k : TypeId} {b : Nat} {g : α → Option Value} {X M : List Nat} {u u' : World} (hm : Mp enc k u b g) (h : Fx X M u u') (hb : b ∉ M) : Mp enc k u' b g := by
  obtain ⟨es, c, q⟩ := hm.isMap
  exact hm.keep (h.map b es c q hb)
end Go.Proofs.YtifioikdhfhljaaGreatDoor
