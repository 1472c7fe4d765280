/- Locks: maps, by what stands at each key. -/
import Derived.Test.YtkbgifhhnnfgoaaGreatDoorLk0
import Derived.Maps.RangeWalk
import Derived.DeepKeys4
namespace Go.Proofs.YtkbgifhhnnfgoaaGreatDoor
open Go.RowKit Go.Maps
open Go.WideElems (Fit rd rg pl rd_key rd_val rg_of)

/-- An element, whatever it is. -/
def hE (v : Value) : Option (DataW Value × List MemPlace) := some (.held v, [])
def getH (D : DataW Value) (kl : Lit) : Option Value := match D.atKey kl .nil with | .held v => some v | _ => none
section
variable {k : TypeId} {w : World} {b n : Nat} {D : DataW Value}
theorem own_elems (h : w.ownsMap Tryz.prog k hE b n D) : ∃ es, D = .map es ∧ ∀ p ∈ es, ∃ v, p.2 = .held v := by
  obtain ⟨es, clock, _, F, _, rfl⟩ := h
  refine ⟨_, rfl, fun p hp => ?_⟩
  obtain ⟨x, hx, rfl⟩ := List.mem_map.1 (mem_sorted.1 hp)
  obtain ⟨y, hy⟩ := F.reads x hx
  obtain ⟨z, hz, hzd⟩ := rd_val hy
  rw [rg_of hy]
  simp [hE] at hz
  exact ⟨x.val, by rw [hzd, ← hz]⟩
/-- What stands at a key: something, or what was said for nothing. -/
theorem atKey_getH (h : w.ownsMap Tryz.prog k hE b n D) (kl : Lit) (z : Value) : D.atKey kl (.held z) = .held ((getH D kl).getD z) := by
  obtain ⟨es, rfl, he⟩ := own_elems h
  simp only [getH, DataW.atKey]
  cases hf : es.find? (fun p => p.1.sameKey kl) with
  | none => simp
  | some p =>
    obtain ⟨v, hv⟩ := he p (List.mem_of_find?_eq_some hf)
    simp [hv]
theorem getH_some (h : w.ownsMap Tryz.prog k hE b n D) {kl : Lit} {v : Value} (hg : getH D kl = some v) : ∀ z, D.atKey kl z = .held v := by
  obtain ⟨es, rfl, he⟩ := own_elems h
  intro z
  simp only [getH, DataW.atKey] at hg ⊢
  cases hf : es.find? (fun p => p.1.sameKey kl) with
  | none => simp [hf] at hg
  | some p =>
    obtain ⟨u, hu⟩ := he p (List.mem_of_find?_eq_some hf)
    simp [hf, hu] at hg
    simp [hu, hg]
theorem getH_of_at {kl : Lit} {v : Value} (h : ∀ z, D.atKey kl z = .held v) : getH D kl = some v := by simp [getH, h]
theorem getH_has (h : w.ownsMap Tryz.prog k hE b n D) (kl : Lit) : Maps.has D kl = (getH D kl).isSome := by
  cases hg : getH D kl with
  | some v => rw [has_true_of_atKey (getH_some h hg)]; rfl
  | none =>
    obtain ⟨es, rfl, he⟩ := own_elems h
    simp only [getH, DataW.atKey] at hg
    cases hf : es.find? (fun p => p.1.sameKey kl) with
    | none =>
      simp only [has_eq, Option.isSome_none]
      rw [List.find?_eq_none] at hf
      cases ha : es.any (fun p => p.1.sameKey kl) with
      | false => rfl
      | true =>
        obtain ⟨p, hp, hpk⟩ := List.any_eq_true.1 ha
        exact absurd hpk (hf p hp)
    | some p =>
      obtain ⟨u, hu⟩ := he p (List.mem_of_find?_eq_some hf)
      simp [hf, hu] at hg
end
theorem getH_put_same {w : World} {k : TypeId} {b n : Nat} {D : DataW Value} (h : w.ownsMap Tryz.prog k hE b n D) {kl : Lit} (hk : WideAt.IsKeyLit kl) (v : Value) : getH (D.put kl (.held v)) kl = some v := by
  simp only [getH, atKey_put_same h.isMap hk]
theorem getH_put_other {D : DataW Value} {kl kl' : Lit} (v : Value) (hn : kl' ≠ kl) : getH (D.put kl (.held v)) kl' = getH D kl' := by
  simp only [getH, atKey_put_other hn]
theorem getH_del_same {D : DataW Value} {kl : Lit} : getH (D.del kl) kl = none := by simp only [getH, atKey_del_same]
theorem getH_del_other {D : DataW Value} {kl kl' : Lit} (hn : kl' ≠ kl) : getH (D.del kl) kl' = getH D kl' := by simp only [getH, atKey_del_other hn]

/-- A kind of keys. -/
structure Ky {α : Type} (enc : α → Value) (k : TypeId) : Prop where
  keyed : Keyed Tryz.prog k
  inj : ∀ {a b : α}, enc a = enc b → a = b
  sur : ∀ {v : Value} {kl : Lit}, keyOf Tryz.prog k v = some kl → ∃ a, v = enc a
/-- It is a key. -/
def KyOk {α : Type} (enc : α → Value) (k : TypeId) (a : α) : Prop := ∃ kl, keyOf Tryz.prog k (enc a) = some kl
/-- Block b is a map: at the key enc a stands g a. -/
def Mp {α : Type} (enc : α → Value) (k : TypeId) (w : World) (b : Nat) (g : α → Option Value) : Prop :=
  ∃ n D, w.ownsMap Tryz.prog k hE b n D ∧ ∀ a kl, keyOf Tryz.prog k (enc a) = some kl → getH D kl = g a
def upd {α β : Type} [DecidableEq α] (g : α → β) (a : α) (v : β) : α → β := fun x => if x = a then v else g x
@[simp] theorem upd_same {α β : Type} [DecidableEq α] (g : α → β) (a : α) (v : β) : upd g a v a = v := by simp [upd]
theorem upd_other {α β : Type} [DecidableEq α] {g : α → β} {a x : α} {v : β} (h : x ≠ a) : upd g a v x = g x := by simp [upd, h]

theorem nodup_len {α : Type} : ∀ (l m : List α), l.Pairwise (· ≠ ·) → (∀ x ∈ l, x ∈ m) → l.length ≤ m.length
  | [], _, _, _ => by simp
  | x :: l, m, hp, hs => by
    classical
    obtain ⟨h1, h2⟩ := List.pairwise_cons.1 hp
    have hx := hs x (by simp)
    have e : (m.filter fun y => decide (y ≠ x)).length < m.length := by
      have : m.length ≠ (m.filter fun y => decide (y ≠ x)).length := fun e => by
        have := (List.length_filter_eq_length_iff (p := fun y => decide (y ≠ x)) (l := m)).1 e.symm x hx
        simp at this
      have := List.length_filter_le (fun y => decide (y ≠ x)) m
      omega
    have := nodup_len l (m.filter fun y => decide (y ≠ x)) h2 (fun y hy => by simp; exact ⟨hs y (by simp [hy]), fun e => h1 y hy e.symm⟩)
    simp
    omega
section
variable {α : Type} {enc : α → Value} {k : TypeId} {w w' : World} {b : Nat} {g : α → Option Value}
theorem Mp.lt (h : Mp enc k w b g) : b < w.heap.size := by obtain ⟨_, _, h, _⟩ := h; exact h.lt
theorem Mp.keep (h : Mp enc k w b g) (hb : w'.heap[b]? = w.heap[b]?) : Mp enc k w' b g := by
  obtain ⟨n, D, ⟨es, clock, h1, h2⟩, h3⟩ := h
  exact ⟨n, D, ⟨es, clock, hb.trans h1, h2⟩, h3⟩
theorem Mp.G (h : Mp enc k w b g) (hg : Go.Proofs.YtkbgifhhnnfgoaaGreatDoor.G w w') : Mp enc k w' b g := h.keep (hg.block b h.lt)
theorem Mp.chg {F : Nat → Prop} (h : Mp enc k w b g) (hg : Chg F w w') (hF : ¬ F b) : Mp enc k w' b g := h.keep (hg.block b h.lt hF)
theorem Mp.congr {g' : α → Option Value} (h : Mp enc k w b g) (e : ∀ a, g a = g' a) : Mp enc k w b g' := by
  obtain ⟨n, D, h1, h2⟩ := h
  exact ⟨n, D, h1, fun a kl hk => (h2 a kl hk).trans (e a)⟩
/-- A map is no block of cells. -/
theorem Mp.ne (h : Mp enc k w b g) {q : Nat} {e : TypeId} {xs : List Value} (hq : Blk w q e xs) : b ≠ q := fun e => by
  subst e
  obtain ⟨_, _, ⟨es, clock, h1, _⟩, _⟩ := h
  have := hq.h
  rw [h1] at this
  cases this
theorem Mp.made (w : World) (enc : α → Value) (k : TypeId) : Mp enc k (w.alloc (.map #[] 0)) w.heap.size (fun _ => none) :=
  ⟨0, _, World.ownsMap_made w Tryz.prog k hE, fun _ _ _ => rfl⟩
theorem Mp.look (h : Mp enc k w b g) (Y : Ky enc k) {t e : TypeId} (ht : Tryz.prog.underlying t = some (.map k e)) {z : Value} (hz : (zeroValue e).run Tryz.prog w = .ok z w) {a : α} (ha : KyOk enc k a) :
    (Instr.lookup t (.map (some b)) (enc a) false).run Tryz.prog w = .ok ((g a).getD z) w := by
  obtain ⟨n, D, h1, h2⟩ := h
  obtain ⟨kl, hk⟩ := ha
  obtain ⟨v, ps, hr, hv⟩ := h1.lookup Y.keyed ht hz (zd := .held z) (zp := []) rfl hk
  rw [hr]
  simp only [hE, atKey_getH h1, Option.some.injEq, Prod.mk.injEq, DataW.held.injEq] at hv
  rw [hv.1, h2 a kl hk]
/-- The map has no more entries than there are possible keys. -/
theorem Mp.small (h : Mp enc k w b g) (Y : Ky enc k) (L : List α) (hL : ∀ a, KyOk enc k a → g a ≠ none → a ∈ L) : ∃ D, w.ownsMap Tryz.prog k hE b L.length D ∧ ∀ a kl, keyOf Tryz.prog k (enc a) = some kl → getH D kl = g a := by
  obtain ⟨n, D, h1, h2⟩ := h
  have h1' := h1
  obtain ⟨es, clock, hb, F, hs, hD⟩ := h1
  refine ⟨D, ⟨es, clock, hb, F, ?_, hD⟩, h2⟩
  have hn : es.toList.Pairwise (fun x y => x.key ≠ y.key) := ((MapKept.stamped_iff es clock).1 F.stamped).2.2
  have := nodup_len (es.toList.map (·.key)) (L.map enc) (by rw [List.pairwise_map]; exact hn) (fun v hv => by
    obtain ⟨x, hx, rfl⟩ := List.mem_map.1 hv
    obtain ⟨y, hy⟩ := F.reads x hx
    have hk := rd_key hy
    obtain ⟨a, ha⟩ := Y.sur hk
    refine List.mem_map.2 ⟨a, hL a ⟨_, ha ▸ hk⟩ ?_, ha.symm⟩
    rw [← h2 a _ (ha ▸ hk)]
    have hh : Maps.has D y.1 = true := by
      rw [hD]
      exact List.any_eq_true.2 ⟨rg Tryz.prog k hE x, mem_sorted.2 (List.mem_map.2 ⟨x, hx, rfl⟩), by rw [rg_of hy]; exact WideAt.sameKey_self (Y.keyed.key hk)⟩
    rw [getH_has h1'] at hh
    intro e
    rw [e] at hh
    cases hh)
  simpa using this
theorem Mp.put [DecidableEq α] (h : Mp enc k w b g) (Y : Ky enc k) (L : List α) (hL : ∀ a, KyOk enc k a → g a ≠ none → a ∈ L) (hl : L.length < maxLen) {t e : TypeId} (ht : Tryz.prog.underlying t = some (.map k e)) {a : α} (ha : KyOk enc k a) (v : Value) :
    ∃ w', (Instr.mapUpdate t (.map (some b)) (enc a) v).run Tryz.prog w = .ok () w' ∧ Mp enc k w' b (upd g a (some v)) ∧ Chg (fun k => k = b) w w' ∧ w'.heap.size = w.heap.size := by
  obtain ⟨D, h1, h2⟩ := h.small Y L hL
  obtain ⟨kl, hk⟩ := ha
  obtain ⟨w', hr, ho, ht'⟩ := h1.store Y.keyed ht hl hk (val := v) (d := .held v) (ps := []) rfl
  have hg := ht'.grown
  refine ⟨w', hr, ⟨_, _, ho, fun a' kl' hk' => ?_⟩, ⟨hg.os, hg.tape, hg.output, hg.size, fun i hi hn => hg.block i hi (fun e => hn (by cases e; rfl))⟩, ?_⟩
  · by_cases e : a' = a
    · subst e
      rw [hk] at hk'
      cases hk'
      rw [getH_put_same h1 (Y.keyed.key hk), upd_same]
    · rw [getH_put_other _ (fun e' => e (Y.inj (Y.keyed.inj hk' (by rw [e']; exact hk)))), upd_other e, h2 a' kl' hk']
  · obtain ⟨es, c, es', c', _, rfl⟩ := ht'
    simp [ChangeMaps.setBlock]
theorem Mp.del [DecidableEq α] (h : Mp enc k w b g) (Y : Ky enc k) {t e : TypeId} (ht : Tryz.prog.underlying t = some (.map k e)) {a : α} (ha : KyOk enc k a) (ty : TypeId) :
    ∃ w', (Builtin.delete_ #[t, k] ty #[.map (some b), enc a]).run Tryz.prog w = .ok (.tuple #[]) w' ∧ Mp enc k w' b (upd g a none) ∧ Chg (fun k => k = b) w w' ∧ w'.heap.size = w.heap.size := by
  obtain ⟨n, D, h1, h2⟩ := h
  obtain ⟨kl, hk⟩ := ha
  obtain ⟨w', hr, ho, ht'⟩ := h1.drop Y.keyed ht hk ty
  have hg := ht'.grown
  refine ⟨w', hr, ⟨_, _, ho, fun a' kl' hk' => ?_⟩, ⟨hg.os, hg.tape, hg.output, hg.size, fun i hi hn => hg.block i hi (fun e => hn (by cases e; rfl))⟩, ?_⟩
  · by_cases e : a' = a
    · subst e
      rw [hk] at hk'
      cases hk'
      rw [getH_del_same, upd_same]
    · rw [getH_del_other (fun e' => e (Y.inj (Y.keyed.inj hk' (by rw [e']; exact hk)))), upd_other e, h2 a' kl' hk']
  · obtain ⟨es, c, es', c', _, rfl⟩ := ht'
    simp [ChangeMaps.setBlock]
theorem Mp.len (h : Mp enc k w b g) (Y : Ky enc k) {t e : TypeId} (ht : Tryz.prog.underlying t = some (.map k e)) (ty : TypeId) :
    ∃ s : Nat, (Builtin.len_ #[t] ty #[.map (some b)]).run Tryz.prog w = .ok (I s) w ∧ (s = 0 ↔ ∀ a, KyOk enc k a → g a = none) := by
  obtain ⟨n, D, h1, h2⟩ := h
  refine ⟨Maps.size D, h1.len ht ty, ?_⟩
  obtain ⟨es, hes, hk⟩ := own_elems h1
  constructor
  · intro hs a ⟨kl, ha⟩
    rw [← h2 a kl ha]
    subst hes
    have : es = [] := List.eq_nil_of_length_eq_zero hs
    subst this
    rfl
  · intro hn
    obtain ⟨es1, clock, hb, F, hsz, hD⟩ := h1
    have h1' : w.ownsMap Tryz.prog k hE b n D := ⟨es1, clock, hb, F, hsz, hD⟩
    cases hs : es1.toList with
    | nil => rw [hD, size_eq, length_sorted, hs]; rfl
    | cons x r =>
      have hx : x ∈ es1.toList := by rw [hs]; simp
      obtain ⟨y, hy⟩ := F.reads x hx
      have hky := rd_key hy
      obtain ⟨a, ha⟩ := Y.sur hky
      have e1 := h2 a _ (ha ▸ hky)
      rw [hn a ⟨_, ha ▸ hky⟩] at e1
      have hh : Maps.has D y.1 = true := by
        rw [hD]
        exact List.any_eq_true.2 ⟨rg Tryz.prog k hE x, mem_sorted.2 (List.mem_map.2 ⟨x, hx, rfl⟩), by rw [rg_of hy]; exact WideAt.sameKey_self (Y.keyed.key hky)⟩
      rw [getH_has h1', e1] at hh
      cases hh
/-- A range over a map is under way: left says what is still to come. -/
def Rg (enc : α → Value) (k : TypeId) (w : World) (b r : Nat) (g : α → Option Value) (left : α → Prop) (cnt : Nat) : Prop :=
  ∃ n D lf, w.ranges Tryz.prog k hE b r n D lf cnt ∧ (∀ a kl, keyOf Tryz.prog k (enc a) = some kl → getH D kl = g a) ∧ ∀ a kl, keyOf Tryz.prog k (enc a) = some kl → (lf kl = true ↔ left a)
theorem Rg.mp {r cnt : Nat} {left : α → Prop} (h : Rg enc k w b r g left cnt) : Mp enc k w b g := by
  obtain ⟨n, D, lf, h1, h2, _⟩ := h
  exact ⟨n, D, h1.owns, h2⟩
theorem Rg.left_eq {r cnt : Nat} {left : α → Prop} (h : Rg enc k w b r g left cnt) : w.rangeLeft b r = cnt := by
  obtain ⟨n, D, lf, h1, _⟩ := h
  exact h1.left_eq
theorem Rg.keep {r cnt : Nat} {left : α → Prop} (h : Rg enc k w b r g left cnt) (hb : w'.heap[b]? = w.heap[b]?) (hr : w'.heap[r]? = w.heap[r]?) : Rg enc k w' b r g left cnt := by
  obtain ⟨n, D, lf, ⟨es, clock, since, seen, c0, h1, h2, h3, h4, h5, h6⟩, h7⟩ := h
  exact ⟨n, D, lf, ⟨es, clock, since, seen, c0, hb.trans h1, h2, h3, h4, hr.trans h5, h6⟩, h7⟩
theorem Rg.lt {r cnt : Nat} {left : α → Prop} (h : Rg enc k w b r g left cnt) : r < w.heap.size := by
  obtain ⟨n, D, lf, h1, _⟩ := h
  exact h1.lt
theorem Rg.ne {r cnt : Nat} {left : α → Prop} (h : Rg enc k w b r g left cnt) : r ≠ b := by
  obtain ⟨n, D, lf, h1, _⟩ := h
  exact h1.ne
theorem Mp.range (h : Mp enc k w b g) (Y : Ky enc k) {t e : TypeId} (ht : Tryz.prog.underlying t = some (.map k e)) :
    ∃ w' cnt, (Instr.range t (.map (some b))).run Tryz.prog w = .ok (.pointer (some ⟨w.heap.size, 0, none⟩)) w' ∧ Rg enc k w' b w.heap.size g (fun a => g a ≠ none) cnt ∧ Go.Proofs.YtkbgifhhnnfgoaaGreatDoor.G w w' ∧ w'.heap.size = w.heap.size + 1 := by
  obtain ⟨n, D, h1, h2⟩ := h
  obtain ⟨w', hr, hg, hb, hs⟩ := h1.range Y.keyed ht
  refine ⟨w', _, hr, ⟨n, D, _, hg, h2, fun a kl ha => ?_⟩, ⟨hb.os, hb.tape, hb.output, hb.size, fun i hi => hb.block i hi (by simp)⟩, hs⟩
  rw [getH_has h1, h2 a kl ha]
  cases hga : g a <;> simp [hga]
/-- The step: nothing is left, or some key that was left comes out. -/
theorem Rg.next {r cnt : Nat} {left : α → Prop} (h : Rg enc k w b r g left cnt) (Y : Ky enc k) (ty : TypeId) :
    ((∀ a, KyOk enc k a → ¬ left a) ∧ (Instr.next (.pointer (some ⟨r, 0, none⟩)) false ty).run Tryz.prog w = .ok (.tuple #[.bool false]) w) ∨
    ∃ a v w' cnt', KyOk enc k a ∧ left a ∧ g a = some v ∧ (Instr.next (.pointer (some ⟨r, 0, none⟩)) false ty).run Tryz.prog w = .ok (.tuple #[.bool true, enc a, v]) w' ∧
      Rg enc k w' b r g (fun x => left x ∧ x ≠ a) cnt' ∧ cnt' < cnt ∧ Chg (fun k => k = r) w w' ∧ w'.heap.size = w.heap.size ∧ (Instr.entry (.pointer (some ⟨r, 0, none⟩))).run Tryz.prog w' = .ok (.tuple #[enc a, v]) w' := by
  obtain ⟨n, D, lf, h1, h2, h3⟩ := h
  rcases h1.next Y.keyed ty with ⟨hc, hl, hrun⟩ | ⟨key, v, kl, y, w', cnt', hkey, hlk, hv, hat, hrun, hrg, hlt, hgr, hsz, hen⟩
  · refine .inl ⟨?_, hrun⟩
    rintro a ⟨kl, ha⟩ hla
    have := (h3 a kl ha).2 hla
    rw [hl kl] at this
    cases this
  · obtain ⟨a, rfl⟩ := Y.sur hkey
    simp only [hE, Option.some.injEq] at hv
    subst hv
    have hga : g a = some v := by rw [← h2 a kl hkey]; exact getH_of_at hat
    refine .inr ⟨a, v, w', cnt', ⟨kl, hkey⟩, (h3 a kl hkey).1 hlk, hga, hrun, ⟨n, D, _, hrg, h2, fun a' kl' ha' => ?_⟩, hlt, ⟨hgr.os, hgr.tape, hgr.output, hgr.size, fun i hi hn => hgr.block i hi (fun e => hn (by cases e; rfl))⟩, hsz, hen⟩
    simp only [Bool.and_eq_true, Bool.not_eq_true']
    rw [h3 a' kl' ha']
    have : kl'.sameKey kl = false ↔ a' ≠ a := by
      constructor
      · intro hs e
        subst e
        rw [ha'] at hkey
        cases hkey
        rw [WideAt.sameKey_self (Y.keyed.key ha')] at hs
        cases hs
      · intro e
        exact sameKey_ne (fun e' => e (Y.inj (Y.keyed.inj (e' ▸ ha') hkey)))
    rw [this]
end
/-- Keys that are numbers. -/
theorem kyI : Ky (fun n : Int => I n) 3 := ⟨int_keyed Tryz.underlying3, fun h => by cases h; rfl, fun {v kl} h => by obtain ⟨x, rfl, _⟩ := keyOf_int_inv Tryz.underlying3 h; exact ⟨x, rfl⟩⟩
def R64 (n : Int) : Prop := -9223372036854775808 ≤ n ∧ n ≤ 9223372036854775807
theorem wf_R64 {n : Int} : (Lit.int .i64 n).wf = true ↔ R64 n := by simp [Lit.wf, IntKind.min, IntKind.max, IntKind.signed, IntKind.bits, R64]
theorem kyI_ok {n : Int} : KyOk (fun n : Int => I n) 3 n ↔ R64 n := by
  constructor
  · rintro ⟨kl, h⟩
    obtain ⟨x, h1, _, h3⟩ := keyOf_int_inv Tryz.underlying3 h
    cases h1
    exact wf_R64.1 h3
  · intro h
    exact ⟨_, keyOf_int_mk Tryz.underlying3 (wf_R64.2 h)⟩
/-- A resource, or what is none. -/
structure Rs where
  lv : Int
  lb : ByteArray
  id : Int
deriving DecidableEq
def Rs.cells (r : Rs) : List Value := [I r.lv, .string r.lb, I r.id]
def Rs.v (r : Rs) : Value := .agg #[I r.lv, .string r.lb, I r.id]
def Rs.ok (r : Rs) : Prop := R64 r.lv ∧ r.lb.size ≤ maxLen ∧ R64 r.id
theorem Rs.v_inj {a b : Rs} (h : a.v = b.v) : a = b := by
  cases a; cases b; simp [Rs.v] at h; obtain ⟨rfl, rfl, rfl⟩ := h; rfl
end Go.Proofs.YtkbgifhhnnfgoaaGreatDoor
