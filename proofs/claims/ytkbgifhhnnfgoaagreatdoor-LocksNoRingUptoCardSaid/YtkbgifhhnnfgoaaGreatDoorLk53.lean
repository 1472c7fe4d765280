/- Locks: the thought: End. -/
import Derived.Test.YtkbgifhhnnfgoaaGreatDoorLk47
namespace Go.Proofs.YtkbgifhhnnfgoaaGreatDoor
section
section
section
section
section
open Go.RowKit

/-- A live transaction. -/
structure Pm where
  stamp : Int
  hf : Rs → Int
  at_ : Rs
  goal : Int
  wd : Int → Bool
structure Ms where
  lv : Int → Option Pm
  qs : Rs → List (Int × Int)
def Pt.m (p : Pt) : Pm := ⟨p.stamp, p.hf, p.at_, p.goal, p.wd⟩
noncomputable def Pm.hurt (p : Pm) : Bool := @decide (∃ y, p.wd y = true) (Classical.propDecidable _)
theorem Pm.hurt_iff {p : Pm} : p.hurt = true ↔ ∃ y, p.wd y = true := ⟨fun h => @of_decide_eq_true _ (Classical.propDecidable _) h, @decide_eq_true _ (Classical.propDecidable _)⟩
theorem Pm.hurt_no {p : Pm} : p.hurt = false ↔ ∀ y, p.wd y = false := by
  rw [← Bool.not_eq_true, Pm.hurt_iff]
  constructor
  · intro h y
    cases e : p.wd y with
    | false => rfl
    | true => exact absurd ⟨y, e⟩ h
  · rintro h ⟨y, e⟩
    rw [h y] at e; cases e
theorem Pt.m_hurt (p : Pt) : p.m.hurt = p.hurt := by
  cases e : p.hurt with
  | true => exact Pm.hurt_iff.2 (Pt.hurt_iff.1 e)
  | false =>
    rw [← Bool.not_eq_true, Pm.hurt_iff]
    intro h
    rw [Pt.hurt_iff.2 h] at e; cases e
def Pm.hit (p : Pm) (y : Int) : Pm := { p with wd := upd p.wd y true }
/-- What each holds on r. -/
def Ms.hl (m : Ms) (r : Rs) (x : Int) : Int := match m.lv x with | some p => p.hf r | none => 0
/-- A table in memory, without its memory. -/
structure Abs (s : Gs) (m : Ms) : Prop where
  lv : ∀ x, (s.lv x).map Pt.m = m.lv x
  yes : ∀ r q, s.pl r = some q → q.hf = m.hl r ∧ q.qs = m.qs r ∧ ∃ x, m.hl r x ≠ 0
  no : ∀ r, s.pl r = none → (∀ x, m.hl r x = 0) ∧ m.qs r = []
theorem Abs.at {s : Gs} {m : Ms} (h : Abs s m) {x : Int} {p : Pt} (hp : s.lv x = some p) : m.lv x = some p.m := by rw [← h.lv, hp]; rfl
theorem Abs.none {s : Gs} {m : Ms} (h : Abs s m) {x : Int} : s.lv x = none ↔ m.lv x = none := by
  rw [← h.lv]; cases s.lv x <;> simp
theorem Abs.of {s : Gs} {m : Ms} (h : Abs s m) {x : Int} {p : Pm} (hp : m.lv x = some p) : ∃ q, s.lv x = some q ∧ q.m = p := by
  rw [← h.lv] at hp
  cases e : s.lv x with
  | none => rw [e] at hp; cases hp
  | some q => rw [e] at hp; exact ⟨q, rfl, by simpa using hp⟩

/-- Those of xs that are younger get a wound by x: as sets. -/
theorem wbL_set (x st : Int) (s : Gs) (xs : List Int) : (∀ y, ((wbL x st s xs).1.lv y).map Pt.m = (s.lv y).map fun p => if y ∈ xs ∧ st < p.stamp then p.m.hit x else p.m) ∧
    (wbL x st s xs).2.Nodup ∧ ∀ y, y ∈ (wbL x st s xs).2 ↔ y ∈ xs ∧ ∃ p, s.lv y = some p ∧ st < p.stamp ∧ p.hurt = false := by
  refine snoc_ind (P := fun xs => (∀ y, ((wbL x st s xs).1.lv y).map Pt.m = (s.lv y).map fun p => if y ∈ xs ∧ st < p.stamp then p.m.hit x else p.m) ∧
    (wbL x st s xs).2.Nodup ∧ ∀ y, y ∈ (wbL x st s xs).2 ↔ y ∈ xs ∧ ∃ p, s.lv y = some p ∧ st < p.stamp ∧ p.hurt = false) ?_ (fun l z ih => ?_) xs
  · refine ⟨fun y => ?_, List.nodup_nil, fun y => by simp [wbL_nil]⟩
    rw [wbL_nil]
    cases s.lv y <;> simp
  · obtain ⟨h1, h2, h3⟩ := ih
    rw [wbL_snoc]
    have hz := wbL_lv x st s l z
    unfold wbs
    cases hb : (wbL x st s l).1.lv z with
    | none =>
      have hn : s.lv z = none := by
        cases e : s.lv z with
        | none => rfl
        | some b =>
          obtain ⟨b', hb', -⟩ := hz.1 b e
          rw [hb] at hb'; cases hb'
      refine ⟨fun y => ?_, h2, fun y => ?_⟩
      · show ((wbL x st s l).1.lv y).map Pt.m = _
        rw [h1 y]
        by_cases e : y = z
        · subst e; rw [hn]; rfl
        · simp [e]
      · show y ∈ (wbL x st s l).2 ↔ _
        rw [h3 y]
        constructor
        · rintro ⟨h, p, hp⟩; exact ⟨List.mem_append_left _ h, p, hp⟩
        · rintro ⟨h, p, hp, hp2⟩
          rcases List.mem_append.1 h with h | h
          · exact ⟨h, p, hp, hp2⟩
          · simp at h; subst h; rw [hn] at hp; cases hp
    | some b =>
      obtain ⟨b0, hb0⟩ : ∃ b0, s.lv z = some b0 := by
        cases e : s.lv z with
        | none => have := hz.2 e; rw [hb] at this; cases this
        | some b0 => exact ⟨b0, rfl⟩
      have hbm := h1 z
      rw [hb, hb0] at hbm
      simp only [Option.map_some, Option.some.injEq] at hbm
      have hst : b.stamp = b0.stamp := by
        have := congrArg Pm.stamp hbm
        split at this <;> exact this
      dsimp only
      by_cases hlt : st < b.stamp
      · rw [if_pos hlt]
        have hlt0 : st < b0.stamp := by rw [← hst]; exact hlt
        have hhit : (b.hit x).m = b0.m.hit x := by
          have e1 : (b.hit x).m = b.m.hit x := rfl
          rw [e1, hbm]
          split
          · simp [Pm.hit, upd_upd]
          · rfl
        have hhb : b.hurt = false ↔ z ∉ l ∧ b0.hurt = false := by
          rw [← Pt.m_hurt, hbm, ← Pt.m_hurt]
          by_cases hzl : z ∈ l
          · rw [if_pos ⟨hzl, hlt0⟩]
            constructor
            · intro hh
              have := (Pm.hurt_no.1 hh) x
              simp [Pm.hit] at this
            · rintro ⟨hh, -⟩; exact absurd hzl hh
          · rw [if_neg (fun hh => hzl hh.1)]
            exact ⟨fun hh => ⟨hzl, hh⟩, fun hh => hh.2⟩
        refine ⟨fun y => ?_, ?_, fun y => ?_⟩
        · by_cases e : y = z
          · subst e
            show ((upd (wbL x st s l).1.lv y (some (b.hit x))) y).map Pt.m = _
            rw [upd_same, hb0]
            simp [hlt0, hhit]
          · show ((upd (wbL x st s l).1.lv z (some (b.hit x))) y).map Pt.m = _
            rw [upd_other e, h1 y]
            simp [e]
        · cases hh : b.hurt with
          | true => exact h2
          | false =>
            show ((wbL x st s l).2 ++ [z]).Nodup
            rw [List.nodup_append]
            refine ⟨h2, by simp, fun a ha c hc e => ?_⟩
            simp at hc
            subst hc e
            exact (hhb.1 hh).1 ((h3 a).1 ha).1
        · have hm : y ∈ (if b.hurt = true then (wbL x st s l).2 else (wbL x st s l).2 ++ [z]) ↔ y ∈ (wbL x st s l).2 ∨ (y = z ∧ b.hurt = false) := by
            cases b.hurt <;> simp
          rw [show (y ∈ ((wbL x st s l).1.setPt z (b.hit x), if b.hurt = true then (wbL x st s l).2 else (wbL x st s l).2 ++ [z]).2) = (y ∈ (if b.hurt = true then (wbL x st s l).2 else (wbL x st s l).2 ++ [z])) from rfl, hm, h3 y, List.mem_append, List.mem_singleton]
          constructor
          · rintro (⟨h, p, hp⟩ | ⟨rfl, hh⟩)
            · exact ⟨.inl h, p, hp⟩
            · exact ⟨.inr rfl, b0, hb0, hlt0, (hhb.1 hh).2⟩
          · rintro ⟨h | rfl, p, hp, hp2⟩
            · exact .inl ⟨h, p, hp, hp2⟩
            · by_cases hyl : y ∈ l
              · exact .inl ⟨hyl, p, hp, hp2⟩
              · refine .inr ⟨rfl, hhb.2 ⟨hyl, ?_⟩⟩
                rw [hb0] at hp; cases hp; exact hp2.2
      · rw [if_neg hlt]
        have hlt0 : ¬ st < b0.stamp := by rw [← hst]; exact hlt
        refine ⟨fun y => ?_, h2, fun y => ?_⟩
        · rw [h1 y]
          by_cases e : y = z
          · subst e; rw [hb0]; simp [hlt0]
          · simp [e]
        · rw [h3 y, List.mem_append, List.mem_singleton]
          constructor
          · rintro ⟨h, p, hp⟩; exact ⟨.inl h, p, hp⟩
          · rintro ⟨h | rfl, p, hp, hp2⟩
            · exact ⟨h, p, hp, hp2⟩
            · rw [hb0] at hp; cases hp; exact absurd hp2.1 hlt0
/-- The asker's wounds by those behind it, as a set. -/
theorem hits_wd (s : Gs) (qm : Int) : ∀ (l : List (Int × Int)) (p : Pt) (y : Int), (hitsL s qm p l).wd y = (p.wd y || l.any fun o => decide (o.1 = y) && canB s p.stamp qm o)
  | [], p, y => by simp [hitsL]
  | o :: l, p, y => by
    have e : hitsL s qm p (o :: l) = hitsL s qm (if canB s p.stamp qm o then p.hit o.1 else p) l := rfl
    rw [e, hits_wd s qm l]
    cases hc : canB s p.stamp qm o with
    | false => simp [hc]
    | true =>
      have hs : (p.hit o.1).stamp = p.stamp := rfl
      simp only [if_true, hs, List.any_cons, hc, Bool.and_true]
      by_cases ey : o.1 = y
      · subst ey; simp [Pt.hit]
      · have : y ≠ o.1 := fun e => ey e.symm
        simp [Pt.hit, upd_other this, ey]
end
open Go.RowKit

abbrev r0 : Rs := ⟨0, ByteArray.empty, 0⟩
theorem mode_cases {a : Int} (h : modeB a = true) : a = 1 ∨ a = 2 ∨ a = 3 ∨ a = 4 ∨ a = 5 := by
  simp [modeB] at h; omega
theorem fitB_symm (a b : Int) : fitB a b = fitB b a := by
  by_cases ha : modeB a = true
  · by_cases hb : modeB b = true
    · rcases mode_cases ha with rfl | rfl | rfl | rfl | rfl <;> rcases mode_cases hb with rfl | rfl | rfl | rfl | rfl <;> decide
    · simp [fitB, hb]
  · simp [fitB, ha]
/-- A stronger mode fits no more. -/
theorem fitB_join {a b c : Int} (ha : a = 0 ∨ modeB a = true) (hb : modeB b = true) (hc : modeB c = true) (h : a ≠ 0 → fitB a c = false) (ha0 : a ≠ 0) : fitB (joinI a b) c = false := by
  have h := h ha0
  rcases ha with rfl | ha
  · exact absurd rfl ha0
  revert h
  rcases mode_cases ha with rfl | rfl | rfl | rfl | rfl <;> rcases mode_cases hb with rfl | rfl | rfl | rfl | rfl <;> rcases mode_cases hc with rfl | rfl | rfl | rfl | rfl <;> decide
theorem joinI_mode {a b : Int} (ha : a = 0 ∨ modeB a = true) (hb : modeB b = true) : modeB (joinI a b) = true := by
  rcases ha with rfl | ha
  · rcases mode_cases hb with rfl | rfl | rfl | rfl | rfl <;> decide
  · rcases mode_cases ha with rfl | rfl | rfl | rfl | rfl <;> rcases mode_cases hb with rfl | rfl | rfl | rfl | rfl <;> decide
theorem mode_ne {a : Int} (h : modeB a = true) : a ≠ 0 := by rcases mode_cases h with rfl | rfl | rfl | rfl | rfl <;> decide
def GoodR (r : Rs) (LR : List Rs) : Prop := r ∈ LR ∧ r.ok ∧ ResP r
structure PIv (x : Int) (p : Pm) (L : List Int) (LR : List Rs) : Prop where
  x1 : 1 ≤ x
  xr : R64 x
  xl : x ∈ L
  s1 : 1 ≤ p.stamp
  wd : ∀ y, p.wd y = true → R64 y ∧ y ∈ L
  hf : ∀ r, p.hf r ≠ 0 → modeB (p.hf r) = true ∧ GoodR r LR
  g0 : p.goal = 0 → p.at_ = r0
  g1 : p.goal ≠ 0 → modeB p.goal = true ∧ GoodR p.at_ LR
  up : p.goal ≠ 0 → p.hf p.at_ ≠ 0 → ∀ c, modeB c = true → fitB (p.hf p.at_) c = false → fitB p.goal c = false
/-- What holds behind every call. -/
structure Iv (m : Ms) (L : List Int) (LR : List Rs) : Prop where
  lv : ∀ x p, m.lv x = some p → PIv x p L LR
  st : ∀ x y p p', m.lv x = some p → m.lv y = some p' → p.stamp = p'.stamp → x = y
  qn : ∀ r, ((m.qs r).map Prod.fst).Nodup
  qm : ∀ r x g, (x, g) ∈ m.qs r ↔ ∃ p, m.lv x = some p ∧ p.goal = g ∧ g ≠ 0 ∧ p.at_ = r
  bl : ∀ r i x g, (m.qs r)[i]? = some (x, g) → ∃ y, inW (m.hl r) (m.qs r) x g i y
  jw : ∀ r i x g p, (m.qs r)[i]? = some (x, g) → m.lv x = some p → p.hurt = false → ∀ y p', inW (m.hl r) (m.qs r) x g i y → m.lv y = some p' → p.stamp < p'.stamp → p'.wd x = true
  ft : ∀ r y z, y ≠ z → m.hl r y ≠ 0 → m.hl r z ≠ 0 → fitB (m.hl r y) (m.hl r z) = true
theorem hl_some {m : Ms} {x : Int} {p : Pm} (h : m.lv x = some p) (r : Rs) : m.hl r x = p.hf r := by unfold Ms.hl; rw [h]
theorem hl_none {m : Ms} {x : Int} (h : m.lv x = none) (r : Rs) : m.hl r x = 0 := by unfold Ms.hl; rw [h]
theorem hl_live {m : Ms} {x : Int} {r : Rs} (h : m.hl r x ≠ 0) : ∃ p, m.lv x = some p ∧ p.hf r ≠ 0 := by
  cases e : m.lv x with
  | none => exact absurd (hl_none e r) h
  | some p => exact ⟨p, rfl, by rw [← hl_some e r]; exact h⟩
theorem Iv.mode {m : Ms} {L : List Int} {LR : List Rs} (h : Iv m L LR) (r : Rs) (x : Int) : m.hl r x = 0 ∨ modeB (m.hl r x) = true := by
  by_cases e : m.hl r x = 0
  · exact .inl e
  · obtain ⟨p, hp, hf⟩ := hl_live e
    exact .inr (by rw [hl_some hp r]; exact ((h.lv x p hp).hf r hf).1)
theorem Iv.qmode {m : Ms} {L : List Int} {LR : List Rs} (h : Iv m L LR) {r : Rs} {x g : Int} (hq : (x, g) ∈ m.qs r) : ∃ p, m.lv x = some p ∧ p.goal = g ∧ p.at_ = r ∧ modeB g = true := by
  obtain ⟨p, hp, hg, hn, ha⟩ := (h.qm r x g).1 hq
  exact ⟨p, hp, hg, ha, by rw [← hg]; exact ((h.lv x p hp).g1 (by rw [hg]; exact hn)).1⟩
/-- Who stands in a request's way is live, and another. -/
theorem Iv.way {m : Ms} {L : List Int} {LR : List Rs} (h : Iv m L LR) {r : Rs} {i : Nat} {x g y : Int} (hx : ∀ j g', j < i → (m.qs r)[j]? ≠ some (x, g')) (hw : inW (m.hl r) (m.qs r) x g i y) : y ≠ x ∧ ∃ p, m.lv y = some p := by
  rcases hw with ⟨h1, h2, -⟩ | ⟨j, g', hj, hq, -⟩
  · obtain ⟨p, hp, -⟩ := hl_live h1
    exact ⟨h2, p, hp⟩
  · obtain ⟨p, hp, -⟩ := (h.qm r y g').1 (List.mem_of_getElem? hq)
    exact ⟨fun e => by subst e; exact hx j g' hj hq, p, hp⟩
theorem nodup_at {l : List (Int × Int)} (h : (l.map Prod.fst).Nodup) {i j : Nat} {x g g' : Int} (hi : l[i]? = some (x, g)) (hj : l[j]? = some (x, g')) : i = j := by
  have h1 : (l.map Prod.fst)[i]? = some x := by rw [List.getElem?_map, hi]; rfl
  have h2 : (l.map Prod.fst)[j]? = some x := by rw [List.getElem?_map, hj]; rfl
  obtain ⟨l1, e1⟩ := List.getElem?_eq_some_iff.1 h1
  obtain ⟨l2, e2⟩ := List.getElem?_eq_some_iff.1 h2
  have hp := List.pairwise_iff_getElem.1 h
  rcases Nat.lt_trichotomy i j with h3 | h3 | h3
  · exact absurd (e1.trans e2.symm) (hp i j l1 l2 h3)
  · exact h3
  · exact absurd (e2.trans e1.symm) (hp j i l2 l1 h3)
/-- A new transaction. -/
def mNew (m : Ms) (x st : Int) : Ms := { m with lv := upd m.lv x (some ⟨st, fun _ => 0, r0, 0, fun _ => false⟩) }
theorem mNew_hl {m : Ms} {x st : Int} (hn : m.lv x = none) : (mNew m x st).hl = m.hl := funext fun r => funext fun y => by
  by_cases e : y = x
  · subst e; rw [hl_none hn]; simp [Ms.hl, mNew]
  · simp [Ms.hl, mNew, upd_other e]
theorem iv_new {m : Ms} {L : List Int} {LR : List Rs} (h : Iv m L LR) {x st : Int} (hx1 : 1 ≤ x) (hxr : R64 x) (hxl : x ∈ L) (hs1 : 1 ≤ st) (hn : m.lv x = none) (hs : ∀ y p, m.lv y = some p → p.stamp ≠ st) : Iv (mNew m x st) L LR := by
  have hne : ∀ y g r, (y, g) ∈ m.qs r → y ≠ x := fun y g r hq e => by
    obtain ⟨p, hp, -⟩ := (h.qm r y g).1 hq
    rw [e, hn] at hp; cases hp
  refine ⟨fun y p hp => ?_, fun y z p p' hp hp' e => ?_, h.qn, fun r y g => ?_, fun r i y g hq => ?_, fun r i y g p hq hp hh z p' hw hp' hlt => ?_, fun r y z e h1 h2 => by rw [mNew_hl hn] at h1 h2 ⊢; exact h.ft r y z e h1 h2⟩
  · by_cases e : y = x
    · subst e
      simp [mNew] at hp
      subst hp
      exact ⟨hx1, hxr, hxl, hs1, fun _ h => (by cases h), fun _ h => absurd rfl h, fun _ => rfl, fun h => absurd rfl h, fun h => absurd rfl h⟩
    · simp [mNew, upd_other e] at hp
      exact h.lv y p hp
  · by_cases e1 : y = x
    · by_cases e2 : z = x
      · rw [e1, e2]
      · subst e1
        simp [mNew] at hp
        simp [mNew, upd_other e2] at hp'
        subst hp
        exact absurd e.symm (hs z p' hp')
    · by_cases e2 : z = x
      · subst e2
        simp [mNew] at hp'
        simp [mNew, upd_other e1] at hp
        subst hp'
        exact absurd e (hs y p hp)
      · simp [mNew, upd_other e1] at hp
        simp [mNew, upd_other e2] at hp'
        exact h.st y z p p' hp hp' e
  · show (y, g) ∈ m.qs r ↔ _
    by_cases e : y = x
    · subst e
      constructor
      · intro hq; exact absurd rfl (hne y g r hq)
      · rintro ⟨p, hp, hg, hn0, -⟩
        simp [mNew] at hp
        subst hp
        exact absurd hg.symm hn0
    · rw [h.qm r y g]
      simp [mNew, upd_other e]
  · rw [mNew_hl hn]; exact h.bl r i y g hq
  · rw [mNew_hl hn] at hw
    have e1 : y ≠ x := hne y g r (List.mem_of_getElem? hq)
    obtain ⟨e2, q, hq2⟩ := h.way (fun j g' hj hj2 => by have := nodup_at (h.qn r) hq hj2; omega) hw
    have e3 : z ≠ x := fun e => by rw [e, hn] at hq2; cases hq2
    simp [mNew, upd_other e1] at hp
    simp [mNew, upd_other e3] at hp'
    exact h.jw r i y g p hq hp hh z p' hw hp' hlt
end
open Go.RowKit

noncomputable def canM (m : Ms) (st g : Int) (o : Int × Int) : Bool := match m.lv o.1 with | some b => decide (b.stamp < st) && !b.hurt && !fitB g o.2 | none => false
/-- The asker, wounded by those behind it. -/
noncomputable def paM (m : Ms) (p : Pm) (g : Int) (l : List (Int × Int)) : Pm := { p with wd := fun y => p.wd y || l.any fun o => decide (o.1 = y) && canM m p.stamp g o }
def turnM (m : Ms) (r : Rs) (x : Int) : Nat := if m.hl r x = 0 then (m.qs r).length else upN (m.hl r) (m.qs r)
theorem paM_old {m : Ms} {p : Pm} {g y : Int} {l : List (Int × Int)} (h : p.wd y = true) : (paM m p g l).wd y = true := by simp [paM, h]
theorem paM_new {m : Ms} {p : Pm} {g y g' : Int} {l : List (Int × Int)} (hm : (y, g') ∈ l) {b : Pm} (hb : m.lv y = some b) (h1 : b.stamp < p.stamp) (h2 : b.hurt = false) (h3 : fitB g g' = false) : (paM m p g l).wd y = true := by
  have : (l.any fun o => decide (o.1 = y) && canM m p.stamp g o) = true := List.any_eq_true.2 ⟨(y, g'), hm, by simp [canM, hb, h1, h2, h3]⟩
  simp [paM, this]
theorem paM_inv {m : Ms} {p : Pm} {g y : Int} {l : List (Int × Int)} (h : (paM m p g l).wd y = true) : p.wd y = true ∨ ∃ g' b, (y, g') ∈ l ∧ m.lv y = some b ∧ b.stamp < p.stamp ∧ b.hurt = false ∧ fitB g g' = false := by
  have h2 : (p.wd y || l.any fun o => decide (o.1 = y) && canM m p.stamp g o) = true := h
  rw [Bool.or_eq_true] at h2
  rcases h2 with h2 | h2
  · exact .inl h2
  · obtain ⟨⟨z, g'⟩, hm, hc⟩ := List.any_eq_true.1 h2
    rw [Bool.and_eq_true] at hc
    obtain ⟨hz, hc⟩ := hc
    have hz : z = y := by simpa using hz
    subst hz
    unfold canM at hc
    cases hb : m.lv z with
    | none => simp [hb] at hc
    | some b =>
      simp [hb] at hc
      exact .inr ⟨g', b, hm, rfl, hc.1.1, hc.1.2, hc.2⟩
theorem ft_upd {hl : Int → Int} {x g : Int} (h : ∀ y z, y ≠ z → hl y ≠ 0 → hl z ≠ 0 → fitB (hl y) (hl z) = true) (hn : ∀ y, hl y ≠ 0 → y ≠ x → fitB (hl y) g = true) : ∀ y z, y ≠ z → upd hl x g y ≠ 0 → upd hl x g z ≠ 0 → fitB (upd hl x g y) (upd hl x g z) = true := fun y z e h1 h2 => by
  by_cases ey : y = x
  · have ez : z ≠ x := fun ez => e (ey.trans ez.symm)
    rw [ey, upd_same, upd_other ez, fitB_symm]
    rw [upd_other ez] at h2
    exact hn z h2 ez
  · rw [upd_other ey] at h1 ⊢
    by_cases ez : z = x
    · rw [ez, upd_same]; exact hn y h1 ey
    · rw [upd_other ez] at h2 ⊢
      exact h y z e h1 h2
/-- The asker has got it. -/
noncomputable def mGrant (m : Ms) (x : Int) (p : Pm) (r : Rs) (g : Int) (a : Nat) : Ms := { m with lv := upd m.lv x (some { paM m p g ((m.qs r).drop a) with hf := upd p.hf r g, at_ := r0, goal := 0 }) }
section
variable {m : Ms} {L : List Int} {LR : List Rs} {x : Int} {p : Pm} {r : Rs} {g mode : Int} {a : Nat}
theorem no_req (h : Iv m L LR) (hp : m.lv x = some p) (hg0 : p.goal = 0) (r' : Rs) (g' : Int) : (x, g') ∉ m.qs r' := fun hq => by
  obtain ⟨q, hq1, hq2, hq3, -⟩ := (h.qm r' x g').1 hq
  rw [hp] at hq1
  cases hq1
  exact hq3 (hq2.symm.trans hg0)
theorem mGrant_hl (hp : m.lv x = some p) (r' : Rs) (y : Int) : (mGrant m x p r g a).hl r' y = if y = x then upd p.hf r g r' else m.hl r' y := by
  by_cases e : y = x
  · subst e; simp [Ms.hl, mGrant]
  · simp [Ms.hl, mGrant, upd_other e, e]
theorem iv_grant (h : Iv m L LR) (hp : m.lv x = some p) (hg0 : p.goal = 0) (hr : GoodR r LR) (hm : modeB mode = true) (hg : g = joinI (p.hf r) mode) (hnb : ¬ ∃ y, inW (m.hl r) (m.qs r) x g a y) : Iv (mGrant m x p r g a) L LR := by
  have hnq := no_req h hp hg0
  have hpi := h.lv x p hp
  have hm0 : p.hf r = 0 ∨ modeB (p.hf r) = true := by rw [← hl_some hp r]; exact h.mode r x
  have hgm : modeB g = true := by rw [hg]; exact joinI_mode hm0 hm
  have hlv : ∀ y, y ≠ x → (mGrant m x p r g a).lv y = m.lv y := fun y e => upd_other e
  have hlx : (mGrant m x p r g a).lv x = some { paM m p g ((m.qs r).drop a) with hf := upd p.hf r g, at_ := r0, goal := 0 } := upd_same _ _ _
  refine ⟨fun y q hq => ?_, fun y z q q' hq hq' e => ?_, h.qn, fun r' y g' => ?_, fun r' i z g' hz => ?_, fun r' i z g' q hz hq hh y q' hw hq' hlt => ?_, fun r' => ?_⟩
  · by_cases e : y = x
    · subst e
      rw [hlx] at hq
      cases hq
      refine ⟨hpi.x1, hpi.xr, hpi.xl, hpi.s1, fun z hz => ?_, fun r' hr' => ?_, fun _ => rfl, fun hh => absurd rfl hh, fun hh => absurd rfl hh⟩
      · rcases paM_inv hz with hz | ⟨g', b, h1, h2, -⟩
        · exact hpi.wd z hz
        · exact ⟨(h.lv z b h2).xr, (h.lv z b h2).xl⟩
      · by_cases e : r' = r
        · subst e
          exact ⟨by show modeB (upd p.hf r' g r') = true; rw [upd_same]; exact hgm, hr⟩
        · have e2 : upd p.hf r g r' = p.hf r' := upd_other e
          show modeB (upd p.hf r g r') = true ∧ _
          have hr2 : upd p.hf r g r' ≠ 0 := hr'
          rw [e2] at hr2 ⊢
          exact hpi.hf r' hr2
    · rw [hlv y e] at hq
      exact h.lv y q hq
  · by_cases e1 : y = x
    · by_cases e2 : z = x
      · rw [e1, e2]
      · subst e1
        rw [hlx] at hq
        rw [hlv z e2] at hq'
        cases hq
        exact h.st y z p q' hp hq' e
    · by_cases e2 : z = x
      · subst e2
        rw [hlx] at hq'
        rw [hlv y e1] at hq
        cases hq'
        exact h.st y z q p hq hp e
      · rw [hlv y e1] at hq
        rw [hlv z e2] at hq'
        exact h.st y z q q' hq hq' e
  · show (y, g') ∈ m.qs r' ↔ _
    by_cases e : y = x
    · subst e
      constructor
      · intro hq; exact absurd hq (hnq r' g')
      · rintro ⟨q, hq, h1, h2, -⟩
        rw [hlx] at hq
        cases hq
        exact absurd h1.symm h2
    · rw [h.qm r' y g', hlv y e]
  · have hz' : (m.qs r')[i]? = some (z, g') := hz
    have ezx : z ≠ x := fun e => hnq r' g' (by rw [← e]; exact List.mem_of_getElem? hz')
    obtain ⟨-, -, -, -, hgm'⟩ := h.qmode (List.mem_of_getElem? hz')
    obtain ⟨y, hy⟩ := h.bl r' i z g' hz'
    refine ⟨y, ?_⟩
    rcases hy with ⟨h1, h2, h3⟩ | hy
    · refine .inl ⟨?_, h2, ?_⟩
      · rw [mGrant_hl hp]
        by_cases e : y = x
        · rw [if_pos e]
          by_cases e2 : r' = r
          · rw [e2, upd_same]; exact mode_ne hgm
          · rw [upd_other e2, ← hl_some hp r', ← e]; exact h1
        · rw [if_neg e]; exact h1
      · rw [mGrant_hl hp]
        by_cases e : y = x
        · rw [if_pos e]
          subst e
          by_cases e2 : r' = r
          · subst e2
            rw [upd_same, hg]
            rw [hl_some hp r'] at h1 h3
            exact fitB_join hm0 hm hgm' (fun _ => h3) h1
          · rw [upd_other e2, ← hl_some hp r']; exact h3
        · rw [if_neg e]; exact h3
    · exact .inr hy
  · have hz' : (m.qs r')[i]? = some (z, g') := hz
    have ezx : z ≠ x := fun e => hnq r' g' (by rw [← e]; exact List.mem_of_getElem? hz')
    rw [hlv z ezx] at hq
    by_cases e : y = x
    · subst e
      rw [hlx] at hq'
      cases hq'
      have hlt : q.stamp < p.stamp := hlt
      show (paM m p g ((m.qs r).drop a)).wd z = true
      rcases hw with ⟨h1, h2, h3⟩ | ⟨j, g2, -, hj, -⟩
      · rw [mGrant_hl hp, if_pos rfl] at h1 h3
        by_cases e2 : r' = r
        · subst e2
          rw [upd_same] at h3
          by_cases hia : i < a
          · have h4 : fitB g' g = true := by
              cases e4 : fitB g' g with
              | true => rfl
              | false => exact absurd ⟨z, .inr ⟨i, g', hia, hz', e4⟩⟩ hnb
            rw [fitB_symm, h3] at h4
            cases h4
          · refine paM_new (g' := g') ?_ hq hlt hh h3
            have hd : ((m.qs r').drop a)[i - a]? = some (z, g') := by rw [List.getElem?_drop, show a + (i - a) = i by omega]; exact hz'
            exact List.mem_of_getElem? hd
        · rw [upd_other e2, ← hl_some hp r'] at h1 h3
          exact paM_old (h.jw r' i z g' q hz' hq hh y p (.inl ⟨h1, h2, h3⟩) hp hlt)
      · exact absurd (List.mem_of_getElem? hj) (hnq r' g2)
    · rw [hlv y e] at hq'
      refine h.jw r' i z g' q hz' hq hh y q' ?_ hq' hlt
      rcases hw with ⟨h1, h2, h3⟩ | hw
      · rw [mGrant_hl hp, if_neg e] at h1 h3
        exact .inl ⟨h1, h2, h3⟩
      · exact .inr hw
  · by_cases e : r' = r
    · subst e
      have e1 : (mGrant m x p r' g a).hl r' = upd (m.hl r') x g := funext fun y => by
        rw [mGrant_hl hp]
        by_cases ey : y = x
        · rw [if_pos ey, ey, upd_same, upd_same]
        · rw [if_neg ey, upd_other ey]
      rw [e1]
      exact ft_upd (h.ft r') (fun y h1 h2 => by
        cases e4 : fitB (m.hl r' y) g with
        | true => rfl
        | false => exact absurd ⟨y, .inl ⟨h1, h2, e4⟩⟩ hnb)
    · have e1 : (mGrant m x p r g a).hl r' = m.hl r' := funext fun y => by
        rw [mGrant_hl hp]
        by_cases ey : y = x
        · rw [if_pos ey, upd_other e, ey, hl_some hp]
        · rw [if_neg ey]
      rw [e1]
      exact h.ft r'
end
end
open Go.RowKit

noncomputable def hitIf (c : Prop) (x : Int) (b : Pm) : Pm := @ite _ c (Classical.propDecidable _) (b.hit x) b
theorem hitIf_pos {c : Prop} (h : c) (x : Int) (b : Pm) : hitIf c x b = b.hit x := by unfold hitIf; exact @if_pos _ (Classical.propDecidable _) h _ _ _
theorem hitIf_neg {c : Prop} (h : ¬ c) (x : Int) (b : Pm) : hitIf c x b = b := by unfold hitIf; exact @if_neg _ (Classical.propDecidable _) h _ _ _
theorem hitIf_same (c : Prop) (x : Int) (b : Pm) : (hitIf c x b).stamp = b.stamp ∧ (hitIf c x b).hf = b.hf ∧ (hitIf c x b).at_ = b.at_ ∧ (hitIf c x b).goal = b.goal ∧ (∀ y, b.wd y = true → (hitIf c x b).wd y = true) ∧ (∀ y, (hitIf c x b).wd y = true → b.wd y = true ∨ (c ∧ y = x)) ∧ ((hitIf c x b).hurt = false → b.hurt = false) := by
  by_cases h : c
  · rw [hitIf_pos h]
    refine ⟨rfl, rfl, rfl, rfl, fun y hy => ?_, fun y hy => ?_, fun hh => ?_⟩
    · by_cases e : y = x
      · subst e; simp [Pm.hit]
      · simp [Pm.hit, upd_other e, hy]
    · by_cases e : y = x
      · exact .inr ⟨h, e⟩
      · simp [Pm.hit, upd_other e] at hy
        exact .inl hy
    · have := Pm.hurt_no.1 hh x
      simp [Pm.hit] at this
  · rw [hitIf_neg h]
    exact ⟨rfl, rfl, rfl, rfl, fun _ hy => hy, fun _ hy => .inl hy, fun hh => hh⟩
theorem put_at {qs : List (Int × Int)} {a : Nat} {x g : Int} (ha : a ≤ qs.length) (i : Nat) : (putQ qs a x g)[i]? = if i < a then qs[i]? else if i = a then some (x, g) else qs[i - 1]? := by
  unfold putQ
  by_cases h1 : i < a
  · rw [if_pos h1, List.getElem?_append_left (by rw [List.length_take]; omega), List.getElem?_take, if_pos h1]
  · rw [if_neg h1, List.getElem?_append_right (by rw [List.length_take]; omega), List.length_take, Nat.min_eq_left ha]
    by_cases h2 : i = a
    · rw [if_pos h2, h2, Nat.sub_self]; rfl
    · rw [if_neg h2]
      obtain ⟨k, hk⟩ : ∃ k, i - a = k + 1 := ⟨i - a - 1, by omega⟩
      rw [hk, List.getElem?_cons_succ, List.getElem?_drop]
      congr 1
      omega
theorem put_mem {qs : List (Int × Int)} {a : Nat} {x g : Int} (o : Int × Int) : o ∈ putQ qs a x g ↔ o = (x, g) ∨ o ∈ qs := by
  unfold putQ
  rw [List.mem_append, List.mem_cons]
  constructor
  · rintro (h | h | h)
    · exact .inr (List.mem_of_mem_take h)
    · exact .inl h
    · exact .inr (List.mem_of_mem_drop h)
  · rintro (h | h)
    · exact .inr (.inl h)
    · rw [← List.take_append_drop a qs] at h
      rcases List.mem_append.1 h with h | h
      · exact .inl h
      · exact .inr (.inr h)
/-- The asker must wait. -/
noncomputable def mWait (m : Ms) (x : Int) (p : Pm) (r : Rs) (g : Int) (a : Nat) : Ms :=
  { lv := (fun y => if y = x then some { paM m p g ((m.qs r).drop a) with at_ := r, goal := g } else (m.lv y).map fun b => hitIf ((paM m p g ((m.qs r).drop a)).hurt = false ∧ inW (m.hl r) (m.qs r) x g a y ∧ p.stamp < b.stamp) x b)
    qs := upd m.qs r (putQ (m.qs r) a x g) }
section
variable {m : Ms} {L : List Int} {LR : List Rs} {x : Int} {p : Pm} {r : Rs} {g mode : Int} {a : Nat}
theorem mWait_x : (mWait m x p r g a).lv x = some { paM m p g ((m.qs r).drop a) with at_ := r, goal := g } := by simp [mWait]
theorem mWait_y {y : Int} (e : y ≠ x) : (mWait m x p r g a).lv y = (m.lv y).map fun b => hitIf ((paM m p g ((m.qs r).drop a)).hurt = false ∧ inW (m.hl r) (m.qs r) x g a y ∧ p.stamp < b.stamp) x b := by simp [mWait, e]
theorem mWait_of {y : Int} {q : Pm} (e : y ≠ x) (h : (mWait m x p r g a).lv y = some q) : ∃ b, m.lv y = some b ∧ q = hitIf ((paM m p g ((m.qs r).drop a)).hurt = false ∧ inW (m.hl r) (m.qs r) x g a y ∧ p.stamp < b.stamp) x b := by
  rw [mWait_y e] at h
  cases hb : m.lv y with
  | none => rw [hb] at h; cases h
  | some b => rw [hb] at h; exact ⟨b, rfl, by simpa using h.symm⟩
theorem mWait_hl (hp : m.lv x = some p) : (mWait m x p r g a).hl = m.hl := funext fun r' => funext fun y => by
  by_cases e : y = x
  · subst e; rw [hl_some mWait_x, hl_some hp]; rfl
  · cases hb : m.lv y with
    | none => rw [hl_none hb, hl_none (by rw [mWait_y e, hb]; rfl)]
    | some b => rw [hl_some hb, hl_some (by rw [mWait_y e, hb]; rfl)]; exact congrFun (hitIf_same _ x b).2.1 r'
theorem iv_wait (h : Iv m L LR) (hp : m.lv x = some p) (hg0 : p.goal = 0) (hr : GoodR r LR) (hm : modeB mode = true) (hg : g = joinI (p.hf r) mode) (ha : a ≤ (m.qs r).length) (hb : ∃ y, inW (m.hl r) (m.qs r) x g a y) : Iv (mWait m x p r g a) L LR := by
  have hnq := no_req h hp hg0
  have hpi := h.lv x p hp
  have hm0 : p.hf r = 0 ∨ modeB (p.hf r) = true := by rw [← hl_some hp r]; exact h.mode r x
  have hgm : modeB g = true := by rw [hg]; exact joinI_mode hm0 hm
  have hhl := mWait_hl (r := r) (g := g) (a := a) hp
  have hqr : (mWait m x p r g a).qs r = putQ (m.qs r) a x g := upd_same _ _ _
  have hqo : ∀ r', r' ≠ r → (mWait m x p r g a).qs r' = m.qs r' := fun r' e => upd_other e
  -- what was in the way, and what is
  have way1 : ∀ {i : Nat} {z g' y : Int}, (putQ (m.qs r) a x g)[i]? = some (z, g') → z ≠ x → ∃ j, (m.qs r)[j]? = some (z, g') ∧ (a ≤ j → (z, g') ∈ (m.qs r).drop a) ∧ (inW (m.hl r) (m.qs r) z g' j y → inW (m.hl r) (putQ (m.qs r) a x g) z g' i y) ∧ (inW (m.hl r) (putQ (m.qs r) a x g) z g' i y → inW (m.hl r) (m.qs r) z g' j y ∨ (y = x ∧ fitB g g' = false ∧ a ≤ j)) := by
    intro i z g' y hz ezx
    rw [put_at ha] at hz
    by_cases h1 : i < a
    · rw [if_pos h1] at hz
      refine ⟨i, hz, fun hh => by omega, ?_, ?_⟩
      · rintro (hy | ⟨k, g2, hk, hq, hf⟩)
        · exact .inl hy
        · exact .inr ⟨k, g2, hk, by rw [put_at ha, if_pos (by omega)]; exact hq, hf⟩
      · rintro (hy | ⟨k, g2, hk, hq, hf⟩)
        · exact .inl (.inl hy)
        · rw [put_at ha, if_pos (by omega)] at hq
          exact .inl (.inr ⟨k, g2, hk, hq, hf⟩)
    · rw [if_neg h1] at hz
      by_cases h2 : i = a
      · rw [if_pos h2] at hz
        cases hz
        exact absurd rfl ezx
      · rw [if_neg h2] at hz
        refine ⟨i - 1, hz, fun hh => ?_, ?_, ?_⟩
        · have hd : ((m.qs r).drop a)[i - 1 - a]? = some (z, g') := by rw [List.getElem?_drop, show a + (i - 1 - a) = i - 1 by omega]; exact hz
          exact List.mem_of_getElem? hd
        · rintro (hy | ⟨k, g2, hk, hq, hf⟩)
          · exact .inl hy
          · by_cases h3 : k < a
            · exact .inr ⟨k, g2, by omega, by rw [put_at ha, if_pos h3]; exact hq, hf⟩
            · exact .inr ⟨k + 1, g2, by omega, by rw [put_at ha, if_neg (by omega), if_neg (by omega), Nat.add_sub_cancel]; exact hq, hf⟩
        · rintro (hy | ⟨k, g2, hk, hq, hf⟩)
          · exact .inl (.inl hy)
          · rw [put_at ha] at hq
            by_cases h3 : k < a
            · rw [if_pos h3] at hq
              exact .inl (.inr ⟨k, g2, by omega, hq, hf⟩)
            · rw [if_neg h3] at hq
              by_cases h4 : k = a
              · rw [if_pos h4] at hq
                cases hq
                exact .inr ⟨rfl, hf, by omega⟩
              · rw [if_neg h4] at hq
                exact .inl (.inr ⟨k - 1, g2, by omega, hq, hf⟩)
  have wayx : ∀ {i : Nat} {g' : Int}, (putQ (m.qs r) a x g)[i]? = some (x, g') → i = a ∧ g' = g := by
    intro i g' hz
    rw [put_at ha] at hz
    by_cases h1 : i < a
    · rw [if_pos h1] at hz; exact absurd (List.mem_of_getElem? hz) (hnq r g')
    · rw [if_neg h1] at hz
      by_cases h2 : i = a
      · rw [if_pos h2] at hz; cases hz; exact ⟨h2, rfl⟩
      · rw [if_neg h2] at hz; exact absurd (List.mem_of_getElem? hz) (hnq r g')
  refine ⟨fun y q hq => ?_, fun y z q q' hq hq' e => ?_, fun r' => ?_, fun r' y g' => ?_, fun r' i z g' hz => ?_, fun r' i z g' q hz hq hh y q' hw hq' hlt => ?_, fun r' => by rw [hhl]; exact h.ft r'⟩
  · by_cases e : y = x
    · subst e
      rw [mWait_x] at hq
      cases hq
      refine ⟨hpi.x1, hpi.xr, hpi.xl, hpi.s1, fun z hz => ?_, hpi.hf, fun hh => absurd hh (mode_ne hgm), fun _ => ⟨hgm, hr⟩, fun _ h0 c hc hf => ?_⟩
      · rcases paM_inv hz with hz | ⟨g', b, h1, h2, -⟩
        · exact hpi.wd z hz
        · exact ⟨(h.lv z b h2).xr, (h.lv z b h2).xl⟩
      · show fitB g c = false
        rw [hg]
        exact fitB_join hm0 hm hc (fun _ => hf) h0
    · obtain ⟨b, hb1, rfl⟩ := mWait_of e hq
      obtain ⟨e1, e2, e3, e4, -, e6, -⟩ := hitIf_same ((paM m p g ((m.qs r).drop a)).hurt = false ∧ inW (m.hl r) (m.qs r) x g a y ∧ p.stamp < b.stamp) x b
      have hi := h.lv y b hb1
      refine ⟨hi.x1, hi.xr, hi.xl, by rw [e1]; exact hi.s1, fun z hz => ?_, fun r' hr' => ?_, fun hg => ?_, fun hg => ?_, by rw [e2, e3, e4]; exact hi.up⟩
      · rcases e6 z hz with hz | ⟨-, rfl⟩
        · exact hi.wd z hz
        · exact ⟨hpi.xr, hpi.xl⟩
      · rw [e2] at hr' ⊢; exact hi.hf r' hr'
      · rw [e4] at hg; rw [e3]; exact hi.g0 hg
      · rw [e4] at hg ⊢; rw [e3]; exact hi.g1 hg
  · have key : ∀ y q, (mWait m x p r g a).lv y = some q → ∃ b, m.lv y = some b ∧ q.stamp = b.stamp := fun y q hq => by
      by_cases e : y = x
      · subst e; rw [mWait_x] at hq; cases hq; exact ⟨p, hp, rfl⟩
      · obtain ⟨b, hb1, rfl⟩ := mWait_of e hq
        exact ⟨b, hb1, (hitIf_same _ x b).1⟩
    obtain ⟨b, h1, h2⟩ := key y q hq
    obtain ⟨b', h3, h4⟩ := key z q' hq'
    exact h.st y z b b' h1 h3 (by rw [← h2, ← h4]; exact e)
  · by_cases e : r' = r
    · subst e
      rw [hqr]
      unfold putQ
      rw [List.map_append, List.map_cons, List.nodup_append]
      have hnd := h.qn r'
      rw [← List.take_append_drop a (m.qs r'), List.map_append, List.nodup_append] at hnd
      obtain ⟨n1, n2, n3⟩ := hnd
      refine ⟨n1, List.nodup_cons.2 ⟨fun hh => ?_, n2⟩, fun c hc d hd e2 => ?_⟩
      · obtain ⟨⟨u, v⟩, hu, hu2⟩ := List.mem_map.1 hh
        have hu2 : u = x := hu2
        subst hu2
        exact hnq r' v (List.mem_of_mem_drop hu)
      · rcases List.mem_cons.1 hd with hd | hd
        · obtain ⟨⟨u, v⟩, hu, hu2⟩ := List.mem_map.1 hc
          have hu2 : u = c := hu2
          have hd2 : d = x := hd
          rw [hd2] at e2
          rw [hu2, e2] at hu
          exact hnq r' v (List.mem_of_mem_take hu)
        · exact n3 c hc d hd e2
    · rw [hqo r' e]; exact h.qn r'
  · by_cases ex : y = x
    · subst ex
      constructor
      · intro hq
        by_cases e : r' = r
        · subst e
          rw [hqr, put_mem] at hq
          rcases hq with hq | hq
          · cases hq
            exact ⟨_, mWait_x, rfl, mode_ne hgm, rfl⟩
          · exact absurd hq (hnq r' g')
        · rw [hqo r' e] at hq; exact absurd hq (hnq r' g')
      · rintro ⟨q, hq, h1, h2, h3⟩
        rw [mWait_x] at hq
        cases hq
        have h3 : r = r' := h3
        have h1 : g = g' := h1
        subst h3 h1
        rw [hqr, put_mem]; exact .inl rfl
    · have h1 : (y, g') ∈ (mWait m x p r g a).qs r' ↔ (y, g') ∈ m.qs r' := by
        by_cases e : r' = r
        · subst e
          rw [hqr, put_mem]
          constructor
          · rintro (hh | hh)
            · cases hh; exact absurd rfl ex
            · exact hh
          · exact .inr
        · rw [hqo r' e]
      rw [h1, h.qm r' y g']
      constructor
      · rintro ⟨b, hb1, hb2, hb3, hb4⟩
        refine ⟨_, by rw [mWait_y ex, hb1]; rfl, ?_, hb3, ?_⟩
        · rw [(hitIf_same _ x b).2.2.2.1]; exact hb2
        · rw [(hitIf_same _ x b).2.2.1]; exact hb4
      · rintro ⟨q, hq, h1, h2, h3⟩
        obtain ⟨b, hb1, rfl⟩ := mWait_of ex hq
        rw [(hitIf_same _ x b).2.2.2.1] at h1
        rw [(hitIf_same _ x b).2.2.1] at h3
        exact ⟨b, hb1, h1, h2, h3⟩
  · rw [hhl]
    by_cases e : r' = r
    · subst e
      rw [hqr] at hz ⊢
      by_cases ex : z = x
      · subst ex
        obtain ⟨rfl, rfl⟩ := wayx hz
        obtain ⟨y, hy⟩ := hb
        exact ⟨y, (inW_put ha).2 hy⟩
      · obtain ⟨j, hj, -⟩ := way1 (y := 0) hz ex
        obtain ⟨y, hy⟩ := h.bl r' j z g' hj
        obtain ⟨j', hj', -, hw, -⟩ := way1 (y := y) hz ex
        have := nodup_at (h.qn r') hj hj'
        subst this
        exact ⟨y, hw hy⟩
    · rw [hqo r' e] at hz ⊢
      exact h.bl r' i z g' hz
  · rw [hhl] at hw
    -- a request that is not the new one
    have old : ∀ j, (m.qs r')[j]? = some (z, g') → z ≠ x → inW (m.hl r') (m.qs r') z g' j y → q'.wd z = true := fun j hj ezx hw7 => by
      obtain ⟨b, hb1, rfl⟩ := mWait_of ezx hq
      have hbh := (hitIf_same _ x b).2.2.2.2.2.2 hh
      rw [(hitIf_same _ x b).1] at hlt
      by_cases ey : y = x
      · subst ey
        rw [mWait_x] at hq'
        cases hq'
        exact paM_old (h.jw r' j z g' b hj hb1 hbh y p hw7 hp hlt)
      · obtain ⟨c, hc1, rfl⟩ := mWait_of ey hq'
        rw [(hitIf_same _ x c).1] at hlt
        exact (hitIf_same _ x c).2.2.2.2.1 z (h.jw r' j z g' b hj hb1 hbh y c hw7 hc1 hlt)
    by_cases e : r' = r
    · subst e
      rw [hqr] at hz hw
      by_cases ex : z = x
      · subst ex
        obtain ⟨rfl, rfl⟩ := wayx hz
        rw [mWait_x] at hq
        cases hq
        have hw2 := (inW_put ha).1 hw
        obtain ⟨eyx, -⟩ := h.way (fun j g2 _ hj => hnq r' g2 (List.mem_of_getElem? hj)) hw2
        obtain ⟨c, hc1, rfl⟩ := mWait_of eyx hq'
        have hlt : p.stamp < (hitIf _ z c).stamp := hlt
        rw [(hitIf_same _ z c).1] at hlt
        have hh2 : (paM m p g' ((m.qs r').drop i)).hurt = false := hh
        rw [hitIf_pos ⟨hh2, hw2, hlt⟩]
        simp [Pm.hit]
      · obtain ⟨j, hj, hdr, -, hw2⟩ := way1 (y := y) hz ex
        rcases hw2 hw with hw3 | ⟨rfl, hf, haj⟩
        · exact old j hj ex hw3
        · obtain ⟨b, hb1, rfl⟩ := mWait_of ex hq
          have hbh := (hitIf_same _ y b).2.2.2.2.2.2 hh
          rw [(hitIf_same _ y b).1] at hlt
          rw [mWait_x] at hq'
          cases hq'
          exact paM_new (hdr haj) hb1 hlt hbh hf
    · rw [hqo r' e] at hz hw
      exact old i hz (fun ex => hnq r' g' (by rw [← ex]; exact List.mem_of_getElem? hz)) hw
end
end
open Go.RowKit

/-- What holds also while an End goes on. -/
structure Iw (m : Ms) (L : List Int) (LR : List Rs) : Prop where
  lv : ∀ x p, m.lv x = some p → PIv x p L LR
  st : ∀ x y p p', m.lv x = some p → m.lv y = some p' → p.stamp = p'.stamp → x = y
  qn : ∀ r, ((m.qs r).map Prod.fst).Nodup
  qm : ∀ r x g, (x, g) ∈ m.qs r ↔ ∃ p, m.lv x = some p ∧ p.goal = g ∧ g ≠ 0 ∧ p.at_ = r
  jw : ∀ r i x g p, (m.qs r)[i]? = some (x, g) → m.lv x = some p → p.hurt = false → ∀ y p', inW (m.hl r) (m.qs r) x g i y → m.lv y = some p' → p.stamp < p'.stamp → p'.wd x = true
  ft : ∀ r y z, y ≠ z → m.hl r y ≠ 0 → m.hl r z ≠ 0 → fitB (m.hl r y) (m.hl r z) = true
/-- Of the requests on r the first a are blocked. -/
def BlA (m : Ms) (r : Rs) (a : Nat) : Prop := ∀ i x g, i < a → (m.qs r)[i]? = some (x, g) → ∃ y, inW (m.hl r) (m.qs r) x g i y
theorem Iv.w {m : Ms} {L : List Int} {LR : List Rs} (h : Iv m L LR) : Iw m L LR := ⟨h.lv, h.st, h.qn, h.qm, h.jw, h.ft⟩
theorem Iw.v {m : Ms} {L : List Int} {LR : List Rs} (h : Iw m L LR) (hb : ∀ r, BlA m r (m.qs r).length) : Iv m L LR :=
  ⟨h.lv, h.st, h.qn, h.qm, fun r i x g hq => hb r i x g (List.getElem?_eq_some_iff.1 hq).1 hq, h.jw, h.ft⟩
theorem Iv.bla {m : Ms} {L : List Int} {LR : List Rs} (h : Iv m L LR) (r : Rs) (a : Nat) : BlA m r a := fun i x g _ hq => h.bl r i x g hq
theorem cut_at {qs : List (Int × Int)} {a : Nat} (ha : a ≤ qs.length) (i : Nat) : (cutQ qs a)[i]? = if i < a then qs[i]? else qs[i + 1]? := by
  unfold cutQ
  by_cases h1 : i < a
  · rw [if_pos h1, List.getElem?_append_left (by rw [List.length_take]; omega), List.getElem?_take, if_pos h1]
  · rw [if_neg h1, List.getElem?_append_right (by rw [List.length_take]; omega), List.length_take, Nat.min_eq_left ha, List.getElem?_drop]
    congr 1
    omega
theorem cut_sub (qs : List (Int × Int)) (a : Nat) : (cutQ qs a).Sublist qs := by
  unfold cutQ
  have h1 : (qs.drop (a + 1)).Sublist (qs.drop a) := by rw [← List.drop_drop]; exact List.drop_sublist _ _
  have h2 := (List.Sublist.refl (qs.take a)).append h1
  rw [List.take_append_drop] at h2
  exact h2
/-- A cut leaves all others. -/
theorem cut_mem {qs : List (Int × Int)} {a : Nat} {y g : Int} (hq : qs[a]? = some (y, g)) (hn : (qs.map Prod.fst).Nodup) (z g' : Int) : (z, g') ∈ cutQ qs a ↔ (z, g') ∈ qs ∧ z ≠ y := by
  have ha := (List.getElem?_eq_some_iff.1 hq).1
  constructor
  · intro h
    refine ⟨(cut_sub qs a).mem h, fun e => ?_⟩
    subst e
    obtain ⟨i, hi⟩ := List.mem_iff_getElem?.1 h
    rw [cut_at (by omega)] at hi
    split at hi
    · have := nodup_at hn hq hi; omega
    · have := nodup_at hn hq hi; omega
  · rintro ⟨h, e⟩
    obtain ⟨i, hi⟩ := List.mem_iff_getElem?.1 h
    by_cases h1 : i < a
    · exact List.mem_of_getElem? (i := i) (by rw [cut_at (by omega), if_pos h1]; exact hi)
    · by_cases h2 : i = a
      · rw [h2, hq] at hi; cases hi; exact absurd rfl e
      · exact List.mem_of_getElem? (i := i - 1) (by rw [cut_at (by omega), if_neg (by omega), show i - 1 + 1 = i by omega]; exact hi)
theorem cut_len {qs : List (Int × Int)} {a : Nat} (ha : a < qs.length) : (cutQ qs a).length = qs.length - 1 := by
  unfold cutQ
  rw [List.length_append, List.length_take, List.length_drop]; omega
def mServe (m : Ms) (y : Int) (p : Pm) (r : Rs) (g : Int) (a : Nat) : Ms := ⟨upd m.lv y (some { p with hf := upd p.hf r g, at_ := r0, goal := 0 }), upd m.qs r (cutQ (m.qs r) a)⟩
section
variable {m : Ms} {L : List Int} {LR : List Rs} {y : Int} {p : Pm} {r : Rs} {g : Int} {a : Nat}
theorem mServe_hl (hp : m.lv y = some p) : (mServe m y p r g a).hl r = upd (m.hl r) y g := funext fun z => by
  by_cases e : z = y
  · subst e; rw [upd_same]; simp [Ms.hl, mServe]
  · rw [upd_other e]; simp [Ms.hl, mServe, upd_other e]
theorem mServe_ho (hp : m.lv y = some p) {r' : Rs} (e : r' ≠ r) : (mServe m y p r g a).hl r' = m.hl r' := funext fun z => by
  by_cases e2 : z = y
  · subst e2; rw [hl_some hp]; simp [Ms.hl, mServe, upd_other e]
  · simp [Ms.hl, mServe, upd_other e2]
theorem mServe_y : (mServe m y p r g a).lv y = some { p with hf := upd p.hf r g, at_ := r0, goal := 0 } := upd_same _ _ _
theorem mServe_z {z : Int} (e : z ≠ y) : (mServe m y p r g a).lv z = m.lv z := upd_other e
theorem mServe_q : (mServe m y p r g a).qs r = cutQ (m.qs r) a := upd_same _ _ _
theorem mServe_qo {r' : Rs} (e : r' ≠ r) : (mServe m y p r g a).qs r' = m.qs r' := upd_other e
/-- The others' parts stay as to stamp and wounds. -/
theorem mServe_of {z : Int} {q : Pm} (hp : m.lv y = some p) (h : (mServe m y p r g a).lv z = some q) : ∃ b, m.lv z = some b ∧ q.stamp = b.stamp ∧ q.wd = b.wd := by
  by_cases e : z = y
  · subst e; rw [mServe_y] at h; cases h; exact ⟨p, hp, rfl, rfl⟩
  · rw [mServe_z e] at h; exact ⟨q, h, rfl, rfl⟩
theorem iw_serve (h : Iw m L LR) (hq : (m.qs r)[a]? = some (y, g)) (hp : m.lv y = some p) (hnb : ¬ ∃ z, inW (m.hl r) (m.qs r) y g a z) : Iw (mServe m y p r g a) L LR := by
  have ha := (List.getElem?_eq_some_iff.1 hq).1
  have hpi := h.lv y p hp
  obtain ⟨hgo, hg0, hat⟩ : p.goal = g ∧ g ≠ 0 ∧ p.at_ = r := by
    obtain ⟨p', h1, h2, h3, h4⟩ := (h.qm r y g).1 (List.mem_of_getElem? hq)
    rw [hp] at h1; cases h1; exact ⟨h2, h3, h4⟩
  obtain ⟨hgm, hgr⟩ := hpi.g1 (by rw [hgo]; exact hg0)
  rw [hgo] at hgm
  rw [hat] at hgr
  -- whose request is left
  have left : ∀ r' z g', (z, g') ∈ (mServe m y p r g a).qs r' ↔ (z, g') ∈ m.qs r' ∧ z ≠ y := fun r' z g' => by
    by_cases e : r' = r
    · subst e; rw [mServe_q]; exact cut_mem hq (h.qn r') z g'
    · rw [mServe_qo e]
      refine ⟨fun hh => ⟨hh, fun ez => ?_⟩, fun hh => hh.1⟩
      subst ez
      obtain ⟨p', h1, -, -, h4⟩ := (h.qm r' z g').1 hh
      rw [hp] at h1; cases h1
      exact e (h4.symm.trans hat)
  refine ⟨fun z q hz => ?_, fun z u q q' hz hu e => ?_, fun r' => ?_, fun r' z g' => ?_, fun r' i z g' q hz hzl hh u q' hw hul hlt => ?_, fun r' => ?_⟩
  · by_cases e : z = y
    · subst e
      rw [mServe_y] at hz
      cases hz
      refine ⟨hpi.x1, hpi.xr, hpi.xl, hpi.s1, hpi.wd, fun r' hr' => ?_, fun _ => rfl, fun hh => absurd rfl hh, fun hh => absurd rfl hh⟩
      by_cases e : r' = r
      · subst e
        exact ⟨by show modeB (upd p.hf r' g r') = true; rw [upd_same]; exact hgm, hgr⟩
      · have e2 : upd p.hf r g r' = p.hf r' := upd_other e
        show modeB (upd p.hf r g r') = true ∧ _
        have hr2 : upd p.hf r g r' ≠ 0 := hr'
        rw [e2] at hr2 ⊢
        exact hpi.hf r' hr2
    · rw [mServe_z e] at hz; exact h.lv z q hz
  · obtain ⟨b, h1, h2, -⟩ := mServe_of hp hz
    obtain ⟨c, h3, h4, -⟩ := mServe_of hp hu
    exact h.st z u b c h1 h3 (by rw [← h2, ← h4]; exact e)
  · by_cases e : r' = r
    · subst e; rw [mServe_q]; exact (h.qn r').sublist ((cut_sub _ _).map _)
    · rw [mServe_qo e]; exact h.qn r'
  · rw [left]
    by_cases e : z = y
    · subst e
      constructor
      · rintro ⟨-, hh⟩; exact absurd rfl hh
      · rintro ⟨q, hz, h1, h2, -⟩
        rw [mServe_y] at hz; cases hz
        exact absurd h1.symm h2
    · rw [mServe_z e, h.qm r' z g']
      exact ⟨fun hh => hh.1, fun hh => ⟨hh, e⟩⟩
  · have ezy : z ≠ y := ((left r' z g').1 (List.mem_of_getElem? hz)).2
    rw [mServe_z ezy] at hzl
    obtain ⟨b, hb1, hb2, hb3⟩ := mServe_of hp hul
    rw [hb2] at hlt
    rw [hb3]
    by_cases e : r' = r
    · subst e
      rw [mServe_q] at hz hw
      rw [mServe_hl hp] at hw
      have hz2 := hz
      rw [cut_at (by omega)] at hz2
      -- where it stood
      obtain ⟨j, hj, hij⟩ : ∃ j, (m.qs r')[j]? = some (z, g') ∧ (i < a ∧ j = i ∨ ¬ i < a ∧ j = i + 1) := by
        by_cases hia : i < a
        · rw [if_pos hia] at hz2; exact ⟨i, hz2, .inl ⟨hia, rfl⟩⟩
        · rw [if_neg hia] at hz2; exact ⟨i + 1, hz2, .inr ⟨hia, rfl⟩⟩
      refine h.jw r' j z g' q hj hzl hh u b ?_ hb1 hlt
      rcases hw with ⟨h1, h2, h3⟩ | ⟨k, g2, hk, hkq, hf⟩
      · by_cases eu : u = y
        · rw [eu, upd_same] at h3
          rcases hij with ⟨hia, rfl⟩ | ⟨hia, rfl⟩
          · rw [fitB_symm] at h3
            exact absurd ⟨z, .inr ⟨j, g', hia, hj, h3⟩⟩ hnb
          · exact .inr ⟨a, g, by omega, by rw [eu]; exact hq, h3⟩
        · rw [upd_other eu] at h1 h3
          exact .inl ⟨h1, h2, h3⟩
      · rw [cut_at (by omega)] at hkq
        by_cases hka : k < a
        · rw [if_pos hka] at hkq
          exact .inr ⟨k, g2, by omega, hkq, hf⟩
        · rw [if_neg hka] at hkq
          exact .inr ⟨k + 1, g2, by omega, hkq, hf⟩
    · rw [mServe_qo e] at hz hw
      rw [mServe_ho hp e] at hw
      exact h.jw r' i z g' q hz hzl hh u b hw hb1 hlt
  · by_cases e : r' = r
    · subst e
      rw [mServe_hl hp]
      exact ft_upd (h.ft r') (fun z h1 h2 => by
        cases e4 : fitB (m.hl r' z) g with
        | true => rfl
        | false => exact absurd ⟨z, .inl ⟨h1, h2, e4⟩⟩ hnb)
    · rw [mServe_ho hp e]; exact h.ft r'
/-- Who was blocked ahead is blocked. -/
theorem bla_serve (h : Iw m L LR) (hq : (m.qs r)[a]? = some (y, g)) (hp : m.lv y = some p) (hb : BlA m r a) : BlA (mServe m y p r g a) r a := fun i z g' hi hz => by
  have ha := (List.getElem?_eq_some_iff.1 hq).1
  obtain ⟨hgo, hg0, hat⟩ : p.goal = g ∧ g ≠ 0 ∧ p.at_ = r := by
    obtain ⟨p', h1, h2, h3, h4⟩ := (h.qm r y g).1 (List.mem_of_getElem? hq)
    rw [hp] at h1; cases h1; exact ⟨h2, h3, h4⟩
  rw [mServe_q] at hz ⊢
  rw [mServe_hl hp]
  rw [cut_at (by omega), if_pos hi] at hz
  obtain ⟨u, hu⟩ := hb i z g' hi hz
  refine ⟨u, ?_⟩
  rcases hu with ⟨h1, h2, h3⟩ | ⟨k, g2, hk, hkq, hf⟩
  · by_cases eu : u = y
    · refine .inl ⟨by rw [eu, upd_same]; exact hg0, h2, ?_⟩
      rw [eu, upd_same, ← hgo]
      rw [eu, hl_some hp, ← hat] at h1 h3
      have hgz : modeB g' = true := by
        obtain ⟨q, h5, h6, h7, -⟩ := (h.qm r z g').1 (List.mem_of_getElem? hz)
        have := ((h.lv z q h5).g1 (by rw [h6]; exact h7)).1
        rw [h6] at this; exact this
      exact (h.lv y p hp).up (by rw [hgo]; exact hg0) h1 g' hgz h3
    · exact .inl ⟨by rw [upd_other eu]; exact h1, h2, by rw [upd_other eu]; exact h3⟩
  · exact .inr ⟨k, g2, hk, by rw [cut_at (by omega), if_pos (by omega)]; exact hkq, hf⟩
theorem bla_other (hp : m.lv y = some p) {r' : Rs} (e : r' ≠ r) {b : Nat} (hb : BlA m r' b) : BlA (mServe m y p r g a) r' b := fun i z g' hi hz => by
  rw [mServe_qo e] at hz ⊢
  rw [mServe_ho hp e]
  exact hb i z g' hi hz
end
end
open Go.RowKit

def noX (x : Int) (l : List (Int × Int)) : List (Int × Int) := l.filter fun o => o.1 != x
theorem noX_mem {x : Int} {l : List (Int × Int)} {o : Int × Int} : o ∈ noX x l ↔ o ∈ l ∧ o.1 ≠ x := by unfold noX; rw [List.mem_filter]; simp
theorem noX_none {x : Int} {l : List (Int × Int)} (h : ∀ g, (x, g) ∉ l) : noX x l = l := List.filter_eq_self.2 (fun o ho => by
  have : o.1 ≠ x := fun e => h o.2 (by rw [← e]; exact ho)
  simpa using this)
theorem noX_cut {x g : Int} {l : List (Int × Int)} {k : Nat} (hn : (l.map Prod.fst).Nodup) (hk : l[k]? = some (x, g)) : noX x l = cutQ l k := by
  obtain ⟨hlt, hke⟩ := List.getElem?_eq_some_iff.1 hk
  have hsp : l = l.take k ++ (x, g) :: l.drop (k + 1) := by
    rw [← hke, ← List.drop_eq_getElem_cons hlt, List.take_append_drop]
  have h1 : (l.take k).filter (fun o => o.1 != x) = l.take k := List.filter_eq_self.2 (fun o ho => by
    have : o.1 ≠ x := fun e => by
      obtain ⟨i, hi⟩ := List.mem_iff_getElem?.1 ho
      rw [List.getElem?_take] at hi
      by_cases hik : i < k
      · rw [if_pos hik] at hi
        have hi2 : l[i]? = some (x, o.2) := by rw [hi, ← e]
        have := nodup_at hn hi2 hk
        omega
      · rw [if_neg hik] at hi; cases hi
    simpa using this)
  have h2 : (l.drop (k + 1)).filter (fun o => o.1 != x) = l.drop (k + 1) := List.filter_eq_self.2 (fun o ho => by
    have : o.1 ≠ x := fun e => by
      obtain ⟨i, hi⟩ := List.mem_iff_getElem?.1 ho
      rw [List.getElem?_drop] at hi
      have hi2 : l[k + 1 + i]? = some (x, o.2) := by rw [hi, ← e]
      have := nodup_at hn hi2 hk
      omega
    simpa using this)
  show l.filter (fun o => o.1 != x) = cutQ l k
  unfold cutQ
  have h3 : l.filter (fun o => o.1 != x) = (l.take k ++ (x, g) :: l.drop (k + 1)).filter (fun o => o.1 != x) := by rw [← hsp]
  rw [h3, List.filter_append, List.filter_cons_of_neg (by simp), h1, h2]
/-- A transaction is no more. -/
def mDel (m : Ms) (x : Int) : Ms := ⟨upd m.lv x none, fun r => noX x (m.qs r)⟩
section
variable {m : Ms} {L : List Int} {LR : List Rs} {x : Int} {p : Pm}
theorem mDel_hl (r : Rs) : (mDel m x).hl r = upd (m.hl r) x 0 := funext fun z => by
  by_cases e : z = x
  · subst e; rw [upd_same]; simp [Ms.hl, mDel]
  · rw [upd_other e]; simp [Ms.hl, mDel, upd_other e]
theorem mDel_lv {z : Int} {q : Pm} : (mDel m x).lv z = some q ↔ z ≠ x ∧ m.lv z = some q := by
  by_cases e : z = x
  · subst e
    have : (mDel m z).lv z = none := upd_same _ _ _
    rw [this]
    constructor
    · intro h; cases h
    · rintro ⟨h, -⟩; exact absurd rfl h
  · have : (mDel m x).lv z = m.lv z := upd_other e
    rw [this]
    exact ⟨fun h => ⟨e, h⟩, fun h => h.2⟩
theorem del_way (h : Iv m L LR) {r : Rs} {i : Nat} {z g : Int} (hz : ((mDel m x).qs r)[i]? = some (z, g)) : z ≠ x ∧ ∃ j, (m.qs r)[j]? = some (z, g) ∧ ∀ u, inW ((mDel m x).hl r) ((mDel m x).qs r) z g i u → inW (m.hl r) (m.qs r) z g j u := by
  have hzx : z ≠ x := (noX_mem.1 (List.mem_of_getElem? hz)).2
  refine ⟨hzx, ?_⟩
  have hold : ∀ u, inW1 ((mDel m x).hl r) z g u → inW1 (m.hl r) z g u := by
    rintro u ⟨h1, h2, h3⟩
    rw [mDel_hl] at h1 h3
    by_cases e : u = x
    · rw [e, upd_same] at h1; exact absurd rfl h1
    · rw [upd_other e] at h1 h3; exact ⟨h1, h2, h3⟩
  by_cases hx : ∃ g', (x, g') ∈ m.qs r
  · obtain ⟨g', hx⟩ := hx
    obtain ⟨k, hk⟩ := List.mem_iff_getElem?.1 hx
    have hkl := (List.getElem?_eq_some_iff.1 hk).1
    have e : (mDel m x).qs r = cutQ (m.qs r) k := noX_cut (h.qn r) hk
    rw [e] at hz ⊢
    rw [cut_at (by omega)] at hz
    by_cases hik : i < k
    · rw [if_pos hik] at hz
      refine ⟨i, hz, ?_⟩
      rintro u (hu | ⟨j, g2, hj, hq, hf⟩)
      · exact .inl (hold u hu)
      · rw [cut_at (by omega), if_pos (by omega)] at hq
        exact .inr ⟨j, g2, hj, hq, hf⟩
    · rw [if_neg hik] at hz
      refine ⟨i + 1, hz, ?_⟩
      rintro u (hu | ⟨j, g2, hj, hq, hf⟩)
      · exact .inl (hold u hu)
      · rw [cut_at (by omega)] at hq
        by_cases hjk : j < k
        · rw [if_pos hjk] at hq; exact .inr ⟨j, g2, by omega, hq, hf⟩
        · rw [if_neg hjk] at hq; exact .inr ⟨j + 1, g2, by omega, hq, hf⟩
  · have e : (mDel m x).qs r = m.qs r := noX_none (fun g' hg => hx ⟨g', hg⟩)
    rw [e] at hz ⊢
    refine ⟨i, hz, ?_⟩
    rintro u (hu | hu)
    · exact .inl (hold u hu)
    · exact .inr hu
theorem iw_del (h : Iv m L LR) : Iw (mDel m x) L LR := by
  refine ⟨fun z q hz => h.lv z q (mDel_lv.1 hz).2, fun z u q q' hz hu e => h.st z u q q' (mDel_lv.1 hz).2 (mDel_lv.1 hu).2 e, fun r => (h.qn r).sublist (List.filter_sublist.map _), fun r z g => ?_, fun r i z g q hz hzl hh u q' hw hul hlt => ?_, fun r y z e h1 h2 => ?_⟩
  · have : (z, g) ∈ (mDel m x).qs r ↔ _ := noX_mem
    rw [this, h.qm r z g]
    constructor
    · rintro ⟨⟨q, h1, h2⟩, h3⟩; exact ⟨q, mDel_lv.2 ⟨h3, h1⟩, h2⟩
    · rintro ⟨q, h1, h2⟩; exact ⟨⟨q, (mDel_lv.1 h1).2, h2⟩, (mDel_lv.1 h1).1⟩
  · obtain ⟨-, j, hj, hway⟩ := del_way h hz
    exact h.jw r j z g q hj (mDel_lv.1 hzl).2 hh u q' (hway u hw) (mDel_lv.1 hul).2 hlt
  · rw [mDel_hl] at h1 h2 ⊢
    have e1 : y ≠ x := fun e1 => by rw [e1, upd_same] at h1; exact h1 rfl
    have e2 : z ≠ x := fun e2 => by rw [e2, upd_same] at h2; exact h2 rfl
    rw [upd_other e1] at h1 ⊢
    rw [upd_other e2] at h2 ⊢
    exact h.ft r y z e h1 h2
/-- Where it neither held nor asked all stays. -/
theorem bla_del (h : Iv m L LR) {r : Rs} (h0 : m.hl r x = 0) (hq : ∀ g, (x, g) ∉ m.qs r) (a : Nat) : BlA (mDel m x) r a := by
  have e1 : (mDel m x).qs r = m.qs r := noX_none hq
  have e2 : (mDel m x).hl r = m.hl r := by
    rw [mDel_hl]
    refine funext fun z => ?_
    by_cases e : z = x
    · rw [e, upd_same, h0]
    · rw [upd_other e]
  intro i z g hi hz
  rw [e1] at hz ⊢
  rw [e2]
  exact h.bl r i z g hz
end
/-- The requests on r from the a-th on are served. -/
noncomputable def srvM (r : Rs) : Nat → Ms → Nat → List Int → Ms × List Int
  | 0, m, _, out => (m, out)
  | f + 1, m, a, out => match (m.qs r)[a]? with
    | none => (m, out)
    | some (y, g) => @ite _ (∃ z, inW (m.hl r) (m.qs r) y g a z) (Classical.propDecidable _) (srvM r f m (a + 1) out) (match m.lv y with
      | none => (m, out)
      | some p => srvM r f (mServe m y p r g a) a (out ++ [y]))
theorem srvM_blk {r : Rs} {f : Nat} {m : Ms} {a : Nat} {out : List Int} {y g : Int} (hq : (m.qs r)[a]? = some (y, g)) (hb : ∃ z, inW (m.hl r) (m.qs r) y g a z) : srvM r (f + 1) m a out = srvM r f m (a + 1) out := by
  simp only [srvM, hq]
  exact @if_pos _ (Classical.propDecidable _) hb _ _ _
theorem srvM_get {r : Rs} {f : Nat} {m : Ms} {a : Nat} {out : List Int} {y g : Int} {p : Pm} (hq : (m.qs r)[a]? = some (y, g)) (hb : ¬ ∃ z, inW (m.hl r) (m.qs r) y g a z) (hp : m.lv y = some p) : srvM r (f + 1) m a out = srvM r f (mServe m y p r g a) a (out ++ [y]) := by
  simp only [srvM, hq, hp]
  exact @if_neg _ (Classical.propDecidable _) hb _ _ _
/-- End: x goes, then its places are served. -/
noncomputable def endF (t : Ms × List Int) (r : Rs) : Ms × List Int := ((srvM r (t.1.qs r).length t.1 0 []).1, t.2 ++ (srvM r (t.1.qs r).length t.1 0 []).2)
noncomputable def endM (m : Ms) (x : Int) (rs : List Rs) : Ms × List Int := rs.foldl endF (mDel m x, [])
theorem endM_step {m : Ms} {x : Int} {rs : List Rs} {n : Nat} {r : Rs} (h : rs[n]? = some r) : endM m x (rs.take (n + 1)) = endF (endM m x (rs.take n)) r := by
  unfold endM
  rw [List.take_add_one, h, List.foldl_append]
  rfl
end Go.Proofs.YtkbgifhhnnfgoaaGreatDoor
