/- Paths: what PathsTogether's walk wants. -/
import Derived.Test.YtemkilffagjmcaaDoorPj10
import Derived.Test.YtemkilffagjmcaaDoorPl2
import Derived.Test.YtemkilffagjmcaaDoorPx1
import Derived.Test.YtemkilffagjmcaaDoorPz23
import Derived.Test.YtemkilffagjmcaaDoorPn2
namespace Go.Proofs.YtemkilffagjmcaaDoor
section
section

/-- There is a walk of that sum. -/
inductive Dst (hops : Bool) (rs : List Nr) (tail : Bool) (from_ : Int) : Int → Int → Prop
  | base : Dst hops rs tail from_ from_ 0
  | step {u s : Int} {a : Ar} : Dst hops rs tail from_ u s → a ∈ (netOf rs tail u).1 → Dst hops rs tail from_ a.2.1 (s + wei hops a)
/-- A net without errors, whose weights are small, and whose nodes are all among E. -/
structure Mild (hops : Bool) (rs : List Nr) (tail : Bool) (E : List Int) : Prop where
  code : ∀ id, (netOf rs tail id).2 = 0
  wt : ∀ id, ∀ a ∈ (netOf rs tail id).1, 0 ≤ wei hops a ∧ wei hops a ≤ 1048576
  ends : ∀ id, ∀ a ∈ (netOf rs tail id).1, a.2.1 ∈ E
  few : E.length ≤ 1000
/-- The least sum. -/
def IsD (hops : Bool) (rs : List Nr) (tail : Bool) (from_ u s : Int) : Prop := Dst hops rs tail from_ u s ∧ ∀ s', Dst hops rs tail from_ u s' → s ≤ s'
/-- What holds ahead of each settling. -/
structure Dj (hops : Bool) (rs : List Nr) (tail : Bool) (from_ most : Int) (E : List Int) (st near : List Sn) : Prop where
  d1 : ∀ p ∈ st, IsD hops rs tail from_ p.1 p.2
  d2 : ∀ p ∈ near, Dst hops rs tail from_ p.1 p.2
  d3 : ∀ p ∈ st, (most < 0 ∨ p.2 < most) → ∀ a ∈ (netOf rs tail p.1).1, (∃ q ∈ st, q.1 = a.2.1) ∨ ∃ q ∈ near, q.1 = a.2.1 ∧ q.2 ≤ p.2 + wei hops a
  d4 : ∀ p ∈ st, ∀ q ∈ near, p.2 ≤ q.2
  d5 : (st.map (·.1)).Nodup
  d6 : (near.map (·.1)).Nodup
  d7 : ∀ p ∈ st, ∀ q ∈ near, p.1 ≠ q.1
  d8 : ∀ p ∈ st, p.1 ∈ E
  d9 : ∀ p ∈ near, p.1 ∈ E
  d10 : ∀ p ∈ near, 0 ≤ p.2 ∧ p.2 ≤ (st.length : Int) * 1048576
  d11 : (∃ p ∈ st, p.1 = from_) ∨ ∃ p ∈ near, p.1 = from_ ∧ p.2 = 0
  d12 : ∀ p, p ∈ st ∨ p ∈ near → most < 0 ∨ p.2 ≤ most
  d13 : hops = true → st.Pairwise (fun p q => before p q = true) ∧ ∀ p ∈ st, ∀ q ∈ near, before p q = true
theorem pick {near : List Sn} (h : near ≠ []) (hn : (near.map (·.1)).Nodup) : near[nextI near]! ∈ near ∧ (∀ q ∈ near, before q near[nextI near]! = false) ∧ ∀ q, q ∈ near.eraseIdx (nextI near) ↔ q ∈ near ∧ q.1 ≠ (near[nextI near]!).1 := by
  obtain ⟨hk, hb⟩ := nextI_ok h
  have e := Hp.get_of (l := near) hk
  refine ⟨by rw [e]; exact List.getElem_mem _, fun q hq => ?_, fun q => ?_⟩
  · obtain ⟨j, hj, rfl⟩ := List.getElem_of_mem hq
    have := hb j hj
    rwa [Hp.get_of hj] at this
  · rw [List.mem_eraseIdx_iff_getElem, e]
    have inj : ∀ i j (hi : i < near.length) (hj : j < near.length), (near[i]).1 = (near[j]).1 → i = j := fun i j hi hj he => by
      exact (List.getElem_inj (xs := near.map (·.1)) (i := i) (j := j) (h₀ := by simpa using hi) (h₁ := by simpa using hj) hn).1 (by simpa using he)
    constructor
    · rintro ⟨i, hi, hne, rfl⟩
      exact ⟨List.getElem_mem _, fun he => hne (inj _ _ hi hk he)⟩
    · rintro ⟨hq, hne⟩
      obtain ⟨i, hi, rfl⟩ := List.getElem_of_mem hq
      exact ⟨i, hi, fun he => hne (by subst he; rfl), rfl⟩
/-- The arcs of the settled node are followed. -/
theorem relax_ok (hops : Bool) (s : Int) (st : List Sn) (hs : 0 ≤ s ∧ s ≤ 1098437885952) : ∀ (arcs : List Ar) (near : List Sn), (∀ a ∈ arcs, 0 ≤ wei hops a ∧ wei hops a ≤ 1048576) → (near.map (·.1)).Nodup → (∀ p ∈ st, ∀ q ∈ near, p.1 ≠ q.1) →
    ∃ near2, relaxR hops s st arcs near = (0, near2) ∧ (∀ q ∈ near2, q ∈ near ∨ ∃ a ∈ arcs, q.1 = a.2.1 ∧ q.2 = s + wei hops a) ∧ (∀ q ∈ near, ∃ q' ∈ near2, q'.1 = q.1 ∧ q'.2 ≤ q.2) ∧
      (∀ a ∈ arcs, (∃ p ∈ st, p.1 = a.2.1) ∨ ∃ q ∈ near2, q.1 = a.2.1 ∧ q.2 ≤ s + wei hops a) ∧ (near2.map (·.1)).Nodup ∧ ∀ p ∈ st, ∀ q ∈ near2, p.1 ≠ q.1
  | [], near, _, hn, hd => ⟨near, rfl, fun q hq => .inl hq, fun q hq => ⟨q, hq, rfl, Int.le_refl _⟩, fun a ha => by simp at ha, hn, hd⟩
  | a :: r, near, hw, hn, hd => by
    obtain ⟨h0, h1⟩ := hw a (by simp)
    have hw' : ∀ a ∈ r, 0 ≤ wei hops a ∧ wei hops a ≤ 1048576 := fun b hb => hw b (by simp [hb])
    unfold relaxR
    rw [if_neg (by omega), if_neg (by omega)]
    by_cases hst : st.any (fun p => p.1 == a.2.1) = true
    · rw [if_pos hst]
      obtain ⟨near2, e, k1, k2, k3, k4, k5⟩ := relax_ok hops s st hs r near hw' hn hd
      refine ⟨near2, e, fun q hq => (k1 q hq).imp_right (fun ⟨b, hb, q⟩ => ⟨b, by simp [hb], q⟩), k2, fun b hb => ?_, k4, k5⟩
      rcases List.mem_cons.1 hb with rfl | hb
      · obtain ⟨p, hp, hpe⟩ := List.any_eq_true.1 hst
        exact .inl ⟨p, hp, by simpa using hpe⟩
      · exact k3 b hb
    · rw [if_neg hst]
      have hno : ∀ p ∈ st, p.1 ≠ a.2.1 := fun p hp he => hst (List.any_eq_true.2 ⟨p, hp, by simpa using he⟩)
      have hn2 : ((sightL near a.2.1 (s + wei hops a)).map (·.1)).Nodup := sight_nodup hn
      have hd2 : ∀ p ∈ st, ∀ q ∈ sightL near a.2.1 (s + wei hops a), p.1 ≠ q.1 := fun p hp q hq => by
        rcases (sight_mem hn).1 hq with ⟨q1, _⟩ | ⟨q1, _⟩
        · exact hd p hp q q1
        · rw [q1]; exact hno p hp
      obtain ⟨near2, e, k1, k2, k3, k4, k5⟩ := relax_ok hops s st hs r _ hw' hn2 hd2
      refine ⟨near2, e, fun q hq => ?_, fun q hq => ?_, fun b hb => ?_, k4, k5⟩
      · rcases k1 q hq with q1 | ⟨b, hb, q2⟩
        · rcases (sight_mem hn).1 q1 with ⟨q1, _⟩ | ⟨q1, ⟨_, q3⟩ | ⟨q', hq', hqe, q3⟩⟩
          · exact .inl q1
          · exact .inr ⟨a, by simp, q1, q3⟩
          · by_cases hle : q'.2 ≤ s + wei hops a
            · rw [Int.min_eq_left hle] at q3
              exact .inl (by rw [show q = q' from Prod.ext (q1.trans hqe.symm) q3]; exact hq')
            · rw [Int.min_eq_right (by omega)] at q3
              exact .inr ⟨a, by simp, q1, q3⟩
        · exact .inr ⟨b, by simp [hb], q2⟩
      · have : ∃ q' ∈ sightL near a.2.1 (s + wei hops a), q'.1 = q.1 ∧ q'.2 ≤ q.2 := by
          by_cases hqe : q.1 = a.2.1
          · exact ⟨(a.2.1, min q.2 (s + wei hops a)), (sight_mem hn).2 (.inr ⟨rfl, .inr ⟨q, hq, hqe, rfl⟩⟩), hqe.symm, Int.min_le_left _ _⟩
          · exact ⟨q, (sight_mem hn).2 (.inl ⟨hq, hqe⟩), rfl, Int.le_refl _⟩
        obtain ⟨q', h1, h2, h3⟩ := this
        obtain ⟨q2, h4, h5, h6⟩ := k2 q' h1
        exact ⟨q2, h4, h5.trans h2, Int.le_trans h6 h3⟩
      · rcases List.mem_cons.1 hb with rfl | hb
        · have : ∃ q' ∈ sightL near b.2.1 (s + wei hops b), q'.1 = b.2.1 ∧ q'.2 ≤ s + wei hops b := by
            by_cases hex : ∃ q ∈ near, q.1 = b.2.1
            · obtain ⟨q, hq, hqe⟩ := hex
              exact ⟨(b.2.1, min q.2 (s + wei hops b)), (sight_mem hn).2 (.inr ⟨rfl, .inr ⟨q, hq, hqe, rfl⟩⟩), rfl, Int.min_le_right _ _⟩
            · exact ⟨(b.2.1, s + wei hops b), (sight_mem hn).2 (.inr ⟨rfl, .inl ⟨fun q hq he => hex ⟨q, hq, he⟩, rfl⟩⟩), rfl, Int.le_refl _⟩
          obtain ⟨q', h1, h2, h3⟩ := this
          obtain ⟨q2, h4, h5, h6⟩ := k2 q' h1
          exact .inr ⟨q2, h4, h5.trans h2, Int.le_trans h6 h3⟩
        · exact k3 b hb
section
variable {hops : Bool} {rs : List Nr} {tail : Bool} {from_ most : Int} {E : List Int} {st near : List Sn}
/-- Who is reached within most stands there, or one that is no farther is in sight. -/
theorem Dj.near_ (m : Mild hops rs tail E) (hmo : most < 0 ∨ hops = true) (k : Dj hops rs tail from_ most E st near) : ∀ {u s : Int}, Dst hops rs tail from_ u s → (most < 0 ∨ s ≤ most) → (∃ p ∈ st, p.1 = u) ∨ ∃ q ∈ near, q.2 ≤ s := by
  intro u s h
  induction h with
  | base =>
    intro _
    rcases k.d11 with h | ⟨p, hp, _, h0⟩
    · exact .inl h
    · exact .inr ⟨p, hp, by omega⟩
  | step h ha ih =>
    rename_i u s a
    intro hm
    have hw := m.wt _ a ha
    rcases ih (by omega) with ⟨p, hp, he⟩ | ⟨q, hq, hle⟩
    · have h1 := (k.d1 p hp).2 s (by rw [he]; exact h)
      have hlt : most < 0 ∨ p.2 < most := by
        rcases hm with hm | hm
        · exact .inl hm
        · rcases hmo with q | q
          · exact .inl q
          · subst q
            have : wei true a = 1 := rfl
            right; omega
      rcases k.d3 p hp hlt a (by rw [he]; exact ha) with h2 | ⟨q, hq, h3, h4⟩
      · exact .inl h2
      · exact .inr ⟨q, hq, by omega⟩
    · exact .inr ⟨q, hq, by omega⟩
theorem Dj.few (m : Mild hops rs tail E) (k : Dj hops rs tail from_ most E st near) : st.length ≤ 1000 := by
  have := k.d5.length_le_of_subset (l₂ := E) (fun x hx => by obtain ⟨p, hp, rfl⟩ := List.mem_map.1 hx; exact k.d8 p hp)
  rw [List.length_map] at this
  exact Nat.le_trans this m.few
theorem Dj.isD (m : Mild hops rs tail E) (hmo : most < 0 ∨ hops = true) (k : Dj hops rs tail from_ most E st near) (hne : near ≠ []) : IsD hops rs tail from_ (near[nextI near]!).1 (near[nextI near]!).2 := by
  obtain ⟨hx, hmin, -⟩ := pick hne k.d6
  refine ⟨k.d2 _ hx, fun s' h => ?_⟩
  by_cases hs : most < 0 ∨ s' ≤ most
  · rcases k.near_ m hmo h hs with ⟨p, hp, he⟩ | ⟨q, hq, hle⟩
    · exact absurd he (k.d7 p hp _ hx)
    · have := hmin q hq
      rw [← Bool.not_eq_true, before_iff] at this
      omega
  · have := k.d12 _ (.inr hx)
    omega
/-- The next one is settled. -/
theorem Dj.step (m : Mild hops rs tail E) (hmo : most < 0 ∨ hops = true) (k : Dj hops rs tail from_ most E st near) (hne : near ≠ []) (near2 : List Sn)
    (k1 : ∀ q ∈ near2, q ∈ near.eraseIdx (nextI near) ∨ ((most < 0 ∨ (near[nextI near]!).2 < most) ∧ ∃ a ∈ (netOf rs tail (near[nextI near]!).1).1, q.1 = a.2.1 ∧ q.2 = (near[nextI near]!).2 + wei hops a))
    (k2 : ∀ q ∈ near.eraseIdx (nextI near), ∃ q' ∈ near2, q'.1 = q.1 ∧ q'.2 ≤ q.2)
    (k3 : (most < 0 ∨ (near[nextI near]!).2 < most) → ∀ a ∈ (netOf rs tail (near[nextI near]!).1).1, (∃ p ∈ st ++ [near[nextI near]!], p.1 = a.2.1) ∨ ∃ q ∈ near2, q.1 = a.2.1 ∧ q.2 ≤ (near[nextI near]!).2 + wei hops a)
    (k4 : (near2.map (·.1)).Nodup) (k5 : ∀ p ∈ st ++ [near[nextI near]!], ∀ q ∈ near2, p.1 ≠ q.1) : Dj hops rs tail from_ most E (st ++ [near[nextI near]!]) near2 := by
  have hD := k.isD m hmo hne
  obtain ⟨hx, hmin, her⟩ := pick hne k.d6
  generalize near[nextI near]! = x at *
  generalize near.eraseIdx (nextI near) = near' at *
  have hmn : ∀ q ∈ near, x.2 ≤ q.2 := fun q hq => by
    have := hmin q hq
    rw [← Bool.not_eq_true, before_iff] at this
    omega
  have hb : ∀ q ∈ near, q.1 ≠ x.1 → before x q = true := fun q hq hqe => by
    have := hmin q hq
    rw [← Bool.not_eq_true, before_iff] at this
    rw [before_iff]
    omega
  have mem : ∀ p, p ∈ st ++ [x] ↔ p ∈ st ∨ p = x := fun p => by simp
  have hx0 := k.d10 x hx
  -- who is in sight then: an old one, or one behind x
  have cas : ∀ q ∈ near2, (q ∈ near ∧ q.1 ≠ x.1) ∨ ((most < 0 ∨ x.2 < most) ∧ ∃ a ∈ (netOf rs tail x.1).1, q.1 = a.2.1 ∧ q.2 = x.2 + wei hops a) := fun q hq => (k1 q hq).imp_left (her q).1
  -- an old one that is in sight, or x
  have old : ∀ q ∈ near, q.1 = x.1 ∨ ∃ q' ∈ near2, q'.1 = q.1 ∧ q'.2 ≤ q.2 := fun q hq => by
    by_cases hqe : q.1 = x.1
    · exact .inl hqe
    · exact .inr (k2 q ((her q).2 ⟨hq, hqe⟩))
  refine ⟨fun p hp => ?_, fun q hq => ?_, fun p hp hlt a ha => ?_, fun p hp q hq => ?_, ?_, k4, k5, fun p hp => ?_, fun q hq => ?_, fun q hq => ?_, ?_, fun p hp => ?_, fun hh => ⟨?_, fun p hp q hq => ?_⟩⟩
  · rcases (mem p).1 hp with hp | rfl
    · exact k.d1 p hp
    · exact hD
  · rcases cas q hq with ⟨h, _⟩ | ⟨_, a, ha, h1, h2⟩
    · exact k.d2 q h
    · rw [h1, h2]
      exact .step hD.1 ha
  · rcases (mem p).1 hp with hp | rfl
    · rcases k.d3 p hp hlt a ha with ⟨q, hq, h1⟩ | ⟨q, hq, h1, h2⟩
      · exact .inl ⟨q, (mem q).2 (.inl hq), h1⟩
      · rcases old q hq with hqe | ⟨q', h3, h4, h5⟩
        · exact .inl ⟨x, (mem x).2 (.inr rfl), hqe.symm.trans h1⟩
        · exact .inr ⟨q', h3, h4.trans h1, by omega⟩
    · exact k3 hlt a ha
  · have hpx : p.2 ≤ x.2 := by
      rcases (mem p).1 hp with hp | rfl
      · exact k.d4 p hp x hx
      · exact Int.le_refl _
    rcases cas q hq with ⟨h, _⟩ | ⟨_, a, ha, h1, h2⟩
    · have := hmn q h
      omega
    · have := m.wt _ a ha
      omega
  · rw [List.map_append, List.nodup_append]
    refine ⟨k.d5, by simp, fun a ha b hb => ?_⟩
    obtain ⟨p, hp, rfl⟩ := List.mem_map.1 ha
    simp at hb
    rw [hb]
    exact k.d7 p hp x hx
  · rcases (mem p).1 hp with hp | rfl
    · exact k.d8 p hp
    · exact k.d9 _ hx
  · rcases cas q hq with ⟨h, _⟩ | ⟨_, a, ha, h1, h2⟩
    · exact k.d9 q h
    · rw [h1]; exact m.ends _ a ha
  · have hl : ((st ++ [x]).length : Int) = st.length + 1 := by simp
    rw [hl]
    rcases cas q hq with ⟨h, _⟩ | ⟨_, a, ha, h1, h2⟩
    · have := k.d10 q h
      omega
    · have := m.wt _ a ha
      omega
  · rcases k.d11 with ⟨p, hp, h⟩ | ⟨p, hp, h1, h2⟩
    · exact .inl ⟨p, (mem p).2 (.inl hp), h⟩
    · rcases old p hp with hqe | ⟨q', h3, h4, h5⟩
      · exact .inl ⟨x, (mem x).2 (.inr rfl), hqe.symm.trans h1⟩
      · refine .inr ⟨q', h3, h4.trans h1, ?_⟩
        have : 0 ≤ q'.2 := by
          rcases cas q' h3 with ⟨h, _⟩ | ⟨_, a, ha, h6, h7⟩
          · exact (k.d10 q' h).1
          · have := m.wt _ a ha
            omega
        omega
  · rcases hp with hp | hp
    · rcases (mem p).1 hp with hp | rfl
      · exact k.d12 p (.inl hp)
      · exact k.d12 _ (.inr hx)
    · rcases cas p hp with ⟨h, _⟩ | ⟨hlt, a, ha, h1, h2⟩
      · exact k.d12 p (.inr h)
      · rcases hmo with q | q
        · exact .inl q
        · subst q
          have : wei true a = 1 := rfl
          omega
  · rw [List.pairwise_append]
    refine ⟨(k.d13 hh).1, by simp, fun p hp q hq => ?_⟩
    simp at hq
    rw [hq]
    exact (k.d13 hh).2 p hp x hx
  · rcases cas q hq with ⟨h, hqe⟩ | ⟨_, a, ha, h1, h2⟩
    · rcases (mem p).1 hp with hp | rfl
      · exact (k.d13 hh).2 p hp q h
      · exact hb q h hqe
    · have hpx : p.2 ≤ x.2 := by
        rcases (mem p).1 hp with hp | rfl
        · exact k.d4 p hp x hx
        · exact Int.le_refl _
      subst hh
      have : wei true a = 1 := rfl
      rw [before_iff]
      left; omega
/-- What a search comes to, in a mild net. -/
structure DjEnd (hops : Bool) (rs : List Nr) (tail : Bool) (from_ most : Int) (E : List Int) (aim : Option Int) (R : Rs) : Prop where
  code : R.code = 0
  res : (R.hit = true ∧ ∃ st2 s t, aim = some t ∧ R.st = st2 ++ [(t, s)] ∧ IsD hops rs tail from_ t s ∧ ∀ p ∈ st2, IsD hops rs tail from_ p.1 p.2) ∨ (R.hit = false ∧ Dj hops rs tail from_ most E R.st [] ∧ ∀ p ∈ R.st, aim ≠ some p.1)
theorem dij (m : Mild hops rs tail E) (hmo : most < 0 ∨ hops = true) (aim : Option Int) : ∀ (f : Nat) (st near : List Sn) (asked : List Int), Dj hops rs tail from_ most E st near → 4097 ≤ st.length + f → (∀ p ∈ st, aim ≠ some p.1) → DjEnd hops rs tail from_ most E aim (srch hops rs tail aim most f st near asked)
  | 0, st, near, asked, k, hf, _ => by have := k.few m; omega
  | f + 1, st, near, asked, k, hf, hno => by
    have hfew := k.few m
    by_cases hne : near = []
    · subst hne
      rw [srch_none]
      exact ⟨rfl, .inr ⟨rfl, k, hno⟩⟩
    · have h4 : st.length ≠ 4096 := by omega
      by_cases ha : aim = some (near[nextI near]!).1
      · rw [srch_hit hne h4 ha]
        exact ⟨rfl, .inl ⟨rfl, st, (near[nextI near]!).2, (near[nextI near]!).1, ha, rfl, k.isD m hmo hne, k.d1⟩⟩
      · obtain ⟨hx, hmin, her⟩ := pick hne k.d6
        have hnd : ((near.eraseIdx (nextI near)).map (·.1)).Nodup := List.Nodup.sublist ((List.eraseIdx_sublist _ _).map _) k.d6
        have hdj : ∀ p ∈ st ++ [near[nextI near]!], ∀ q ∈ near.eraseIdx (nextI near), p.1 ≠ q.1 := fun p hp q hq => by
          obtain ⟨hq', hqe⟩ := (her q).1 hq
          rcases List.mem_append.1 hp with hp | hp
          · exact k.d7 p hp q hq'
          · rw [List.mem_singleton.1 hp]; exact fun e => hqe e.symm
        have hno2 : ∀ p ∈ st ++ [near[nextI near]!], aim ≠ some p.1 := fun p hp => by
          rcases List.mem_append.1 hp with hp | hp
          · exact hno p hp
          · rw [List.mem_singleton.1 hp]; exact ha
        have hl : (st ++ [near[nextI near]!]).length = st.length + 1 := by simp
        by_cases hm : most < 0 ∨ (near[nextI near]!).2 < most
        · have h10 := k.d10 _ hx
          obtain ⟨near2, e, k1, k2, k3, k4, k5⟩ := relax_ok hops (near[nextI near]!).2 (st ++ [near[nextI near]!]) (by omega) (netOf rs tail (near[nextI near]!).1).1 (near.eraseIdx (nextI near)) (m.wt _) hnd hdj
          rw [srch_go hne h4 ha hm (m.code _) (by rw [e]), e]
          refine dij m hmo aim f _ near2 _ (k.step m hmo hne near2 (fun q hq => (k1 q hq).imp_right (fun q => ⟨hm, q⟩)) k2 (fun _ => k3) k4 k5) (by omega) hno2
        · rw [srch_on hne h4 ha hm]
          exact dij m hmo aim f _ _ _ (k.step m hmo hne _ (fun q hq => .inl hq) (fun q hq => ⟨q, hq, rfl, Int.le_refl _⟩) (fun h => absurd h hm) hnd hdj) (by omega) hno2
theorem Dj.init (hE : from_ ∈ E) (hm : most < 0 ∨ 0 ≤ most) : Dj hops rs tail from_ most E [] [(from_, 0)] :=
  ⟨fun p hp => by simp at hp, fun p hp => by simp at hp; subst hp; exact .base, fun p hp => by simp at hp, fun p hp => by simp at hp, by simp, by simp, fun p hp => by simp at hp, fun p hp => by simp at hp, fun p hp => by simp at hp; subst hp; exact hE, fun p hp => by simp at hp; subst hp; simp, .inr ⟨(from_, 0), by simp, rfl, rfl⟩, fun p hp => by simp at hp; subst hp; exact hm, fun _ => ⟨.nil, fun p hp => by simp at hp⟩⟩
theorem Dst.pos (m : Mild hops rs tail E) {u s : Int} (h : Dst hops rs tail from_ u s) : 0 ≤ s := by
  induction h with
  | base => exact Int.le_refl _
  | step _ ha ih => have := m.wt _ _ ha; omega
/-- A search with an aim. -/
theorem aim_end (m : Mild hops rs tail E) (hE : from_ ∈ E) (to_ : Int) (R : Rs) (hR : R = srch hops rs tail (some to_) (-1) 4097 [] [(from_, 0)] []) : R.code = 0 ∧ ((R.hit = true ∧ ∃ st2 s, R.st = st2 ++ [(to_, s)] ∧ IsD hops rs tail from_ to_ s ∧ ∀ p ∈ st2, IsD hops rs tail from_ p.1 p.2) ∨ (R.hit = false ∧ ∀ s, ¬ Dst hops rs tail from_ to_ s)) := by
  have h := dij (from_ := from_) (most := -1) m (.inl (by decide)) (some to_) 4097 [] [(from_, 0)] [] (Dj.init hE (.inl (by decide))) (by simp) (fun p hp => by simp at hp)
  rw [← hR] at h
  refine ⟨h.code, h.res.imp ?_ ?_⟩
  · rintro ⟨h1, st2, s, t, ht, h2, h3⟩
    cases ht
    exact ⟨h1, st2, s, h2, h3⟩
  · rintro ⟨h1, h2, h3⟩
    refine ⟨h1, fun s hs => ?_⟩
    rcases h2.near_ m (.inl (by decide)) hs (.inl (by decide)) with ⟨p, hp, he⟩ | ⟨q, hq, _⟩
    · exact h3 p hp (by rw [he])
    · simp at hq
/-- A search within most. -/
theorem most_end (m : Mild true rs tail E) (hE : from_ ∈ E) (hm0 : 0 ≤ most) (R : Rs) (hR : R = srch true rs tail none most 4097 [] [(from_, 0)] []) : R.code = 0 ∧ Dj true rs tail from_ most E R.st [] ∧ ∃ t, R.st = (from_, 0) :: t := by
  have h := dij (from_ := from_) (most := most) m (.inr rfl) none 4097 [] [(from_, 0)] [] (Dj.init hE (.inr hm0)) (by simp) (fun p hp => by simp at hp)
  rw [← hR] at h
  rcases h.res with ⟨-, st2, s, t, ht, -⟩ | ⟨h1, h2, h3⟩
  · cases ht
  · refine ⟨h.code, h2, ?_⟩
    -- from_ itself is the first
    rcases h2.d11 with ⟨p, hp, he⟩ | ⟨p, hp, _⟩
    · have hp0 : p.2 = 0 := by
        have := (h2.d1 p hp).2 0 (by rw [he]; exact .base)
        have := (h2.d1 p hp).1.pos m
        omega
      match hst : R.st, hp with
      | x :: t, hp =>
        rcases List.mem_cons.1 hp with rfl | hp'
        · exact ⟨t, by rw [show p = (from_, 0) from Prod.ext he hp0]⟩
        · have hpw := (h2.d13 rfl).1
          rw [hst] at hpw
          have hb := (List.pairwise_cons.1 hpw).1 p hp'
          rw [before_iff] at hb
          have hx := h2.d1 x (by rw [hst]; simp)
          have hx0 := hx.1.pos m
          have hx2 : x.2 = 0 := by omega
          have key : ∀ {u s : Int}, Dst true rs tail from_ u s → s = 0 → u = from_ := fun {u s} h => by
            cases h with
            | base => exact fun _ => rfl
            | step h' ha =>
              intro e
              have := h'.pos m
              rename_i s' a
              have : wei true a = 1 := rfl
              omega
          have := key hx.1 hx2
          exact ⟨t, by rw [show x = (from_, 0) from Prod.ext this hx2]⟩
    · simp at hp
end
end
section
open Go.RowKit

set_option maxRecDepth 100000 in
set_option maxHeartbeats 2000000 in
theorem arcs_anyB (Wb W : World) (sh : Nat) (rv : Value) (rs : List Nr) (tail : Bool) (av gv : Value) (asked : List Int) (gl : List Value) (id : Int) (k : Shn Wb W sh rv rs tail av gv asked gl) (hr : R64 id) (hrl : rs.length ≤ 1048576) (hal : (netOf rs tail id).1.length ≤ 1073741824) (hask : asked.length ≤ 8589934592) :
    Calls Tryd.prog 9 #[ptr sh, I id] W fun e W' => ∃ v' av' gv' gl', e = .returned (.tuple #[v', I (netOf rs tail id).2]) ∧ ArcO W' v' (netOf rs tail id).1 ∧ Shn Wb W' sh rv rs tail av' gv' (asked ++ [id]) gl' ∧ Mv Wb shTs (fun _ => False) W W' ∧ AskO W W' av av' := by
  obtain ⟨rva, rvc, hrv, -⟩ := k.rows
  subst hrv
  have k1 := k.G ((G.refl W).alloc (.cells #[I id] 2))
  obtain ⟨ava, avc, rfl⟩ := k.ask.form
  obtain ⟨gva, gvc, rfl⟩ := k.giv.form
  obtain ⟨av', w2, hrun, hrow, hchg, hob⟩ := app_I (W.alloc (.cells #[I id] 2)) Wb.heap.size (.slice ava asked.length avc) asked.length (asked.map I) k1.ask ⟨W.heap.size, 0, none⟩ 1 1 [I id] rfl (fun j u hj => by rw [Addr.add_mid, Nat.zero_add, (Blk.new W [I id] 2).cell]; exact hj) (fun u hu => by simp at hu; subst hu; rfl) (by omega) k1.g.size
  obtain ⟨ava2, avc2, rfl⟩ := Rw.form hrow
  have HRUN := hide hrun
  have hM2 : Mv Wb [30, 2] (fun _ => False) (W.alloc (.cells #[I id] 2)) w2 := k1.ask.of_chg k1.g (Nat.le_refl _) hchg (by simp)
  have hb2 : Blk w2 sh 30 _ := k1.blk.chg hchg (fun q => by obtain ⟨_, _, ys, hy⟩ := k1.ask.own q; exact hy.ne k1.blk (by decide) rfl)
  have hc1 := k1.blk.cell
  have hc0 := k.blk.cell
  have hc2 := hb2.cell
  have hz2 := hb2.frozen
  have HAB : Hid (∀ b, (Value.slice ava2 (asked.length + 1) avc2).ownBlock = some b → b ≠ sh) := fun b hb e => by
    obtain ⟨_, _, ys, hy⟩ := Rw.own hrow hb
    exact hy.ne hb2 (by decide) e
  have HM3 : Hid (Mv Wb [30, 2] (fun _ => False) W (w2.setCell ⟨sh, 2, none⟩ (.slice ava2 (asked.length + 1) avc2))) := by
    refine ((Mv.of_G k.g ((G.refl W).alloc _)).trans hM2).trans (.of_chg (hM2.G k1.g) (chg_setCell (F := fun b => b = sh) _ _ (.inl rfl)) (fun b hb => by rw [hb]; exact k.lo) (fun b e xs hb hF => ?_) (fun b es c hb hF => ?_))
    · subst hF; rw [(hb.type hb2).1]; decide
    · subst hF; exact (hb2.nomap hb).elim
  have HO3 : Hid (AskO W (w2.setCell ⟨sh, 2, none⟩ (.slice ava2 (asked.length + 1) avc2)) (.slice ava asked.length avc) (.slice ava2 (asked.length + 1) avc2)) := by
    refine ⟨fun b ys hb hn => ?_, fun b hb => ?_⟩
    · have hb1 := hb.G ((G.refl W).alloc (.cells #[I id] 2))
      have hb2' := hb1.chg hchg hn
      rw [Below.heap_setCell _ _ _ _ (hb2'.ne hb2 (by decide)), hchg.block b hb1.lt hn]
      exact ((G.refl W).alloc (.cells #[I id] 2)).block b hb.lt
    · rcases hob with e | e
      · exact .inl (by rw [← e]; exact hb)
      · rw [e] at hb
        cases hb
        exact .inr (by rw [World.size_alloc]; omega)
  have HB3 : Hid (Blk (w2.setCell ⟨sh, 2, none⟩ (.slice ava2 (asked.length + 1) avc2)) sh 30 [.slice rva rs.length rvc, .bool tail, .slice ava2 (asked.length + 1) avc2, .slice gva gl.length gvc]) := hb2.set 2 _
  have HR3 : Hid (Rw Wb.heap.size 2 1 (w2.setCell ⟨sh, 2, none⟩ (.slice ava2 (asked.length + 1) avc2)) (.slice ava2 (asked.length + 1) avc2) (asked.length + 1) (asked.map I ++ [I id])) := Rw.keep hrow (fun b hb => Below.heap_setCell _ _ _ _ (HAB.out b hb))
  have HK := hide k
  clear k k1 hrun hrow hchg hob hM2
  go_enter Tryd.func9, Tryd.ntmps9
  go_wp2_with (first | (at_builtin; refine wpList_append_run rfl _ _ 23 rfl (.slice ava asked.length avc) (.slice (some ⟨W.heap.size, 0, none⟩) 1 1) rfl rfl HRUN.out ?_) | fail)
  generalize w2.setCell ⟨sh, 2, none⟩ (.slice ava2 (asked.length + 1) avc2) = w3 at HM3 HB3 HR3 HO3 ⊢
  clear hc0 hc1 hc2 hz2 hb2 HRUN HAB
  have HG3 := hide (HM3.out.G HK.out.g)
  refine (of_any Wb w3 _ rs tail id HK.out.rows HG3.out hr hrl).mono ?_
  rintro e w4 ⟨lv, rfl, harx, hg4⟩
  have har4 := harx.arcs (HG3.out.trans hg4)
  clear harx
  have HG4 := hide (HG3.out.trans hg4)
  have HM4 := hide (HM3.out.trans (.of_G HG3.out hg4))
  have HO4 := hide (HO3.out.right (us := []) (mp := fun _ => False) (.of_G HG3.out hg4) (by simp))
  have HB4 := hide (HB3.out.G hg4)
  have HR4 := hide (HR3.out.G hg4)
  have HA4 := hide har4
  clear hg4 har4 HM3 HB3 HR3 HG3
  obtain ⟨l, hle⟩ : ∃ l, l = (netOf rs tail id).1 := ⟨_, rfl⟩
  obtain ⟨code, hce⟩ : ∃ code, code = (netOf rs tail id).2 := ⟨_, rfl⟩
  have HLE := hide hle
  have HCE := hide hce
  rw [← hle] at HA4 hal
  rw [← hce]
  clear hle hce
  obtain ⟨la, lc, rfl⟩ : ∃ la lc, lv = .slice la l.length lc := by obtain ⟨a, c, e, -, -⟩ := HA4.out.at_; exact ⟨a, c, e⟩
  -- the list of its own
  obtain ⟨i0, hi, hz0, hz1, hz2⟩ := info_A
  have hmk := run_make (P := Tryd.prog) w4 37 40 i0 (.agg #[I 0, I 0, I 0]) Tryd.underlying37 hi hz0 .i64 .i64 0 ((l.length : Int) + 2) (by omega) (by omega) (by rw [hz2]; omega) (by omega)
  rw [hz1, made_a, show ((l.length : Int) + 2).toNat = l.length + 2 by omega, show (0 : Int).toNat = 0 from rfl] at hmk
  have hmx : (1073741826 : Nat) ≤ maxLen := of_decide_eq_true (by kernel_rfl)
  have hrw5 := rw_made w4 w4.heap.size (l.length + 2) (by omega) (Nat.le_refl _)
  have HMK := hide hmk
  have hg5 : G w4 (w4.alloc (.cells (List.replicate ((l.length + 2) * 3) (I 0)).toArray 40)) := (G.refl w4).alloc _
  have hw1 : wrap64 ((l.length : Int) + 2) = (l.length : Int) + 2 := by unfold wrap64; omega
  clear hmk hi hz0 hz1 hz2
  generalize w4.alloc (.cells (List.replicate ((l.length + 2) * 3) (I 0)).toArray 40) = w5 at HMK hrw5 hg5
  obtain ⟨ov, w6, hrun6, hrow6, hchg6⟩ : ∃ v' w', (Builtin.append_ #[37, 37] 37 #[.slice (some ⟨w4.heap.size, 0, none⟩) 0 (l.length + 2), .slice la l.length lc]).run Tryd.prog w5 = .ok v' w' ∧ Rw w4.heap.size 40 3 w' v' l.length (flA l) ∧ Chg (fun k => (Value.slice (some ⟨w4.heap.size, 0, none⟩) 0 (l.length + 2)).ownBlock = some k) w5 w' := by
    have ha5 := HA4.out.G hg5
    obtain ⟨a', c', e', hn0, h1⟩ := ha5.at_
    simp only [Value.slice.injEq] at e'
    obtain ⟨rfl, -, rfl⟩ := e'
    have hone : ∀ u ∈ flA l, u.oneCell' = true := fun u hu => by
      obtain ⟨x, _, hx⟩ := List.mem_flatMap.1 hu
      simp at hx
      rcases hx with rfl | rfl | rfl <;> rfl
    cases la with
    | none =>
      have hl0 : l = [] := by
        rcases h1 with h1 | ⟨b, off, e, _⟩
        · exact h1
        · cases e
      subst hl0
      obtain rfl := hn0 rfl
      obtain ⟨i0, hi0, -, -, -⟩ := info_A
      exact ⟨_, w5, run_append_owned_none (P := Tryd.prog) w5 w4.heap.size 37 37 40 i0 3 Tryd.underlying37 hi0 _ 0 [] hrw5, hrw5, Chg.refl _ _⟩
    | some a =>
      obtain ⟨v', w', q1, q2, q3, _⟩ := app_A w5 w4.heap.size (.slice (some ⟨w4.heap.size, 0, none⟩) 0 (l.length + 2)) 0 [] hrw5 a l.length lc (flA l) (flA_len l) (fun j u hj => by
        rcases h1 with rfl | ⟨b, off, e, h2⟩
        · simp [flA] at hj
        · cases e
          have hjl := (List.getElem?_eq_some_iff.1 hj).1
          rw [flA_len] at hjl
          rw [Addr.add_mid, h2 j hjl]
          exact hj) hone (by omega) hg5.size
      rw [Nat.zero_add, List.nil_append] at q2
      exact ⟨v', w', q1, q2, q3⟩
  have hnb : ∀ b, (Value.slice (some ⟨w4.heap.size, 0, none⟩) 0 (l.length + 2)).ownBlock = some b → w4.heap.size ≤ b := fun b hb => (hrw5.own hb).1
  have hg6 : G w4 w6 := ((hg5.chg (F := fun _ => False)).more hchg6 (fun i hi q => absurd (hnb i q) (by omega))).G (fun i q => q.elim)
  obtain ⟨ova, ovc, rfl⟩ := Rw.form hrow6
  have HRUN6 := hide hrun6
  have hmark := (HK.out.mark.G HG4.out).G hg6
  have m0 := hmark.c 0 (by omega)
  have m1 := hmark.c 1 (by omega)
  have m2 := hmark.c 2 (by omega)
  simp only [List.getElem?_cons_zero, List.getElem?_cons_succ] at m0 m1 m2
  -- the marks
  have hg7 : G w6 (w6.alloc (.cells #[I (-71), I (-72), I (-73), I (-71), I (-72), I (-73)] 40)) := (G.refl w6).alloc _
  have hnew7 := (Blk.new w6 [I (-71), I (-72), I (-73), I (-71), I (-72), I (-73)] 40).cell
  obtain ⟨ov8, w8, hrun8, hrow8, hchg8, -⟩ := app_A _ w4.heap.size (.slice ova l.length ovc) l.length (flA l) (Rw.G hrow6 hg7) ⟨w6.heap.size, 0, none⟩ 2 2 [I (-71), I (-72), I (-73), I (-71), I (-72), I (-73)] rfl (fun j u hj => by rw [Addr.add_mid, Nat.zero_add, hnew7]; exact hj) (fun u hu => by simp at hu; rcases hu with rfl | rfl | rfl | rfl | rfl | rfl <;> rfl) (by omega) (Nat.le_trans hg6.size hg7.size)
  have hg8 : G w4 w8 := (((hg6.trans hg7).chg (F := fun _ => False)).more hchg8 (fun i hi q => absurd (Rw.own hrow6 q).1 (by omega))).G (fun i q => q.elim)
  have e8 : flA l ++ [I (-71), I (-72), I (-73), I (-71), I (-72), I (-73)] = flA (l ++ [mk, mk]) := by rw [flA_app]; rfl
  rw [e8] at hrow8
  obtain ⟨g8, c8, rest8, rfl, hlo8, hblk8, -⟩ := Rw.blk hrow8 (by omega)
  have HRUN8 := hide hrun8
  -- what was given
  have hb8 := HB4.out.G hg8
  have hS8 := (HK.out.giv.mv HM4.out (by decide)).G hg8
  have hcap8 := Rw.cap hrow8
  have hg9 : G w8 (w8.alloc (.cells #[(Value.slice (some ⟨g8, 0, none⟩) (l.length + 2) c8)] 37)) := (G.refl w8).alloc _
  have hnew9 := (Blk.new w8 [(Value.slice (some ⟨g8, 0, none⟩) (l.length + 2) c8)] 37).cell
  have hG9 := HG4.out.trans (hg8.trans hg9)
  obtain ⟨gv10, w10, hrun10, hrow10, hchg10, -⟩ := app_S _ Wb.heap.size (.slice gva gl.length gvc) gl.length gl (Rw.G hS8 hg9) ⟨w8.heap.size, 0, none⟩ 1 1 [(Value.slice (some ⟨g8, 0, none⟩) (l.length + 2) c8)] rfl (fun j u hj => by rw [Addr.add_mid, Nat.zero_add, hnew9]; exact hj) (fun u hu => by simp at hu; subst hu; rfl) (by have := HK.out.len; omega) hG9.size
  obtain ⟨gva2, gvc2, rfl⟩ := Rw.form hrow10
  have HRUN10 := hide hrun10
  have hS9 := Rw.G hS8 hg9
  have hM10 : Mv Wb [30, 37] (fun _ => False) (w8.alloc (.cells #[(Value.slice (some ⟨g8, 0, none⟩) (l.length + 2) c8)] 37)) w10 := hS9.of_chg hG9 (Nat.le_refl _) hchg10 (by simp)
  have hb10 : Blk w10 sh 30 _ := (hb8.G hg9).chg hchg10 (fun q => by obtain ⟨_, _, ys, hy⟩ := hS9.own q; exact hy.ne (hb8.G hg9) (by decide) rfl)
  have hM11 : Mv Wb [30, 37] (fun _ => False) w10 (w10.setCell ⟨sh, 3, none⟩ (.slice gva2 (gl.length + 1) gvc2)) := by
    refine .of_chg (hM10.G hG9) (chg_setCell (F := fun b => b = sh) _ _ (.inl rfl)) (fun b hb => by rw [hb]; exact HK.out.lo) (fun b e xs hb hF => ?_) (fun b es c hb hF => ?_)
    · subst hF; rw [(hb.type hb10).1]; decide
    · subst hF; exact (hb10.nomap hb).elim
  have hMe : Mv Wb [30, 37] (fun _ => False) w4 (w10.setCell ⟨sh, 3, none⟩ (.slice gva2 (gl.length + 1) gvc2)) := ((Mv.of_G HG4.out (hg8.trans hg9)).trans hM10).trans hM11
  have HME : Hid (Mv Wb shTs (fun _ => False) W (w10.setCell ⟨sh, 3, none⟩ (.slice gva2 (gl.length + 1) gvc2))) := (HM4.out.mono (fun e q => by simp at q; rcases q with rfl | rfl <;> decide) (fun _ q => q)).trans (hMe.mono (fun e q => by simp at q; rcases q with rfl | rfl <;> decide) (fun _ q => q))
  have HOE := hide (HO4.out.right hMe (by decide))
  have HBE : Hid (Blk (w10.setCell ⟨sh, 3, none⟩ (.slice gva2 (gl.length + 1) gvc2)) g8 40 (flA (l ++ [mk, mk]) ++ rest8)) := (hblk8.G hg9).mv (hM10.trans hM11) (by decide)
  have HSE : Hid (Shn Wb (w10.setCell ⟨sh, 3, none⟩ (.slice gva2 (gl.length + 1) gvc2)) sh (.slice rva rs.length rvc) rs tail (.slice ava2 (asked.length + 1) avc2) (.slice gva2 (gl.length + 1) gvc2) (asked ++ [id]) (gl ++ [(Value.slice (some ⟨g8, 0, none⟩) (l.length + 2) c8)])) := by
    have hof : ∀ b, b ≠ sh → (w10.setCell ⟨sh, 3, none⟩ (.slice gva2 (gl.length + 1) gvc2)).heap[b]? = w10.heap[b]? := fun b hb => Below.heap_setCell _ _ _ _ hb
    refine ⟨hM11.G (hM10.G hG9), hb10.set 3 _, ?_, ?_, by simp [HK.out.len], fun i id' v h1 h2 => ?_, HK.out.rows, HK.out.lo, HK.out.mark⟩
    · have : Rw Wb.heap.size 2 1 w4 (.slice ava2 (asked.length + 1) avc2) (asked ++ [id]).length ((asked ++ [id]).map I) := by
        rw [List.length_append, List.map_append]; exact HR4.out
      have h9 := this.G (hg8.trans hg9)
      have h10 := h9.chg hchg10 (fun b hb q => by
        obtain ⟨_, _, ys, hy⟩ := hS9.own q
        obtain ⟨_, _, zs, hz⟩ := h9.own hb
        exact absurd (hy.type hz).1 (by decide))
      exact h10.keep (fun b hb => hof b (fun e => by obtain ⟨_, _, ys, hy⟩ := h10.own hb; exact hy.ne hb10 (by decide) e))
    · have : Rw Wb.heap.size 37 1 w10 (.slice gva2 (gl.length + 1) gvc2) (gl ++ [(Value.slice (some ⟨g8, 0, none⟩) (l.length + 2) c8)]).length (gl ++ [(Value.slice (some ⟨g8, 0, none⟩) (l.length + 2) c8)]) := by
        rw [List.length_append]; exact hrow10
      exact this.keep (fun b hb => hof b (fun e => by obtain ⟨_, _, ys, hy⟩ := this.own hb; exact hy.ne hb10 (by decide) e))
    · by_cases hi : i < asked.length
      · rw [List.getElem?_append_left hi] at h1
        rw [List.getElem?_append_left (by rw [HK.out.len]; exact hi)] at h2
        exact (HK.out.all i id' v h1 h2).mv HME.out (by decide)
      · have hil : i = asked.length := by
          have := (List.getElem?_eq_some_iff.1 h1).1
          simp at this
          omega
        subst hil
        rw [List.getElem?_append_right (Nat.le_refl _)] at h1
        rw [List.getElem?_append_right (by rw [HK.out.len]; exact Nat.le_refl _), HK.out.len] at h2
        simp at h1 h2
        subst h1 h2
        rw [← HLE.out]
        exact ⟨g8, c8, rest8, rfl, Nat.le_trans HG4.out.size hlo8, HBE.out⟩
  have hc8 := hb8.cell
  have hc4 := HB4.out.cell
  have hc10 := hb10.cell
  have hz10 := hb10.frozen
  have HAK := hide HA4.out.ok
  have hcap : ¬ (c8 < l.length) := by omega
  clear hS8 hS9 hM10 hM11 hMe hb10 hrun10 hrow10 hchg10 hrun8 hrow8 hchg8 hrun6 hrow6 hchg6 hb8 HB4 HR4 HM4 HA4 HG4 hG9 hnew9 hnew7 hrw5 hnb hg5 hg6 hg7 hg8 hg9 hmark hcap8 hblk8
  go_wp2_with fail
  rw [HMK.out]
  by_cases hc : code = 0
  · subst hc
    go_wp2_with (first | (at_builtin; refine wpList_append_run rfl _ _ 37 rfl (.slice (some ⟨w4.heap.size, 0, none⟩) 0 (l.length + 2)) (.slice la l.length lc) rfl rfl HRUN6.out ?_) | (at_builtin; refine wpList_append_run rfl _ _ 37 rfl (.slice ova l.length ovc) (.slice (some ⟨w6.heap.size, 0, none⟩) 2 2) rfl rfl HRUN8.out ?_) | (at_builtin; refine wpList_append_run rfl _ _ 28 rfl (.slice gva gl.length gvc) (.slice (some ⟨w8.heap.size, 0, none⟩) 1 1) rfl rfl HRUN10.out ?_) | fail)
    go_ret2
    rw [← HLE.out, ← HCE.out]
    refine ⟨_, _, _, _, rfl, ⟨⟨_, _, rfl, .inr ⟨g8, flA [mk, mk] ++ rest8, rfl, ?_⟩⟩, HAK.out⟩, HSE.out, HME.out, HOE.out⟩
    have := HBE.out
    rw [flA_app, List.append_assoc] at this
    exact this
  · have hcb : (code == 0) = false := beq_eq_false_iff_ne.2 hc
    have hl0 : l = [] := by rw [HLE.out]; exact netOf_code (by rw [← HCE.out]; exact hc)
    have HL0 := hide hl0
    clear hl0
    go_wp2_with (first | (at_builtin; refine wpList_append_run rfl _ _ 37 rfl (.slice (some ⟨w4.heap.size, 0, none⟩) 0 (l.length + 2)) (.slice la l.length lc) rfl rfl HRUN6.out ?_) | (at_builtin; refine wpList_append_run rfl _ _ 37 rfl (.slice ova l.length ovc) (.slice (some ⟨w6.heap.size, 0, none⟩) 2 2) rfl rfl HRUN8.out ?_) | (at_builtin; refine wpList_append_run rfl _ _ 28 rfl (.slice gva gl.length gvc) (.slice (some ⟨w8.heap.size, 0, none⟩) 1 1) rfl rfl HRUN10.out ?_) | fail)
    go_ret2
    rw [← HLE.out, ← HCE.out]
    refine ⟨_, _, _, _, rfl, ?_, HSE.out, HME.out, HOE.out⟩
    rw [HL0.out]
    exact ⟨⟨none, 0, rfl, .inl rfl⟩, fun a h => by simp at h⟩
set_option maxRecDepth 100000 in
set_option maxHeartbeats 2000000 in
theorem look_countedB (Wb W : World) (sh sb B mb h : Nat) (fv v : Value) (fs : List Fd) (bs : Int → Option Nat) (l : List It) (c : Nat) (rv : Value) (rs : List Nr) (tail : Bool) (av gv : Value) (asked : List Int) (gl : List Value) (i : Nat)
    (k : SM Wb W sb B mb h (.func (.func 9) #[ptr sh] #[]) (.func (.func 26) #[] #[]) fv v fs bs l fs.length c) (si : SI fs bs l) (sn : Shn Wb W sh rv rs tail av gv asked gl) (hi : i < fs.length) (hs : 0 ≤ (fs[i]!).s ∧ (fs[i]!).s ≤ 1099511627776) (hrl : rs.length ≤ 1048576) (hal : (netOf rs tail (fs[i]!).n).1.length ≤ 1073741824) (hask : asked.length ≤ 8589934592) (hbig : fs.length + 1073741824 < 17179869183) :
    Calls Tryd.prog 40 #[ptr sb, I i] W fun e W' => ∃ fv' v' l' av' gv' gl', e = .returned (I (lookP true rs tail i fs bs).1) ∧ SM Wb W' sb B mb h (.func (.func 9) #[ptr sh] #[]) (.func (.func 26) #[] #[]) fv' v' (lookP true rs tail i fs bs).2.1 (lookP true rs tail i fs bs).2.2 l' (lookP true rs tail i fs bs).2.1.length c ∧ SI (lookP true rs tail i fs bs).2.1 (lookP true rs tail i fs bs).2.2 l' ∧
      Came fs.length (lookP true rs tail i fs bs).2.1.length l l' ∧ Shn Wb W' sh rv rs tail av' gv' (asked ++ [(fs[i]!).n]) gl' ∧ Mv Wb (sTs ++ shTs) (fun b => b = mb) W W' ∧ AskO W W' av av' := by
  obtain ⟨x, hx⟩ : ∃ x, fs[i]? = some x := ⟨_, List.getElem?_eq_getElem hi⟩
  have ex : fs[i]! = x := by simp [hx]
  have hr := si.r64 i hi
  obtain ⟨R, hR⟩ : ∃ R, R = lookP true rs tail i fs bs := ⟨_, rfl⟩
  rw [← hR]
  unfold lookP at hR
  rw [ex] at hs hal hr hR ⊢
  obtain ⟨g, cap, rfl, hg, x1, x2, x3, x4⟩ := fin_at k.fin hx
  have hc := k.blk.cell
  have hiI : (i : Int) < fs.length := by omega
  have HK := hide k
  have HN := hide sn
  have HSI := hide si
  clear k sn si
  go_enter Tryd.func40, Tryd.ntmps40
  go_wp2_with fail
  go_quiet (fail)
  generalize hw1 : World.drewN W _ = w1
  have HG1 : Hid (G W w1) := by rw [← hw1]; exact g_drewN _ _
  clear hw1 x1 x2 x3 x4 hc
  have HAR := hide (arcs_anyB Wb w1 sh rv rs tail av gv asked gl x.n (HN.out.G HG1.out) hr hrl hal hask)
  have HK1 := hide (HK.out.G HG1.out)
  have hc1 := HK1.out.blk.cell
  go_wp2_with fail
  refine HAR.out.mono ?_
  rintro e w2 ⟨lv, av2, gv2, gl2, rfl, hao, hsn2, hmv2, haso⟩
  have HK2 := hide (HK1.out.mv hmv2 (fun e he => by simp at he; rcases he with rfl | rfl | rfl | rfl | rfl <;> decide) (fun q => q))
  have HN2 := hide hsn2
  have HA2 := hide hao
  have HM2 : Hid (Mv Wb (sTs ++ shTs) (fun b => b = mb) W w2) := (Mv.of_G HK.out.g HG1.out).trans (hmv2.mono (fun e he => List.mem_append_right _ he) (fun _ q => q.elim))
  obtain ⟨la, lc, rfl⟩ : ∃ la lc, lv = .slice la (netOf rs tail x.n).1.length lc := by obtain ⟨a, c, e, _⟩ := hao.at_; exact ⟨a, c, e⟩
  have HO2 := hide (haso.left HG1.out)
  clear hao hsn2 hmv2 haso HAR HK1 hc1 HN HK
  obtain ⟨asl, has⟩ : ∃ asl, asl = (netOf rs tail x.n).1 := ⟨_, rfl⟩
  obtain ⟨code, hcd⟩ : ∃ code, code = (netOf rs tail x.n).2 := ⟨_, rfl⟩
  rw [← has, ← hcd]
  rw [← has] at HA2 hal
  rw [← has, ← hcd] at hR
  have HR := hide hR
  clear has hcd hR
  by_cases hcode : code = 0
  · subst hcode
    have HR0 : Hid (R = relaxP true x.s i asl fs bs) := by
      have := HR.out
      rw [if_pos rfl] at this
      exact this
    clear HR
    go_wp2_with fail
    go_loopw [42] (fun iv wr => ∃ (kk : Nat) (fs1 : List Fd) (bs1 : Int → Option Nat) (l1 : List It) (fv1 v1 : Value), iv = I kk ∧ kk ≤ asl.length ∧ relaxP true x.s i (asl.drop kk) fs1 bs1 = R ∧ SM Wb wr sb B mb h (.func (.func 9) #[ptr sh] #[]) (.func (.func 26) #[] #[]) fv1 v1 fs1 bs1 l1 fs1.length c ∧ SI fs1 bs1 l1 ∧ Came fs.length fs1.length l l1 ∧ fs.length ≤ fs1.length ∧ fs1.length ≤ fs.length + kk ∧ Shn Wb wr sh rv rs tail av2 gv2 (asked ++ [x.n]) gl2 ∧ ArcO wr (.slice la asl.length lc) asl ∧ Mv Wb (sTs ++ shTs) (fun b => b = mb) W wr ∧ AskO W wr av av2) (fun iv _ => asl.length - (RowKit.intOf iv).toNat)
    case atStart => exact ⟨0, fs, bs, l, _, _, rfl, Nat.zero_le _, HR0.out.symm, HK2.out, HSI.out, Came.refl _ _, Nat.le_refl _, Nat.le_refl _, HN2.out, HA2.out, HM2.out, HO2.out⟩
    case round =>
      obtain ⟨kk, fs1, bs1, l1, fv1, v1, rfl, hkk, hrel1, k1, si1, hcame, hle1, hle2, sn1, ao1, mv1, ob1⟩ := hrel
      by_cases hkl : kk < asl.length
      · have hkI : (kk : Int) < asl.length := by omega
        obtain ⟨⟨ae, at_, aw⟩, ha⟩ : ∃ a, asl[kk]? = some a := ⟨_, List.getElem?_eq_getElem hkl⟩
        have hok := ao1.ok _ (List.mem_of_getElem? ha)
        obtain ⟨-, b, rfl, y1, y2, y3, hbl⟩ := ao1.get ha
        have hdrop : asl.drop kk = (ae, at_, aw) :: asl.drop (kk + 1) := by
          rw [List.drop_eq_getElem_cons hkl]
          congr 1
          have := List.getElem?_eq_getElem hkl
          rw [ha] at this
          exact (Option.some.inj this).symm
        rw [hdrop] at hrel1
        unfold relaxP at hrel1
        have HREL := hide hrel1
        have HS5 : Hid (SM Wb (wr.alloc (.cells #[I ae, I at_, I aw] 40)) sb B mb h (.func (.func 9) #[ptr sh] #[]) (.func (.func 26) #[] #[]) fv1 v1 fs1 bs1 l1 fs1.length c) := k1.G ((G.refl _).alloc _)
        obtain ⟨ab, hab⟩ : ∃ ab, ab = wr.heap.size := ⟨_, rfl⟩
        have HX5 : Hid (Blk (wr.alloc (.cells #[I ae, I at_, I aw] 40)) ab 40 [I ae, I at_, I aw]) := by rw [hab]; exact Blk.new wr [I ae, I at_, I aw] 40
        have HG5 := hide ((G.refl wr).alloc (.cells #[I ae, I at_, I aw] 40))
        have HK1 := hide k1
        have HSI1 := hide si1
        have HCM := hide hcame
        have HN1 := hide sn1
        have HA1 := hide ao1
        have HM1 := hide mv1
        have HO1 := hide ob1
        have HLE := hide (And.intro hle1 hle2)
        have HOK := hide hok
        have HKL := hide hkl
        clear k1 si1 hcame sn1 ao1 mv1 ob1 hle1 hle2 hrel1 hok hdrop ha hkl
        go_wp2_with fail
        rw [← hab]
        generalize wr.alloc (.cells #[I ae, I at_, I aw] 40) = w5 at HS5 HX5 HG5 ⊢
        clear hab y1 y2 y3 hbl
        refine wp_region_noPanic ?_
        refine wp_region_held_drew (S := (fun V => (∀ j, V.cell? ⟨sb, j, none⟩ = ([(.func (.func 9) #[ptr sh] #[]), (.func (.func 26) #[] #[]), fv1, .map (some mb), ptr h, I c] : List Value)[j]?) ∧ (∀ j, V.cell? ⟨ab, j, none⟩ = ([I ae, I at_, I aw] : List Value)[j]?))) (by kernel_rfl) (⟨(HS5.out.G (G.drew (G.refl _))).blk.cell, (HX5.out.G (G.drew (G.refl _))).cell⟩) (fun hHeld => ?_)
        refine wpAnyH_take (i := 0) (v := ?_) rfl (by kernel_rfl) (by kernel_rfl) (by kernel_rfl) (fun _ _ _ h => h) (Or.inl ⟨by rfl, ?_⟩) hHeld ?_
        rotate_left 1
        · (intro w hSw; obtain ⟨q1, q2⟩ := hSw; go_simp; try with_reducible rfl)
        try simp only [Act.put, List.getElem_toArray, List.getElem_cons_zero, List.setIfInBounds_toArray, List.set_cons_zero, List.set_cons_succ]
        refine wpAnyH_take (i := 1) (v := ?_) rfl (by kernel_rfl) (by kernel_rfl) (by kernel_rfl) (fun _ _ _ h => h) (Or.inl ⟨by rfl, ?_⟩) hHeld ?_
        rotate_left 1
        · (intro w hSw; obtain ⟨q1, q2⟩ := hSw; go_simp; try with_reducible rfl)
        try simp only [Act.put, List.getElem_toArray, List.getElem_cons_zero, List.getElem_cons_succ, List.setIfInBounds_toArray, List.set_cons_zero, List.set_cons_succ]
        refine wpAnyH_take (i := 2) (v := ?_) rfl (by kernel_rfl) (by kernel_rfl) (by kernel_rfl) (fun _ _ _ h => h) (Or.inl ⟨by rfl, ?_⟩) hHeld ?_
        rotate_left 1
        · (intro w hSw; obtain ⟨q1, q2⟩ := hSw; go_simp; try with_reducible rfl)
        try simp only [Act.put, List.getElem_toArray, List.getElem_cons_zero, List.getElem_cons_succ, List.setIfInBounds_toArray, List.set_cons_zero, List.set_cons_succ]
        refine wpAnyH_take (i := 3) (v := ?_) rfl (by kernel_rfl) (by kernel_rfl) (by kernel_rfl) (fun _ _ _ h => h) (Or.inl ⟨by rfl, ?_⟩) hHeld ?_
        rotate_left 1
        · (intro w hSw; obtain ⟨q1, q2⟩ := hSw; go_simp; try with_reducible rfl)
        try simp only [Act.put, List.getElem_toArray, List.getElem_cons_zero, List.getElem_cons_succ, List.setIfInBounds_toArray, List.set_cons_zero, List.set_cons_succ]
        refine wpAnyH_take (i := 4) (v := ?_) rfl (by kernel_rfl) (by kernel_rfl) (by kernel_rfl) (fun _ _ _ h => h) (Or.inl ⟨by rfl, ?_⟩) hHeld ?_
        rotate_left 1
        · (intro w hSw; obtain ⟨q1, q2⟩ := hSw; go_simp; try with_reducible rfl)
        try simp only [Act.put, List.getElem_toArray, List.getElem_cons_zero, List.getElem_cons_succ, List.setIfInBounds_toArray, List.set_cons_zero, List.set_cons_succ]
        refine wpAnyH_ready (rs := [5]) (by kernel_rfl) (by simp) (AllReadyH.cons rfl (fun K hK => ?_) AllReadyH.nil)
        clear hHeld
        go_simp
        refine (counted_any ae at_ aw _).mono ?_
        rintro e w6 ⟨rfl, hg6⟩
        have HG6 := hide (G.trans (G.drew (G.refl w5)) hg6)
        clear hg6
        go_wp2_with fail
        refine hK.out _ _ (⟨(HS5.out.G HG6.out).blk.cell, (HX5.out.G HG6.out).cell⟩) (fun hHeld => ?_)
        clear hK K
        try simp only [Act.put, List.getElem_toArray, List.getElem_cons_zero, List.getElem_cons_succ, List.setIfInBounds_toArray, List.set_cons_zero, List.set_cons_succ]
        refine wpAnyH_take (i := 6) (v := ?_) rfl (by kernel_rfl) (by kernel_rfl) (by kernel_rfl) (fun _ _ _ h => h) (Or.inl ⟨by rfl, ?_⟩) hHeld ?_
        rotate_left 1
        · (intro w hSw; (try dsimp only at hSw); go_simp; try with_reducible rfl)
        try simp only [Act.put, List.getElem_toArray, List.getElem_cons_zero, List.getElem_cons_succ, List.setIfInBounds_toArray, List.set_cons_zero, List.set_cons_succ]
        refine wpAnyH_done (by kernel_rfl) ?_ _
        refine NoPanic.normal ?_
        have hc6 := (HS5.out.G HG6.out).blk.cell
        have hx6 := (HX5.out.G HG6.out).cell
        have HG6b := hide (HG5.out.trans HG6.out)
        have HN6 := hide (HN1.out.G HG6b.out)
        have HA6 := hide (HA1.out.G HG6b.out)
        have HS6 := hide (HS5.out.G HG6.out)
        have HM6 := hide (HM1.out.trans (.of_G HK1.out.g HG6b.out))
        have HO6 := hide (HO1.out.right (us := []) (mp := fun _ => False) (.of_G HK1.out.g HG6b.out) (by simp))
        obtain ⟨wt, hwt⟩ : ∃ wt, wt = wei true (ae, at_, aw) := ⟨_, rfl⟩
        have hwr : R64 wt := by rw [hwt]; unfold wei; simp; unfold R64; omega
        rw [← hwt]
        rw [← hwt] at HREL
        clear HG6 HG6b HG5 HS5 HX5 HK1 HN1 HA1 HM1 hwt
        by_cases c1 : wt < 0
        · have hr1 := HREL.out
          rw [if_pos c1] at hr1
          have HR1 := hide hr1
          clear hr1
          go_wp2_with fail
          go_ret
          rw [← HR1.out]
          first | exact ⟨_, _, l1, _, _, _, rfl, HS6.out, HSI1.out, HCM.out, HN6.out, HM6.out, HO6.out⟩ | exact ⟨rfl, _, _, l1, HS6.out, HSI1.out, HCM.out, _, ⟨⟨_, _, HN6.out⟩, HM6.out, HO6.out⟩⟩
        · have hr1 := HREL.out
          rw [if_neg c1] at hr1
          have hw2 : wrap64 (1099511627776 - x.s) = 1099511627776 - x.s := by unfold wrap64; omega
          by_cases c2 : 1099511627776 - x.s < wt
          · rw [if_pos c2] at hr1
            have c2b : wt > 1099511627776 - x.s := c2
            have HR1 := hide hr1
            clear hr1
            go_wp2_with fail
            go_ret
            rw [← HR1.out]
            first | exact ⟨_, _, l1, _, _, _, rfl, HS6.out, HSI1.out, HCM.out, HN6.out, HM6.out, HO6.out⟩ | exact ⟨rfl, _, _, l1, HS6.out, HSI1.out, HCM.out, _, ⟨⟨_, _, HN6.out⟩, HM6.out, HO6.out⟩⟩
          · rw [if_neg c2] at hr1
            have c2b : ¬ (wt > 1099511627776 - x.s) := c2
            have hw3 : wrap64 (x.s + wt) = x.s + wt := by unfold wrap64; omega
            have HAD := hide (add_any Wb w6 sb B mb h (.func (.func 9) #[ptr sh] #[]) (.func (.func 26) #[] #[]) fv1 v1 fs1 bs1 l1 c ⟨at_, x.s + wt, ae, i⟩ HS6.out HOK.out.2.1 HSI1.out.idx HSI1.out.keys HSI1.out.dom HSI1.out.sz (by have := HLE.out; omega) HSI1.out.hi)
            have HR1 := hide hr1
            clear hr1
            go_wp2_with fail
            refine HAD.out.mono ?_
            rintro e w7 ⟨rfl, hmv7, hcase⟩
            have HN7 := hide (HN6.out.mv hmv7 (fun e he => by simp at he; rcases he with rfl | rfl | rfl | rfl <;> decide))
            have HA7 := hide (HA6.out.mv hmv7 (by decide))
            have HO7 := hide (HO6.out.right hmv7 (by decide))
            have HM7 := hide (HM6.out.trans (hmv7.mono (fun e he => List.mem_append_left _ he) (fun _ q => q)))
            have HRL : Hid (∃ (k2 : Nat) (fs1 : List Fd) (bs1 : Int → Option Nat) (l1 : List It) (fv1 v1 : Value), I ((kk : Int) + 1) = I k2 ∧ k2 ≤ asl.length ∧ relaxP true x.s i (asl.drop k2) fs1 bs1 = R ∧ SM Wb w7 sb B mb h (.func (.func 9) #[ptr sh] #[]) (.func (.func 26) #[] #[]) fv1 v1 fs1 bs1 l1 fs1.length c ∧ SI fs1 bs1 l1 ∧ Came fs.length fs1.length l l1 ∧ fs.length ≤ fs1.length ∧ fs1.length ≤ fs.length + k2 ∧ Shn Wb w7 sh rv rs tail av2 gv2 (asked ++ [x.n]) gl2 ∧ ArcO w7 (.slice (some ⟨b, 0, none⟩) asl.length lc) asl ∧ Mv Wb (sTs ++ shTs) (fun b => b = mb) W w7 ∧ AskO W w7 av av2) := by
              have hr2 := HR1.out
              have hle := HLE.out
              rcases hcase with ⟨hk, k7⟩ | ⟨hk, fv', v', l', k7, hpm, hhi⟩
              · rw [if_pos hk] at hr2
                exact ⟨kk + 1, fs1, bs1, l1, _, _, by simp, HKL.out, hr2, k7, HSI1.out, HCM.out, hle.1, by omega, HN7.out, HA7.out, HM7.out, HO7.out⟩
              · rw [if_neg (by rw [hk]; simp)] at hr2
                have hlen : (fs1 ++ [(⟨at_, x.s + wt, ae, i⟩ : Fd)]).length = fs1.length + 1 := by simp
                refine ⟨kk + 1, _, _, l', fv', v', by simp, HKL.out, hr2, ?_, HSI1.out.add HOK.out.2.1 hpm hhi (by omega), ?_, by omega, by omega, HN7.out, HA7.out, HM7.out, HO7.out⟩
                · rw [hlen]; exact k7
                · rw [hlen]; exact HCM.out.add hle.1 hpm
            clear hcase hmv7 HAD HN6 HA6 HM6 HN7 HA7 HM7 HCM HSI1 HS6
            go_wp2_with fail
            go_roundw
            case rel => exact HRL.out
            case measure => simp only [RowKit.intOf]; have := HKL.out; omega
      · have hkI : ¬ ((kk : Int) < asl.length) := by omega
        have hdrop : asl.drop kk = [] := List.drop_eq_nil_of_le (by omega)
        rw [hdrop] at hrel1
        have HR1 : Hid (R = (0, fs1, bs1)) := hrel1.symm
        have HE := hide (And.intro k1 (And.intro si1 (And.intro hcame (And.intro sn1 (And.intro mv1 ob1)))))
        clear k1 si1 hcame sn1 mv1 ob1 ao1 hrel1 hdrop hle1 hle2
        go_wp2_with fail
        go_ret
        rw [HR1.out]
        first | exact ⟨_, _, l1, _, _, _, rfl, HE.out.1, HE.out.2.1, HE.out.2.2.1, HE.out.2.2.2.1, HE.out.2.2.2.2.1, HE.out.2.2.2.2.2⟩ | exact ⟨rfl, _, _, l1, HE.out.1, HE.out.2.1, HE.out.2.2.1, _, ⟨⟨_, _, HE.out.2.2.2.1⟩, HE.out.2.2.2.2.1, HE.out.2.2.2.2.2⟩⟩
  · have hcb : (code == 0) = false := beq_eq_false_iff_ne.2 hcode
    have HR1 : Hid (R = (code, fs, bs)) := by
      have := HR.out
      rw [if_neg hcode] at this
      exact this
    go_wp2_with fail
    go_ret
    rw [HR1.out]
    exact ⟨_, _, l, _, _, _, rfl, HK2.out, HSI.out, Came.refl _ _, HN2.out, HM2.out, HO2.out⟩
/-- Between two settlings; how many finds there are is told by the rows of those that are settled. -/
structure PSB (rs : List Nr) (tail : Bool) (st near : List Sn) (fs : List Fd) (bs : Int → Option Nat) (l : List It) (asked : List Int) : Prop where
  si : SI fs bs l
  pr : PR fs bs l st near
  c4 : st.length ≤ 4096
  fl : fs.length ≤ 1 + (st.map fun p => (netOf rs tail p.1).1.length).sum
  al : asked.length ≤ st.length
  nd : (st.map (·.1)).Nodup
theorem PSB.snoc {st : List Sn} {n s : Int} (h : (st.map (·.1)).Nodup) (hn : ∀ p ∈ st, p.1 ≠ n) : ((st ++ [(n, s)]).map (·.1)).Nodup := by
  rw [List.map_append, List.nodup_append]
  refine ⟨h, by simp, fun a ha b hb => ?_⟩
  obtain ⟨p, hp, rfl⟩ := List.mem_map.1 ha
  simp at hb
  subst hb
  exact hn p hp
theorem PSB.one {st near : List Sn} {fs : List Fd} {bs : Int → Option Nat} {l dead r : List It} {asked : List Int} {x : It} {rs : List Nr} {tail : Bool} (k : PSB rs tail st near fs bs l asked) (hp : l.Perm (dead ++ x :: r)) (hdead : ∀ y ∈ dead, Stale fs bs y) (hx : ¬ Stale fs bs x) (hr : ∀ y ∈ r, Hp.ah (ltF fs) y x = false) (hh : Hp.HI (Hp.ah (ltF fs)) r) :
    ∃ i : Nat, x.1 = i ∧ i < fs.length ∧ bs (fs[i]!).n = some i ∧ near ≠ [] ∧ near[nextI near]! = ((fs[i]!).n, (fs[i]!).s) ∧ PR fs bs r (st ++ [((fs[i]!).n, (fs[i]!).s)]) (near.eraseIdx (nextI near)) ∧ SI fs bs r ∧ (∀ p ∈ st ++ [((fs[i]!).n, (fs[i]!).s)], p.2 ≤ (fs[i]!).s) ∧ (∀ p ∈ st, p.1 ≠ (fs[i]!).n) := by
  have hxl : x ∈ l := hp.symm.subset (by simp)
  obtain ⟨h1, h2, h3, h4⟩ := k.pr.settle k.si.nd hp hdead hx hr
  have hd := k.si.dom x hxl
  have hnd := (List.nodup_append.1 (hp.nodup_iff.1 k.si.nd)).2.1
  have hlen := hp.length_eq
  refine ⟨x.1.toNat, by omega, by omega, ?_, h1, h2, h3, k.si.less (fun y hy => hp.symm.subset (by simp [hy])) hh (List.nodup_cons.1 hnd).2 (by simp at hlen; omega), fun p hp' => ?_, fun p hp' e => ?_⟩
  · unfold Stale at hx
    exact Decidable.not_not.1 hx
  · rcases List.mem_append.1 hp' with q | q
    · exact h4 p q
    · obtain rfl := List.mem_singleton.1 q
      exact Int.le_refl _
  · obtain ⟨i', h5, h6, -⟩ := k.pr.sd p hp'
    unfold Stale at hx
    rw [e, Decidable.not_not.1 hx] at h5
    cases h5
    have e1 := k.si.eq x hxl
    have e2 : ((x.1.toNat : Int), (x.1.toNat : Int)) = x := by
      rw [Int.toNat_of_nonneg hd.1]
      exact Prod.ext rfl e1
    rw [e2] at h6
    exact h6 hxl
set_option maxRecDepth 100000 in
set_option maxHeartbeats 2000000 in
theorem until_countedB (X : List Fd → (Int → Option Nat) → List Sn → Prop) (Wb W : World) (sh sb B mb h : Nat) (rv : Value) (rs : List Nr) (tail : Bool) (to_ : Int) (R : Rs) (bas : List Int) (hbas : bas.length ≤ 4294967296) (av0 : Value)
    (hX : ∀ (fs : List Fd) (bs : Int → Option Nat) (l : List It) (st near : List Sn) (i : Nat), PR fs bs l (st ++ [((fs[i]!).n, (fs[i]!).s)]) near → i < fs.length → bs (fs[i]!).n = some i → (∀ p ∈ st, p.2 ≤ (fs[i]!).s ∧ p.1 ≠ (fs[i]!).n) → X fs bs st → (lookP true rs tail i fs bs).1 = 0 → X (lookP true rs tail i fs bs).2.1 (lookP true rs tail i fs bs).2.2 (st ++ [((fs[i]!).n, (fs[i]!).s)]))
    (hrl : rs.length ≤ 1048576) (hal : ∀ id, (netOf rs tail id).1.length ≤ 1073741824) (hsum : ∀ st : List Sn, (st.map (·.1)).Nodup → st.length ≤ 4096 → (st.map fun p => (netOf rs tail p.1).1.length).sum ≤ 8589934592) (h0 : ∃ (fs : List Fd) (bs : Int → Option Nat) (l : List It) (fv v : Value) (st near : List Sn) (asked : List Int) (av gv : Value) (gl : List Value), PSB rs tail st near fs bs l asked ∧ SM Wb W sb B mb h (.func (.func 9) #[ptr sh] #[]) (.func (.func 26) #[] #[]) fv v fs bs l fs.length st.length ∧ Shn Wb W sh rv rs tail av gv (bas ++ asked) gl ∧ srch true rs tail (some to_) (-1) (4097 - st.length) st near asked = R ∧ X fs bs st ∧ Mv Wb (sTs ++ shTs) (fun b => b = mb) W W ∧ AskO W W av0 av) :
    Calls Tryd.prog 27 #[ptr sb, I to_] W fun e W' => ∃ (fs : List Fd) (bs : Int → Option Nat) (l : List It) (fv v : Value) (c : Nat) (av gv : Value) (gl : List Value), SM Wb W' sb B mb h (.func (.func 9) #[ptr sh] #[]) (.func (.func 26) #[] #[]) fv v fs bs l fs.length c ∧ Shn Wb W' sh rv rs tail av gv (bas ++ R.asked) gl ∧ Mv Wb (sTs ++ shTs) (fun b => b = mb) W W' ∧ AskO W W' av0 av ∧ ((R.hit = true ∧ R.code = 0 ∧ ∃ (i : Nat) (st near : List Sn), e = .returned (.tuple #[I i, .bool true, I 0]) ∧ i < fs.length ∧ (fs[i]!).n = to_ ∧ bs to_ = some i ∧ R.st = st ++ [(to_, (fs[i]!).s)] ∧ X fs bs st ∧ PR fs bs l R.st near ∧ SI fs bs l ∧ ∀ p ∈ st, p.1 ≠ to_) ∨ (R.hit = false ∧ e = .returned (.tuple #[I 0, .bool false, I R.code]))) := by
  have H0 := hide h0
  have HX := hide hX
  have HAL := hide hal
  have HSUM := hide hsum
  clear h0 hX hal hsum
  go_enter Tryd.func27, Tryd.ntmps27
  go_wp2_with fail
  go_loopw [] (fun wr => ∃ (fs : List Fd) (bs : Int → Option Nat) (l : List It) (fv v : Value) (st near : List Sn) (asked : List Int) (av gv : Value) (gl : List Value), PSB rs tail st near fs bs l asked ∧ SM Wb wr sb B mb h (.func (.func 9) #[ptr sh] #[]) (.func (.func 26) #[] #[]) fv v fs bs l fs.length st.length ∧ Shn Wb wr sh rv rs tail av gv (bas ++ asked) gl ∧ srch true rs tail (some to_) (-1) (4097 - st.length) st near asked = R ∧ X fs bs st ∧ Mv Wb (sTs ++ shTs) (fun b => b = mb) W wr ∧ AskO W wr av0 av) (fun wr => 4097 - cnt sb wr)
  case atStart => exact H0.out
  case round =>
    obtain ⟨fs, bs, l, fv, v, st, near, asked, av, gv, gl, ps, k, sn, hR, hx, mv, hao⟩ := hrel
    have HSE := hide (settle_any Wb wr sb B mb h (.func (.func 9) #[ptr sh] #[]) (.func (.func 26) #[] #[]) fv v fs bs l fs.length st.length k ps.si ps.c4)
    obtain ⟨f, hf⟩ : ∃ f, 4097 - st.length = f + 1 := ⟨4096 - st.length, by have := ps.c4; omega⟩
    rw [hf] at hR
    have HR := hide hR
    have HF := hide hf
    have HPS := hide ps
    have HK := hide k
    have HN := hide sn
    have HXX := hide hx
    have HM := hide mv
    have HAO := hide hao
    clear k sn mv hx hR ps hf hao
    go_wp2_with fail
    with_reducible refine HSE.out.mono ?_
    rintro e w2 ⟨r, v2, l2, c2, rfl, hst, hk2, hhi2, hmv2⟩
    have HN2 := hide (HN.out.mv hmv2 (fun e he => by simp at he; rcases he with rfl | rfl | rfl | rfl <;> decide))
    have HM2 := hide (HM.out.trans (hmv2.mono (fun e he => List.mem_append_left _ he) (fun _ q => q)))
    have HAO2 := hide (HAO.out.right hmv2 (by decide))
    have HK2 := hide hk2
    have HH2 := hide hhi2
    clear hk2 hmv2 hhi2 HSE
    cases hst with
    | none hall =>
      have hne : near = [] := by
        rcases near with _ | ⟨p, near⟩
        · rfl
        · obtain ⟨x, hx, hs, _⟩ := HPS.out.pr.stale (p := p) (by simp)
          exact absurd (hall x hx) hs
      have hr := HR.out
      rw [hne, srch_none] at hr
      have HR2 := hide hr
      clear hr hne hall
      go_wp2_with fail
      go_ret3
      rw [← HR2.out]
      exact ⟨fs, bs, _, _, _, _, _, _, _, HK2.out, HN2.out, HM2.out, HAO2.out, .inr ⟨rfl, rfl⟩⟩
    | steps x r0 hxl hns h4 =>
      have hr := HR.out
      have hne : near ≠ [] := fun e => by have := HPS.out.pr.fresh hxl hns; rw [e] at this; simp at this
      rw [srch_full hne h4] at hr
      have HR2 := hide hr
      clear hr hne hxl hns h4
      go_wp2_with fail
      go_ret3
      rw [← HR2.out]
      exact ⟨fs, bs, _, _, _, _, _, _, _, HK2.out, HN2.out, HM2.out, HAO2.out, .inr ⟨rfl, rfl⟩⟩
    | one x dead r0 hp hdead hns hr0 h4 =>
      obtain ⟨i, hxi, hil, hbi, hne, hnx, hpr, hsi, hle, hno⟩ := HPS.out.one hp hdead hns hr0 HH2.out
      obtain ⟨y, hy⟩ : ∃ y, fs[i]? = some y := ⟨_, List.getElem?_eq_getElem hil⟩
      have ey : fs[i]! = y := by simp [hy]
      obtain ⟨g, cap, hfv, hg, y1, y2, y3, y4⟩ := fin_at HK2.out.fin hy
      have hc2 := HK2.out.blk.cell
      rw [hfv] at hc2
      have hiI : (i : Int) < fs.length := by omega
      rw [hxi]
      have hr := HR.out
      have HPR := hide hpr
      have HSI := hide hsi
      have HLE := hide hle
      have HNO := hide hno
      have HBI := hide hbi
      have HEY := hide ey
      have hnx' : near[nextI near]! = (y.n, y.s) := by rw [hnx, ey]
      clear hp hdead hns hr0 hpr hsi hle hno hxi hy hfv hnx hbi ey
      by_cases hto : y.n = to_
      · have hr' := hr
        rw [srch_hit hne h4 (by rw [hnx']; exact congrArg some hto.symm), hnx'] at hr'
        have HR2 := hide hr'
        have htb : (y.n == to_) = true := by simpa using hto
        have HTO := hide hto
        clear hr hr' hto
        go_wp2_with fail
        go_ret3
        have e1 := HEY.out
        have hpr := HPR.out
        have hbi := HBI.out
        rw [e1, HTO.out] at hpr hbi
        refine ⟨fs, bs, _, _, _, _, _, _, _, HK2.out, by rw [← HR2.out]; exact HN2.out, HM2.out, HAO2.out, .inl ⟨by rw [← HR2.out], by rw [← HR2.out], i, st, _, rfl, hil, by rw [e1]; exact HTO.out, hbi, by rw [← HR2.out, e1, HTO.out], HXX.out, by rw [← HR2.out]; simp only; rw [HTO.out]; exact hpr, HSI.out, fun p hp => by have := HNO.out p hp; rw [HEY.out, HTO.out] at this; exact this⟩⟩
      · have htb : (y.n == to_) = false := beq_eq_false_iff_ne.2 hto
        have haim : (some to_ : Option Int) ≠ some (near[nextI near]!).1 := by rw [hnx']; intro e; exact hto (Option.some.inj e).symm
        have hps := HPS.out
        have hsum := hps.pr.sum i hil
        have HLK := hide (look_countedB Wb w2 sh sb B mb h fv v2 fs bs l2 (st.length + 1) rv rs tail av gv (bas ++ asked) gl i HK2.out HSI.out HN2.out hil hsum hrl (HAL.out _) (by rw [List.length_append]; have := hps.al; have := hps.c4; omega) (by have := hps.fl; have := HSUM.out st hps.nd hps.c4; omega))
        have hrx := PR.relax true y.s i (st ++ [(y.n, y.s)]) (by have := HLE.out; rw [HEY.out] at this; exact this) (by have := hsum.1; rw [HEY.out] at this; exact this) (netOf rs tail y.n).1 (fs := fs) (bs := bs) (l := l2) (near := near.eraseIdx (nextI near)) (by have := HPR.out; rw [HEY.out] at this; exact this)
        have hlp : lookP true rs tail i fs bs = if (netOf rs tail y.n).2 = 0 then relaxP true y.s i (netOf rs tail y.n).1 fs bs else ((netOf rs tail y.n).2, fs, bs) := by unfold lookP; rw [HEY.out]
        have HLP := hide hlp
        have HRX := hide hrx
        have HNX := hide hnx'
        have HNE := hide hne
        have HAI := hide haim
        have H4 := hide h4
        have HSU := hide hsum
        have HIL := hide hil
        have hst4 : st.length < 4096 := by have := hps.c4; omega
        have HS4 := hide hst4
        have HRR := hide hr
        obtain ⟨code, hcode⟩ : ∃ code, code = (lookP true rs tail i fs bs).1 := ⟨_, rfl⟩
        rw [← hcode] at HLK
        have HCD := hide hcode
        clear hr hlp hrx hnx' hne haim h4 hsum hps hst4 hcode hto
        go_wp2_with fail
        with_reducible refine HLK.out.mono ?_
        rintro e w3 ⟨fv3, v3, l3, av3, gv3, gl3, rfl, hk3, hsi3, hcm3, hsn3, hmv3, hao3⟩
        rw [HEY.out, List.append_assoc] at hsn3
        have HAO3 := hide (HAO2.out.trans hao3 HM2.out.size)
        have HM3 := hide (HM2.out.trans hmv3)
        have HK3 := hide hk3
        have HSI3 := hide hsi3
        have HCM3 := hide hcm3
        have HSN3 := hide hsn3
        clear hk3 hsi3 hcm3 hsn3 hmv3 hao3 HLK
        by_cases hc0 : code = 0
        · have hlp0 : (lookP true rs tail i fs bs).1 = 0 := by rw [← HCD.out]; exact hc0
          have hn0 : (netOf rs tail y.n).2 = 0 := by
            by_cases q : (netOf rs tail y.n).2 = 0
            · exact q
            · rw [HLP.out, if_neg q] at hlp0
              exact absurd hlp0 q
          have hlq : lookP true rs tail i fs bs = relaxP true y.s i (netOf rs tail y.n).1 fs bs := by rw [HLP.out, if_pos hn0]
          obtain ⟨q1, q2, q3, q4⟩ := HRX.out
          rw [← hlq] at q1 q2 q3 q4
          have hrz := q1.trans hlp0
          have hr := HRR.out
          rw [srch_go HNE.out H4.out HAI.out (.inl (by decide)) (by rw [HNX.out]; exact hn0) (by rw [HNX.out]; exact hrz), HNX.out] at hr
          have hfl := relaxP_len true y.s i (netOf rs tail y.n).1 fs bs
          rw [← hlq] at hfl
          have HREL : Hid (∃ (fs : List Fd) (bs : Int → Option Nat) (l : List It) (fv v : Value) (st near : List Sn) (asked : List Int) (av gv : Value) (gl : List Value), PSB rs tail st near fs bs l asked ∧ SM Wb w3 sb B mb h (.func (.func 9) #[ptr sh] #[]) (.func (.func 26) #[] #[]) fv v fs bs l fs.length st.length ∧ Shn Wb w3 sh rv rs tail av gv (bas ++ asked) gl ∧ srch true rs tail (some to_) (-1) (4097 - st.length) st near asked = R ∧ X fs bs st ∧ Mv Wb (sTs ++ shTs) (fun b => b = mb) W w3 ∧ AskO W w3 av0 av) := by
            have hps := HPS.out
            have hal := HAL.out y.n
            have hs4 := HS4.out
            have hlen : (st ++ [(y.n, y.s)]).length = st.length + 1 := by simp
            refine ⟨_, _, l3, fv3, v3, st ++ [(y.n, y.s)], _, asked ++ [y.n], av3, gv3, gl3, ⟨HSI3.out, q4 l3 HCM3.out, by omega, ?_, by have := hps.al; simp; omega, PSB.snoc hps.nd (fun p hp => by have := HNO.out p hp; rw [HEY.out] at this; exact this)⟩, by rw [hlen]; exact HK3.out, HSN3.out, ?_, ?_, HM3.out, HAO3.out⟩
            · have := hps.fl
              rw [List.map_append, List.sum_append]
              simp only [List.map_cons, List.map_nil, List.sum_cons, List.sum_nil]
              omega
            · rw [← hr, hlen]
              congr 1
              have := HF.out
              omega
            · have := HX.out fs bs l2 st _ i HPR.out hil HBI.out (fun p hp => ⟨HLE.out p (by simp [hp]), HNO.out p hp⟩) HXX.out hlp0
              rw [HEY.out] at this
              exact this
          have HMS : Hid (4097 - cnt sb w3 < 4097 - cnt sb wr) := by
            show _ < _
            rw [cnt_eq HK3.out, cnt_eq HK.out]
            have := HS4.out
            omega
          subst hc0
          clear hr hlq q1 q2 q3 q4 hrz hn0 hlp0 hfl
          go_wp2_with fail
          go_roundw
          case rel => exact HREL.out
          case measure => exact HMS.out
        · have hcb : (code == 0) = false := beq_eq_false_iff_ne.2 hc0
          have HRE : Hid (R = ⟨st ++ [(y.n, y.s)], asked ++ [y.n], code, false⟩) := by
            have hr := HRR.out
            have hcd := HCD.out
            show R = _
            by_cases q : (netOf rs tail y.n).2 = 0
            · rw [HLP.out, if_pos q, ← HRX.out.1] at hcd
              rw [srch_far HNE.out H4.out HAI.out (.inl (by decide)) (by rw [HNX.out]; exact q) (by rw [HNX.out]; simp only; rw [← hcd]; exact hc0), HNX.out] at hr
              rw [← hr, hcd]
            · rw [HLP.out, if_neg q] at hcd
              rw [srch_err HNE.out H4.out HAI.out (.inl (by decide)) (by rw [HNX.out]; exact q), HNX.out] at hr
              rw [← hr, hcd]
          clear hc0
          go_wp2_with fail
          go_ret3
          refine ⟨_, _, _, _, _, _, av3, gv3, gl3, HK3.out, ?_, HM3.out, HAO3.out, .inr ⟨?_, ?_⟩⟩
          · rw [HRE.out]; exact HSN3.out
          · rw [HRE.out]
          · rw [HRE.out]; rfl
theorem PSB.init {rs : List Nr} {tail : Bool} {from_ : Int} (hr : R64 from_) : PSB rs tail [] [(from_, 0)] [⟨from_, 0, 0, -1⟩] (upd (fun _ => none) from_ (some 0)) [(0, 0)] [] := by
  have h := PS.init hr
  exact ⟨h.si, h.pr, h.c4, by simp, h.al, by simp⟩
set_option maxRecDepth 100000 in
set_option maxHeartbeats 2000000 in
theorem hops_anyB (Wb W : World) (sh : Nat) (rv : Value) (rs : List Nr) (tail : Bool) (av gv : Value) (from_ to_ : Int) (bas : List Int) (gl : List Value) (hbas : bas.length ≤ 4294967296) (sn : Shn Wb W sh rv rs tail av gv bas gl) (hf : R64 from_) (hrl : rs.length ≤ 1048576) (hal : ∀ id, (netOf rs tail id).1.length ≤ 1073741824) (hsum : ∀ st : List Sn, (st.map (·.1)).Nodup → st.length ≤ 4096 → (st.map fun p => (netOf rs tail p.1).1.length).sum ≤ 8589934592) (R : Rs) (hR : R = srch true rs tail (some to_) (-1) 4097 [] [(from_, 0)] []) :
    Calls Tryd.prog 19 #[(.func (.func 9) #[ptr sh] #[]), I from_, I to_] W fun e W' => e = .returned (hopsV R) ∧ (∃ av' gv' gl', Shn Wb W' sh rv rs tail av' gv' (bas ++ R.asked) gl' ∧ AskO W W' av av') ∧ ∃ mp, Mv Wb (sTs ++ shTs) mp W W' := by
  have HNW := hide (new_any W (.func 9) (.func 26) #[ptr sh] #[] #[] #[] from_ hf)
  have q0 : ∀ w : World, (binOp .eql 35 (.func (.func 9) #[ptr sh] #[]) .nilFunc).run Tryd.prog w = .ok (.bool false) w := fun w => by rfl
  have HSN := hide sn
  have HR := hide hR
  have HAL := hide hal
  have HSUM := hide hsum
  clear sn hR hal hsum
  go_enter Tryd.func19, Tryd.ntmps19
  go_wp2_with fail
  refine HNW.out.mono ?_
  rintro e w1 ⟨sb, B, mb, h, fv, v, rfl, hk⟩
  have HK := hide (hk.base HSN.out.g)
  have HN1 := hide (HSN.out.G hk.g)
  have HMV : Hid (∀ mp, Mv Wb (sTs ++ shTs) mp W w1) := fun mp => .of_G HSN.out.g hk.g
  have HG1 := hide hk.g
  clear hk HNW
  have HUN := hide (until_countedB (fun _ _ _ => True) Wb w1 sh sb B mb h rv rs tail to_ R bas hbas av (fun _ _ _ _ _ _ _ _ _ _ _ _ => trivial) hrl HAL.out HSUM.out ⟨_, _, _, fv, v, [], [(from_, 0)], [], av, gv, gl, PSB.init hf, HK.out, by rw [List.append_nil]; exact HN1.out, HR.out.symm, trivial, Mv.refl _ _ _ _, AskO.refl _ _⟩)
  go_wp2_with fail
  refine HUN.out.mono ?_
  rintro e w2 ⟨fs, bs, l, fv2, v2, c, av2, gv2, gl2, hk2, hn2, hmv2, hao2, hres⟩
  have HM2 := hide ((HMV.out _).trans hmv2)
  have HAO2 := hide (hao2.left HG1.out)
  clear hmv2 hao2
  have HN2 := hide hn2
  have HK2 := hide hk2
  clear hn2 hk2 HUN
  rcases hres with ⟨hhit, hcode, i, st, near, rfl, hil, hni, hbi, hst, -, -, -⟩ | ⟨hhit, rfl⟩
  · obtain ⟨x, hx⟩ : ∃ x, fs[i]? = some x := ⟨_, List.getElem?_eq_getElem hil⟩
    have ex : fs[i]! = x := by simp [hx]
    obtain ⟨g, cap, hfv, hg, x1, x2, x3, x4⟩ := fin_at HK2.out.fin hx
    have hc := HK2.out.blk.cell
    rw [hfv] at hc
    have hiI : (i : Int) < fs.length := by omega
    have HE : Hid (hopsV R = .tuple #[I x.s, .bool true, I 0]) := by
      show _ = _
      unfold hopsV
      rw [if_pos hhit, hst, ex]
      simp
    clear hhit hcode hni hbi hst hfv ex hx
    go_wp2_with fail
    go_ret3
    rw [HE.out]
    exact ⟨rfl, ⟨_, _, _, HN2.out, HAO2.out⟩, _, HM2.out⟩
  · have HE : Hid (hopsV R = .tuple #[I 0, .bool false, I R.code]) := by
      show _ = _
      unfold hopsV
      rw [if_neg (by rw [hhit]; simp)]
    clear hhit
    go_wp2_with fail
    go_ret3
    rw [HE.out]
    exact ⟨rfl, ⟨_, _, _, HN2.out, HAO2.out⟩, _, HM2.out⟩
end
open Go.RowKit

/-- Those of the arcs that lead to y. -/
def outs (A : List Ar) (y : Int) : List Ar := A.filter fun a => a.2.1 == y
/-- For each of the arcs that leads to x one to y. -/
def ins (A : List Ar) (x y : Int) : List Ar := (A.filter fun a => a.2.1 == x).map fun _ => (0, y, 0)
/-- The arcs of x, both ways, as far as the nodes ks. -/
def bothA (rs : List Nr) (x : Int) (ks : List Int) : List Ar := ks.flatMap fun y => outs (netOf rs false x).1 y ++ ins (netOf rs false y).1 x y
def bothR (rs : List Nr) (nodes : List Int) (x : Int) : Nr := ⟨x, bothA rs x nodes, 0⟩
theorem outs_take {A : List Ar} {y : Int} {j : Nat} {a : Ar} (h : A[j]? = some a) : outs (A.take (j + 1)) y = outs (A.take j) y ++ (if a.2.1 = y then [a] else []) := by
  unfold outs
  rw [List.take_add_one, h, List.filter_append]
  congr 1
  by_cases e : a.2.1 = y <;> simp [e]
theorem ins_take {A : List Ar} {x y : Int} {j : Nat} {a : Ar} (h : A[j]? = some a) : ins (A.take (j + 1)) x y = ins (A.take j) x y ++ (if a.2.1 = x then [(0, y, 0)] else []) := by
  unfold ins
  rw [List.take_add_one, h, List.filter_append, List.map_append]
  congr 1
  by_cases e : a.2.1 = x <;> simp [e]
theorem outs_len (A : List Ar) (y : Int) : (outs A y).length ≤ A.length := List.length_filter_le _ _
theorem ins_len (A : List Ar) (x y : Int) : (ins A x y).length ≤ A.length := by
  unfold ins
  rw [List.length_map]
  exact List.length_filter_le _ _
theorem bothA_take {rs : List Nr} {x : Int} {ks : List Int} {k : Nat} {y : Int} (h : ks[k]? = some y) : bothA rs x (ks.take (k + 1)) = bothA rs x (ks.take k) ++ (outs (netOf rs false x).1 y ++ ins (netOf rs false y).1 x y) := by
  unfold bothA
  rw [List.take_add_one, h, List.flatMap_append]
  simp
theorem bothA_len {rs : List Nr} (x : Int) (ks : List Int) (N : Nat) (hN : ∀ id, (netOf rs false id).1.length ≤ N) : (bothA rs x ks).length ≤ ks.length * (2 * N) := by
  unfold bothA
  induction ks with
  | nil => simp
  | cons y ks ih =>
    rw [List.flatMap_cons, List.length_append, List.length_append, List.length_cons]
    have h1 := Nat.le_trans (outs_len (netOf rs false x).1 y) (hN x)
    have h2 := Nat.le_trans (ins_len (netOf rs false y).1 x y) (hN y)
    rw [Nat.add_mul]
    omega
theorem bothA_mem {rs : List Nr} {x : Int} {ks : List Int} {z : Int} : (∃ a ∈ bothA rs x ks, a.2.1 = z) ↔ z ∈ ks ∧ ((∃ a ∈ (netOf rs false x).1, a.2.1 = z) ∨ ∃ a ∈ (netOf rs false z).1, a.2.1 = x) := by
  constructor
  · rintro ⟨a, ha, rfl⟩
    obtain ⟨y, hy, ha⟩ := List.mem_flatMap.1 ha
    rcases List.mem_append.1 ha with q | q
    · obtain ⟨h1, h2⟩ := List.mem_filter.1 q
      have e : a.2.1 = y := by simpa using h2
      rw [e]
      exact ⟨hy, .inl ⟨a, h1, e⟩⟩
    · obtain ⟨b, hb, rfl⟩ := List.mem_map.1 q
      obtain ⟨h1, h2⟩ := List.mem_filter.1 hb
      exact ⟨hy, .inr ⟨b, h1, by simpa using h2⟩⟩
  · rintro ⟨hz, ⟨a, ha, e⟩ | ⟨a, ha, e⟩⟩
    · exact ⟨a, List.mem_flatMap.2 ⟨z, hz, List.mem_append_left _ (List.mem_filter.2 ⟨ha, by simpa using e⟩)⟩, e⟩
    · exact ⟨(0, z, 0), List.mem_flatMap.2 ⟨z, hz, List.mem_append_right _ (List.mem_map.2 ⟨a, List.mem_filter.2 ⟨ha, by simpa using e⟩, rfl⟩)⟩, rfl⟩
/-- The net both ways: what it answers. -/
theorem both_in {rs : List Nr} {nodes : List Int} {x : Int} (h : x ∈ nodes) : netOf (nodes.map (bothR rs nodes)) false x = (bothA rs x nodes, 0) := by
  unfold netOf
  have : (nodes.map (bothR rs nodes)).find? (fun r => r.id == x) = some (bothR rs nodes x) := by
    rw [List.find?_map]
    have e : (nodes.find? ((fun r : Nr => r.id == x) ∘ bothR rs nodes)) = some x := by
      cases q : nodes.find? ((fun r : Nr => r.id == x) ∘ bothR rs nodes) with
      | none =>
        rw [List.find?_eq_none] at q
        exact absurd (q x h) (by simp [bothR])
      | some y =>
        have := List.find?_some q
        simp [bothR] at this
        rw [this]
    rw [e]
    rfl
  rw [this]
  simp [bothR]
theorem both_out {rs : List Nr} {nodes : List Int} {x : Int} (h : x ∉ nodes) : netOf (nodes.map (bothR rs nodes)) false x = ([], 0) := by
  unfold netOf
  have : (nodes.map (bothR rs nodes)).find? (fun r => r.id == x) = none := by
    rw [List.find?_eq_none]
    intro r hr
    obtain ⟨y, hy, rfl⟩ := List.mem_map.1 hr
    simp only [bothR, beq_iff_eq]
    exact fun e => h (e ▸ hy)
  rw [this]
  simp
theorem both_mild {rs : List Nr} {nodes : List Int} (hl : nodes.length ≤ 1000) : Mild true (nodes.map (bothR rs nodes)) false nodes := by
  refine ⟨fun id => ?_, fun id a ha => ?_, fun id a ha => ?_, hl⟩
  · by_cases h : id ∈ nodes
    · rw [both_in h]
    · rw [both_out h]
  · simp [wei]
  · by_cases h : id ∈ nodes
    · rw [both_in h] at ha
      exact (bothA_mem.1 ⟨a, ha, rfl⟩).1
    · rw [both_out h] at ha
      simp at ha
theorem both_len {rs : List Nr} {nodes : List Int} (N : Nat) (hN : ∀ id, (netOf rs false id).1.length ≤ N) (hl : nodes.length ≤ 200) (id : Int) : (netOf (nodes.map (bothR rs nodes)) false id).1.length ≤ 400 * N := by
  by_cases h : id ∈ nodes
  · rw [both_in h]
    have := bothA_len id nodes N hN
    have h2 : nodes.length * (2 * N) ≤ 200 * (2 * N) := Nat.mul_le_mul_right _ hl
    show (bothA rs id nodes).length ≤ _
    omega
  · rw [both_out h]
    simp
/-- Joined, as ids. -/
theorem Dst.trans {hops : Bool} {rs : List Nr} {tail : Bool} {a b c s t : Int} (h : Dst hops rs tail a b s) (k : Dst hops rs tail b c t) : ∃ u, Dst hops rs tail a c u := by
  induction k with
  | base => exact ⟨_, h⟩
  | step _ ha ih =>
    obtain ⟨u, hu⟩ := ih
    exact ⟨_, hu.step ha⟩
theorem Dst.one {hops : Bool} {rs : List Nr} {tail : Bool} {x : Int} {a : Ar} (h : a ∈ (netOf rs tail x).1) : ∃ u, Dst hops rs tail x a.2.1 u := ⟨_, Dst.base.step h⟩
section
variable {rs : List Nr} {ids nodes : List Int}
theorem AR_iff (i j : Nat) : (AR (ids.map fun id => insL (atI ids) (netOf rs false id).1) (ids.map fun id => insL (atI ids) (netOf rs false id).1).length 0) i j ↔ i < ids.length ∧ ∃ a ∈ (netOf rs false ids[i]!).1, atI ids a.2.1 = some j := by
  constructor
  · rintro (⟨h1, h2⟩ | ⟨_, h2⟩)
    · rw [List.length_map] at h1
      rw [LL_at h1] at h2
      exact ⟨h1, insL_mem.1 h2⟩
    · simp at h2
  · rintro ⟨h1, h2⟩
    refine .inl ⟨by rw [List.length_map]; exact h1, ?_⟩
    rw [LL_at h1]
    exact insL_mem.2 h2
theorem AR_in : ∀ i j, (AR (ids.map fun id => insL (atI ids) (netOf rs false id).1) (ids.map fun id => insL (atI ids) (netOf rs false id).1).length 0) i j → i < ids.length ∧ j < ids.length := fun i j h => by
  obtain ⟨h1, a, -, h2⟩ := (AR_iff i j).1 h
  exact ⟨h1, (List.getElem?_eq_some_iff.1 (atI_some h2)).1⟩
theorem Jn_in {i j : Nat} (h : Jn (AR (ids.map fun id => insL (atI ids) (netOf rs false id).1) (ids.map fun id => insL (atI ids) (netOf rs false id).1).length 0) i j) : i < ids.length ↔ j < ids.length := by
  induction h with
  | refl i => exact Iff.rfl
  | arc q => exact ⟨fun _ => (AR_in _ _ q).2, fun _ => (AR_in _ _ q).1⟩
  | symm _ ih => exact ih.symm
  | trans _ _ a b => exact a.trans b
theorem at_mem {j : Nat} {x : Int} (h : atI ids x = some j) : ids[j]! = x := by
  have := atI_some h
  simp [this]
/-- Joined ones reach one another in the net both ways. -/
theorem Jn_dst (hmem : ∀ a, a ∈ ids ↔ a ∈ nodes) {i j : Nat} (h : Jn (AR (ids.map fun id => insL (atI ids) (netOf rs false id).1) (ids.map fun id => insL (atI ids) (netOf rs false id).1).length 0) i j) : (∃ s, Dst true (nodes.map (bothR rs nodes)) false ids[i]! ids[j]! s) ∧ ∃ s, Dst true (nodes.map (bothR rs nodes)) false ids[j]! ids[i]! s := by
  induction h with
  | refl i => exact ⟨⟨0, .base⟩, ⟨0, .base⟩⟩
  | @arc i j q =>
    obtain ⟨h1, a, ha, h2⟩ := (AR_iff i j).1 q
    have hj := (AR_in i j q).2
    have e2 := at_mem h2
    have mi : ids[i]! ∈ nodes := by rw [← hmem, Hp.get_of h1]; exact List.getElem_mem h1
    have mj : ids[j]! ∈ nodes := by rw [← hmem, Hp.get_of hj]; exact List.getElem_mem hj
    constructor
    · obtain ⟨b, hb, e⟩ := (bothA_mem (rs := rs) (x := ids[i]!) (ks := nodes) (z := ids[j]!)).2 ⟨mj, .inl ⟨a, ha, e2.symm⟩⟩
      have := Dst.one (hops := true) (rs := nodes.map (bothR rs nodes)) (tail := false) (x := ids[i]!) (a := b) (by rw [both_in mi]; exact hb)
      rw [e] at this
      exact this
    · obtain ⟨b, hb, e⟩ := (bothA_mem (rs := rs) (x := ids[j]!) (ks := nodes) (z := ids[i]!)).2 ⟨mi, .inr ⟨a, ha, e2.symm⟩⟩
      have := Dst.one (hops := true) (rs := nodes.map (bothR rs nodes)) (tail := false) (x := ids[j]!) (a := b) (by rw [both_in mj]; exact hb)
      rw [e] at this
      exact this
  | symm _ ih => exact ⟨ih.2, ih.1⟩
  | trans _ _ a b =>
    obtain ⟨⟨s1, a1⟩, ⟨s2, a2⟩⟩ := a
    obtain ⟨⟨t1, b1⟩, ⟨t2, b2⟩⟩ := b
    exact ⟨a1.trans b1, b2.trans a2⟩
/-- What is reached in the net both ways is joined. -/
theorem dst_Jn (hmem : ∀ a, a ∈ ids ↔ a ∈ nodes) {x y s : Int} (h : Dst true (nodes.map (bothR rs nodes)) false x y s) {i : Nat} (hi : atI ids x = some i) : ∃ j, atI ids y = some j ∧ Jn (AR (ids.map fun id => insL (atI ids) (netOf rs false id).1) (ids.map fun id => insL (atI ids) (netOf rs false id).1).length 0) i j := by
  induction h with
  | base => exact ⟨i, hi, .refl i⟩
  | @step u s a _ ha ih =>
    obtain ⟨k, hk, hJ⟩ := ih
    have hkl := (List.getElem?_eq_some_iff.1 (atI_some hk)).1
    have eu := at_mem hk
    have mu : u ∈ nodes := by rw [← hmem, ← eu, Hp.get_of hkl]; exact List.getElem_mem hkl
    rw [both_in mu] at ha
    obtain ⟨mz, hz⟩ := bothA_mem.1 ⟨a, ha, rfl⟩
    obtain ⟨j, hj⟩ : ∃ j, atI ids a.2.1 = some j := by
      cases q : atI ids a.2.1 with
      | none => exact absurd ((hmem _).2 mz) (atI_none.1 q)
      | some j => exact ⟨j, rfl⟩
    have hjl := (List.getElem?_eq_some_iff.1 (atI_some hj)).1
    refine ⟨j, hj, hJ.trans ?_⟩
    rcases hz with ⟨b, hb, e⟩ | ⟨b, hb, e⟩
    · exact .arc ((AR_iff k j).2 ⟨hkl, b, by rw [eu]; exact hb, by rw [e]; exact hj⟩)
    · exact .symm (.arc ((AR_iff j k).2 ⟨hjl, b, by rw [at_mem hj]; exact hb, by rw [e]; exact hk⟩))
/-- What Parts tells, of the nodes: p. -/
structure Pts (nodes : List Int) (B : List Nr) (p : Int → Int) : Prop where
  inn : ∀ x ∈ nodes, p x ∈ nodes
  le : ∀ x ∈ nodes, p x ≤ x
  own : ∀ x ∈ nodes, p (p x) = p x
  to_ : ∀ x ∈ nodes, ∃ s, Dst true B false (p x) x s
  iff_ : ∀ x ∈ nodes, ∀ y ∈ nodes, (∃ s, Dst true B false x y s) ↔ p x = p y
theorem pts_of (hids : ids.Pairwise (· < ·)) (hmem : ∀ a, a ∈ ids ↔ a ∈ nodes) (F : List Nat) (hl : ∀ i, i < ids.length → Jn (AR (ids.map fun id => insL (atI ids) (netOf rs false id).1) (ids.map fun id => insL (atI ids) (netOf rs false id).1).length 0) i F[i]! ∧ ∀ j, Jn (AR (ids.map fun id => insL (atI ids) (netOf rs false id).1) (ids.map fun id => insL (atI ids) (netOf rs false id).1).length 0) i j → F[i]! ≤ j) : Pts nodes (nodes.map (bothR rs nodes)) (fun x => ids[F[(atI ids x).getD 0]!]!) := by
  have hat : ∀ x ∈ nodes, ∃ i, atI ids x = some i ∧ i < ids.length ∧ ids[i]! = x := fun x hx => by
    cases q : atI ids x with
    | none => exact absurd ((hmem x).2 hx) (atI_none.1 q)
    | some i => exact ⟨i, rfl, (List.getElem?_eq_some_iff.1 (atI_some q)).1, at_mem q⟩
  have hsame : ∀ i j, i < ids.length → Jn (AR (ids.map fun id => insL (atI ids) (netOf rs false id).1) (ids.map fun id => insL (atI ids) (netOf rs false id).1).length 0) i j → F[i]! = F[j]! := fun i j hi h => by
    have hj := (Jn_in h).1 hi
    exact Nat.le_antisymm ((hl i hi).2 _ (h.trans (hl j hj).1)) ((hl j hj).2 _ (h.symm.trans (hl i hi).1))
  have hFl : ∀ i, i < ids.length → F[i]! < ids.length := fun i hi => (Jn_in (hl i hi).1).1 hi
  have hgm : ∀ i, i < ids.length → ids[i]! ∈ nodes := fun i hi => by
    rw [← hmem, Hp.get_of hi]
    exact List.getElem_mem hi
  have hai : ∀ i, i < ids.length → atI ids ids[i]! = some i := fun i hi => atI_get hids (by rw [Hp.get_of hi]; exact List.getElem?_eq_getElem hi)
  have hmono : ∀ i j, i ≤ j → j < ids.length → ids[i]! ≤ ids[j]! := fun i j hij hj => by
    rw [Hp.get_of (by omega), Hp.get_of hj]
    rcases Nat.lt_or_eq_of_le hij with q | q
    · exact Int.le_of_lt ((List.pairwise_iff_getElem.1 hids) i j (by omega) hj q)
    · subst q; exact Int.le_refl _
  refine ⟨fun x hx => ?_, fun x hx => ?_, fun x hx => ?_, fun x hx => ?_, fun x hx y hy => ?_⟩
  · obtain ⟨i, e, hi, -⟩ := hat x hx
    simp only [e, Option.getD_some]
    exact hgm _ (hFl i hi)
  · obtain ⟨i, e, hi, e2⟩ := hat x hx
    simp only [e, Option.getD_some]
    have := hmono F[i]! i ((hl i hi).2 i (.refl i)) hi
    rw [e2] at this
    exact this
  · obtain ⟨i, e, hi, e2⟩ := hat x hx
    simp only [e, Option.getD_some, hai _ (hFl i hi)]
    rw [← hsame i _ hi (hl i hi).1]
  · obtain ⟨i, e, hi, e2⟩ := hat x hx
    simp only [e, Option.getD_some]
    have := (Jn_dst hmem (hl i hi).1).2
    rw [e2] at this
    exact this
  · obtain ⟨i, e, hi, e2⟩ := hat x hx
    obtain ⟨j, f, hj, f2⟩ := hat y hy
    simp only [e, f, Option.getD_some]
    constructor
    · rintro ⟨s, hs⟩
      obtain ⟨k, hk, hJ⟩ := dst_Jn hmem hs e
      rw [f] at hk
      cases hk
      rw [hsame i j hi hJ]
    · intro h
      have h1 := hai _ (hFl i hi)
      have h2 := hai _ (hFl j hj)
      rw [h, h2] at h1
      have e3 : F[j]! = F[i]! := Option.some.inj h1
      have hJ : Jn (AR (ids.map fun id => insL (atI ids) (netOf rs false id).1) (ids.map fun id => insL (atI ids) (netOf rs false id).1).length 0) i j := (hl i hi).1.trans (by rw [← e3]; exact (hl j hj).1.symm)
      have := (Jn_dst hmem hJ).1
      rw [e2, f2] at this
      exact this
end
end
open Go.RowKit

theorem sum_none (z : Int) : ∀ S : List Int, z ∉ S → (S.map fun x => if z = x then 1 else 0).sum = 0
  | [], _ => rfl
  | x :: S, h => by
    rw [List.map_cons, List.sum_cons, if_neg (fun e => h (by rw [e]; exact List.mem_cons_self ..)), sum_none z S (fun q => h (List.mem_cons_of_mem _ q))]
theorem sum_nix : ∀ S : List Int, (S.map fun _ => 0).sum = 0
  | [] => rfl
  | _ :: S => by rw [List.map_cons, List.sum_cons, sum_nix S]
theorem sum_count (S : List Int) (z : Int) (hS : S.Nodup) : (S.map fun x => if z = x then 1 else 0).sum ≤ 1 := by
  induction S with
  | nil => simp
  | cons x S ih =>
    obtain ⟨h1, h2⟩ := List.nodup_cons.1 hS
    rw [List.map_cons, List.sum_cons]
    by_cases e : z = x
    · rw [if_pos e, sum_none z S (by rw [e]; exact h1)]
      exact Nat.le_refl _
    · rw [if_neg e]
      have := ih h2
      omega
theorem sum_add (S : List Int) (f g : Int → Nat) : (S.map fun x => f x + g x).sum = (S.map f).sum + (S.map g).sum := by
  induction S with
  | nil => rfl
  | cons x S ih => simp only [List.map_cons, List.sum_cons, ih]; omega
theorem sum_mono (S : List Int) (f g : Int → Nat) (h : ∀ x ∈ S, f x ≤ g x) : (S.map f).sum ≤ (S.map g).sum := by
  induction S with
  | nil => simp
  | cons x S ih =>
    simp only [List.map_cons, List.sum_cons]
    have := h x (List.mem_cons_self ..)
    have := ih (fun y hy => h y (List.mem_cons_of_mem _ hy))
    omega
theorem sum_filter (S : List Int) (hS : S.Nodup) (L : List Ar) : (S.map fun x => (L.filter fun a => a.2.1 == x).length).sum ≤ L.length := by
  induction L with
  | nil =>
    have e : (fun x : Int => (([] : List Ar).filter fun a => a.2.1 == x).length) = fun _ => 0 := rfl
    rw [e, sum_nix]
    exact Nat.zero_le _
  | cons a L ih =>
    have e : (fun x => ((a :: L).filter fun b => b.2.1 == x).length) = fun x => (if a.2.1 = x then 1 else 0) + (L.filter fun b => b.2.1 == x).length := by
      funext x
      by_cases h : a.2.1 = x
      · simp [h]; omega
      · simp [h]
    rw [e, sum_add, List.length_cons]
    have := sum_count S a.2.1 hS
    omega
/-- Unlike nodes have unlike rows. -/
theorem sum_rows (rs : List Nr) (S : List Int) (hS : S.Nodup) : (S.map fun x => (netOf rs false x).1.length).sum ≤ (rs.map fun r => r.arcs.length).sum := by
  induction rs with
  | nil =>
    have e : (fun x => (netOf [] false x).1.length) = fun _ => 0 := by funext x; simp [netOf]
    rw [e]
    rw [sum_nix]
    exact Nat.zero_le _
  | cons r rs ih =>
    rw [List.map_cons, List.sum_cons]
    have h1 : (S.map fun x => (netOf (r :: rs) false x).1.length).sum ≤ (S.map fun x => (if r.id = x then r.arcs.length else 0) + (netOf rs false x).1.length).sum := by
      refine sum_mono S _ _ (fun x _ => ?_)
      unfold netOf
      rw [List.find?_cons]
      by_cases e : r.id = x
      · simp only [e, beq_self_eq_true, if_true]
        split <;> simp
      · have : (r.id == x) = false := beq_eq_false_iff_ne.2 e
        simp only [this, if_neg e, Nat.zero_add]
        exact Nat.le_refl _
    rw [sum_add] at h1
    have h2 : (S.map fun x => if r.id = x then r.arcs.length else 0).sum ≤ r.arcs.length := by
      have : ∀ S : List Int, (S.map fun x => if r.id = x then r.arcs.length else 0).sum = r.arcs.length * (S.map fun x => if r.id = x then 1 else 0).sum := fun S => by
        induction S with
        | nil => rfl
        | cons x S ih =>
          simp only [List.map_cons, List.sum_cons, ih, Nat.mul_add]
          congr 1
          split <;> simp
      rw [this]
      calc r.arcs.length * _ ≤ r.arcs.length * 1 := Nat.mul_le_mul_left _ (sum_count S r.id hS)
        _ = r.arcs.length := Nat.mul_one _
    omega
theorem sum_both (rs : List Nr) (N : Nat) (hN : ∀ id, (netOf rs false id).1.length ≤ N) (S : List Int) (hS : S.Nodup) (ks : List Int) : (S.map fun x => (bothA rs x ks).length).sum ≤ ks.length * ((S.map fun x => (netOf rs false x).1.length).sum + N) := by
  induction ks with
  | nil =>
    have e : (fun x => (bothA rs x []).length) = fun _ => 0 := by funext x; simp [bothA]
    rw [e]
    rw [sum_nix]
    exact Nat.zero_le _
  | cons y ks ih =>
    have e : (fun x => (bothA rs x (y :: ks)).length) = fun x => ((outs (netOf rs false x).1 y).length + (ins (netOf rs false y).1 x y).length) + (bothA rs x ks).length := by
      funext x
      unfold bothA
      rw [List.flatMap_cons, List.length_append, List.length_append]
    rw [e, sum_add, sum_add, List.length_cons, Nat.add_mul, Nat.one_mul]
    have h1 := sum_mono S (fun x => (outs (netOf rs false x).1 y).length) (fun x => (netOf rs false x).1.length) (fun x _ => outs_len _ _)
    have h2 : (S.map fun x => (ins (netOf rs false y).1 x y).length).sum ≤ N := by
      have e2 : (fun x => (ins (netOf rs false y).1 x y).length) = fun x => ((netOf rs false y).1.filter fun a => a.2.1 == x).length := by
        funext x
        unfold ins
        rw [List.length_map]
      rw [e2]
      exact Nat.le_trans (sum_filter S hS _) (hN y)
    omega
theorem both_sum {rs : List Nr} {nodes : List Int} (hT : (rs.map fun r => r.arcs.length).sum ≤ 1048576) (hN : ∀ id, (netOf rs false id).1.length ≤ 1048576) (hl : nodes.length ≤ 200) (st : List Sn) (hnd : (st.map (·.1)).Nodup) : (st.map fun p => (netOf (nodes.map (bothR rs nodes)) false p.1).1.length).sum ≤ 8589934592 := by
  have e : (st.map fun p => (netOf (nodes.map (bothR rs nodes)) false p.1).1.length) = (st.map (·.1)).map fun x => (netOf (nodes.map (bothR rs nodes)) false x).1.length := by rw [List.map_map]; rfl
  rw [e]
  have h1 := sum_mono (st.map (·.1)) (fun x => (netOf (nodes.map (bothR rs nodes)) false x).1.length) (fun x => (bothA rs x nodes).length) (fun x _ => by
    by_cases h : x ∈ nodes
    · rw [both_in h]; exact Nat.le_refl _
    · rw [both_out h]; exact Nat.zero_le _)
  have h2 := sum_both rs 1048576 hN _ hnd nodes
  have h3 := sum_rows rs _ hnd
  have h4 : nodes.length * (((st.map (·.1)).map fun x => (netOf rs false x).1.length).sum + 1048576) ≤ 200 * (1048576 + 1048576) := Nat.mul_le_mul hl (by omega)
  omega
set_option maxRecDepth 100000 in
set_option maxHeartbeats 2000000 in
theorem of_anyF (Wb W : World) (rv : Value) (rs : List Nr) (tail : Bool) (id : Int) (h : Nrs Wb rv rs) (hGb : G Wb W) (htl : tail = false) (hl : rs.length ≤ 1048576) :
    Calls Tryd.prog 11 #[.agg #[rv, .bool tail], I id] W fun e W' => ∃ v', e = .returned (.tuple #[v', I (netOf rs tail id).2]) ∧ Arcs Wb v' (netOf rs tail id).1 ∧ G W W' := by
  have hX := h
  obtain ⟨a, cap, rfl, h1⟩ := h
  have HX := hide hX
  have HGB := hide hGb
  have H1 := hide h1
  have HG := hide ((G.refl W).alloc (.cells #[.slice a rs.length cap, .bool tail] 26))
  have HB := hide (Blk.new W [.slice a rs.length cap, .bool tail] 26)
  have HTL := hide htl
  clear hX h1 hGb htl
  go_enter Tryd.func11, Tryd.ntmps11
  go_wp2_with fail
  generalize W.alloc (.cells #[.slice a rs.length cap, .bool tail] 26) = w1 at HG HB ⊢
  go_loopw [6] (fun iv wr => ∃ k : Nat, iv = I k ∧ k ≤ rs.length ∧ (∀ j r, j < k → rs[j]? = some r → r.id ≠ id) ∧ wr = w1) (fun iv _ => rs.length - (RowKit.intOf iv).toNat)
  case atStart => exact ⟨0, rfl, Nat.zero_le _, fun j r hj => by omega, rfl⟩
  case round =>
    obtain ⟨k, rfl, hk, hno, rfl⟩ := hrel
    have hc := HB.out.cell
    by_cases hkl : k < rs.length
    · have hkI : (k : Int) < rs.length := by omega
      obtain ⟨r, hrk⟩ : ∃ r, rs[k]? = some r := ⟨_, List.getElem?_eq_getElem hkl⟩
      obtain ⟨b, off, rfl, h2⟩ : ∃ b off, a = some ⟨b, off, none⟩ ∧ ∀ i r, rs[i]? = some r → Wb.cell? ⟨b, off + i * 3, none⟩ = some (I r.id) ∧ (∃ va, Wb.cell? ⟨b, off + i * 3 + 1, none⟩ = some va ∧ Arcs Wb va r.arcs) ∧ Wb.cell? ⟨b, off + i * 3 + 2, none⟩ = some (I r.code) ∧ R64 r.id := by
        rcases H1.out with rfl | q
        · simp at hrk
        · exact q
      obtain ⟨c1, ⟨va, c2, h3⟩, c3, h4⟩ := h2 k r hrk
      have hbl := cell_lt c1
      rw [← (HGB.out.trans HG.out).cell hbl] at c1 c2 c3
      have HA := hide h3
      have HRK := hide hrk
      have HNO := hide hno
      have HKL := hide hkl
      clear h2 h3 h4 hbl hrk hno hkl
      by_cases e1 : r.id = id
      · have HE := hide e1
        have e1b : (r.id == id) = true := by simpa using e1
        clear e1
        by_cases e2 : r.code = 0
        · rw [e2] at c3
          have HF : Hid (netOf rs tail id = (r.arcs, 0)) := by
            show _ = _
            unfold netOf
            rw [find_at HRK.out HE.out HNO.out]
            simp [e2]
          clear e2
          go_wp2_with fail
          go_ret2
          rw [HF.out]
          exact ⟨va, rfl, HA.out, HG.out⟩
        · have e2b : (r.code == 0) = false := beq_eq_false_iff_ne.2 e2
          have HF : Hid (netOf rs tail id = ([], r.code)) := by
            show _ = _
            unfold netOf
            rw [find_at HRK.out HE.out HNO.out]
            simp [e2]
          clear e2
          go_wp2_with fail
          go_quiet (fail)
          go_wp2_with fail
          go_ret2
          rw [HF.out]
          exact ⟨_, rfl, Arcs.nil _, HG.out.trans (g_drewN _ _)⟩
      · have e1b : (r.id == id) = false := beq_eq_false_iff_ne.2 e1
        have hw : wrap64 ((k : Int) + 1) = (k : Int) + 1 := by unfold wrap64; omega
        have HE := hide e1
        clear e1
        go_wp2_with fail
        go_roundw
        case rel =>
          refine ⟨k + 1, by simp, HKL.out, fun j r' hj hr' => ?_, trivial⟩
          by_cases hjk : j = k
          · subst hjk
            rw [HRK.out] at hr'
            cases hr'
            exact HE.out
          · exact HNO.out j r' (by omega) hr'
        case measure => simp only [RowKit.intOf]; have := HKL.out; omega
    · have hkI : ¬ ((k : Int) < rs.length) := by omega
      have HF : Hid (rs.find? (fun r => r.id == id) = none) := find_none (fun j r hr => hno j r (by have := (List.getElem?_eq_some_iff.1 hr).1; omega) hr)
      clear hno hkl
      cases tail with
      | true => exact absurd HTL.out (by decide)
      | false =>
        go_wp2_with fail
        go_ret2
        have e9 : netOf rs false id = ([], 0) := by unfold netOf; rw [HF.out]; rfl
        rw [e9]
        exact ⟨_, rfl, Arcs.nil _, HG.out⟩
/-- A row that is being made. -/
structure Rb (wr0 w : World) (br : Nat) (x : Int) (va : Value) (C : List Ar) : Prop where
  g : G wr0 w
  b : Blk w br 51 [I x, va, I 0]
  r : Rw wr0.heap.size 40 3 w va C.length (flA C)
  ok : ∀ a ∈ C, Ar.ok a
  lo : wr0.heap.size ≤ br
theorem Rb.G {wr0 w w' : World} {br : Nat} {x : Int} {va : Value} {C : List Ar} (h : Rb wr0 w br x va C) (g : Go.Proofs.YtemkilffagjmcaaDoor.G w w') : Rb wr0 w' br x va C := ⟨h.g.trans g, h.b.G g, Rw.G h.r g, h.ok, h.lo⟩
/-- An arc more. -/
theorem Rb.add {wr0 w6 : World} {br : Nat} {x : Int} {va : Value} {C : List Ar} (h : Rb wr0 w6 br x va C) (a : Ar) (ha : Ar.ok a) (hC : C.length < 1073741824) (q : Addr) (hq : ∀ (j : Nat) u, ([I a.1, I a.2.1, I a.2.2] : List Value)[j]? = some u → w6.cell? (q.add j) = some u) :
    ∃ v' w', (Builtin.append_ #[37, 37] 37 #[va, .slice (some q) 1 1]).run Tryd.prog w6 = .ok v' w' ∧ Blk w' br 51 [I x, va, I 0] ∧ Rb wr0 (w'.setCell ⟨br, 1, none⟩ v') br x v' (C ++ [a]) ∧ Go.Proofs.YtemkilffagjmcaaDoor.G wr0 w' := by
  obtain ⟨v', w', q1, q2, q3, q4⟩ := app_A w6 _ va C.length (flA C) h.r q 1 1 [I a.1, I a.2.1, I a.2.2] rfl hq (fun u hu => by simp at hu; rcases hu with rfl | rfl | rfl <;> rfl) (by omega) h.g.size
  have hbC := h.b.chg q3 (Rw.offb h.r h.b (by decide))
  have hg : Go.Proofs.YtemkilffagjmcaaDoor.G wr0 w' := h.g.trans' q3 (fun b e => (Rw.own h.r e).1)
  refine ⟨v', w', q1, hbC, ⟨hg.setCell h.lo _, hbC.set 1 _, ?_, fun b hb => ?_, h.lo⟩, hg⟩
  · have e1 : flA (C ++ [a]) = flA C ++ [I a.1, I a.2.1, I a.2.2] := by simp [flA]
    rw [e1, List.length_append]
    refine Rw.keep q2 (fun b hb => Below.heap_setCell _ _ _ _ (fun e => ?_))
    rw [e] at hb
    exact Rw.offb q2 hbC (by decide) hb
  · rcases List.mem_append.1 hb with r | r
    · exact h.ok b r
    · rw [List.mem_singleton.1 r]; exact ha
/-- The rows made so far. -/
structure Rbs (w2 w : World) (bb : Nat) (ov : Value) (L : List (Nr × Value)) : Prop where
  g : G w2 w
  b : Blk w bb 26 [ov, .bool false]
  r : Ro w2.heap.size w ov L
  lo : w2.heap.size ≤ bb
theorem Rbs.G {w2 w w' : World} {bb : Nat} {ov : Value} {L : List (Nr × Value)} (h : Rbs w2 w bb ov L) (g : Go.Proofs.YtemkilffagjmcaaDoor.G w w') : Rbs w2 w' bb ov L := ⟨h.g.trans g, h.b.G g, h.r.G g, h.lo⟩
/-- A row more. -/
theorem Rbs.add {w2 w6 : World} {bb : Nat} {ov : Value} {L : List (Nr × Value)} (h : Rbs w2 w6 bb ov L) (R : Nr) (va : Value) (hc0 : R.code = 0) (hva : Rw w2.heap.size 40 3 w6 va R.arcs.length (flA R.arcs)) (hok : ∀ a ∈ R.arcs, Ar.ok a) (hid : R64 R.id) (hL : L.length ≤ 1048576) (q : Addr) (hv1 : va.oneCell' = true) (hq : ∀ (j : Nat) u, ([I R.id, va, I 0] : List Value)[j]? = some u → w6.cell? (q.add j) = some u) :
    ∃ v' w', (Builtin.append_ #[22, 22] 22 #[ov, .slice (some q) 1 1]).run Tryd.prog w6 = .ok v' w' ∧ Blk w' bb 26 [ov, .bool false] ∧ Rbs w2 (w'.setCell ⟨bb, 0, none⟩ v') bb v' (L ++ [(R, va)]) := by
  obtain ⟨v', w', q1, q2, q3, q4⟩ := app_R w6 _ ov L.length (flR L) h.r.row q 1 1 [I R.id, va, I 0] rfl hq (fun u hu => by simp at hu; rcases hu with rfl | rfl | rfl; rfl; exact hv1; rfl) (by omega) h.g.size
  have hbC := h.b.chg q3 (Rw.offb h.r.row h.b (by decide))
  have hg : Go.Proofs.YtemkilffagjmcaaDoor.G w2 w' := h.g.trans' q3 (fun b e => (Rw.own h.r.row e).1)
  have hof : ∀ (x : Value) (n : Nat) xs, Rw w2.heap.size 40 3 w6 x n xs → Rw w2.heap.size 40 3 (w'.setCell ⟨bb, 0, none⟩ v') x n xs := fun x n xs hx => by
    have h1 := hx.chg q3 (fun b hb e => by
      obtain ⟨_, _, ys, hy⟩ := Rw.own hx hb
      exact Rw.offb h.r.row hy (by decide) e)
    exact Rw.keep h1 (fun b hb => Below.heap_setCell _ _ _ _ (fun e => by
      rw [e] at hb
      exact Rw.offb h1 hbC (by decide) hb))
  refine ⟨v', w', q1, hbC, ⟨hg.setCell h.lo _, hbC.set 0 _, ⟨?_, fun p hp => ?_⟩, h.lo⟩⟩
  · have e1 : flR (L ++ [(R, va)]) = flR L ++ [I R.id, va, I 0] := by simp [flR, hc0]
    rw [e1, List.length_append]
    exact Rw.keep q2 (fun b hb => Below.heap_setCell _ _ _ _ (fun e => by
      rw [e] at hb
      exact Rw.offb q2 hbC (by decide) hb))
  · rcases List.mem_append.1 hp with r | r
    · exact ⟨hof _ _ _ (h.r.each p r).1, (h.r.each p r).2⟩
    · rw [List.mem_singleton.1 r]
      exact ⟨hof _ _ _ hva, hok, hid⟩
/-- Between two askings of Hops. -/
def Hs (Wb w : World) (sh : Nat) (rv : Value) (B : List Nr) (n : Nat) : Prop := ∃ av gv bas gl, Shn Wb w sh rv B false av gv bas gl ∧ bas.length ≤ n * 4097
theorem Hs.G {Wb w w' : World} {sh : Nat} {rv : Value} {B : List Nr} {n : Nat} (h : Hs Wb w sh rv B n) (g : Go.Proofs.YtemkilffagjmcaaDoor.G w w') : Hs Wb w' sh rv B n := by
  obtain ⟨av, gv, bas, gl, h1, h2⟩ := h
  exact ⟨av, gv, bas, gl, h1.G g, h2⟩
theorem Hs.g {Wb w : World} {sh : Nat} {rv : Value} {B : List Nr} {n : Nat} (h : Hs Wb w sh rv B n) : Go.Proofs.YtemkilffagjmcaaDoor.G Wb w := by
  obtain ⟨av, gv, bas, gl, h1, h2⟩ := h
  exact h1.g
theorem Hs.mono {Wb w : World} {sh : Nat} {rv : Value} {B : List Nr} {n m : Nat} (h : Hs Wb w sh rv B n) (hm : n ≤ m) : Hs Wb w sh rv B m := by
  obtain ⟨av, gv, bas, gl, h1, h2⟩ := h
  exact ⟨av, gv, bas, gl, h1, Nat.le_trans h2 (Nat.mul_le_mul_right _ hm)⟩
theorem hops_tg (Wb W : World) (sh : Nat) (rv : Value) (B : List Nr) (E : List Int) (n : Nat) (from_ to_ : Int) (k : Hs Wb W sh rv B n) (hn : n ≤ 100000) (hf : R64 from_) (hrl : B.length ≤ 1048576) (hal : ∀ id, (netOf B false id).1.length ≤ 1073741824) (hsum : ∀ st : List Sn, (st.map (·.1)).Nodup → st.length ≤ 4096 → (st.map fun p => (netOf B false p.1).1.length).sum ≤ 8589934592) (m : Mild true B false E) (hE : from_ ∈ E) :
    Calls Tryd.prog 19 #[.func (.func 9) #[ptr sh] #[], I from_, I to_] W fun e W' => ∃ (h : Int) (ok : Bool), e = .returned (.tuple #[I h, .bool ok, I 0]) ∧ (ok = true ↔ ∃ s, Dst true B false from_ to_ s) ∧ Hs Wb W' sh rv B (n + 1) := by
  obtain ⟨av, gv, bas, gl, h1, h2⟩ := k
  have hlen := srch_len true B false (some to_) (-1) 4097 [] [(from_, 0)] []
  refine (hops_anyB Wb W sh rv B false av gv from_ to_ bas gl (by omega) h1 hf hrl hal hsum _ rfl).mono ?_
  rintro e W' ⟨rfl, ⟨av', gv', gl', hsn, hao⟩, mp, hmv⟩
  have hs : Hs Wb W' sh rv B (n + 1) := ⟨av', gv', _, gl', hsn, by rw [List.length_append]; simp at hlen; omega⟩
  obtain ⟨hc, ⟨hh, st2, s, hst, hD, -⟩ | ⟨hh, hno⟩⟩ := aim_end m hE to_ _ rfl
  · refine ⟨s, true, ?_, ⟨fun _ => ⟨s, hD.1⟩, fun _ => rfl⟩, hs⟩
    unfold hopsV
    rw [if_pos hh, hst]
    simp
  · refine ⟨0, false, ?_, ⟨fun q => (by cases q), fun ⟨s, q⟩ => absurd q (hno s)⟩, hs⟩
    unfold hopsV
    rw [if_neg (by rw [hh]; simp), hc]
/-- What Parts says in a net without errors, of few nodes. -/
theorem PrtR.says {rs : List Nr} {nodes out : List Int} {code : Int} {asked : List Int} (h : PrtR rs false (eachL nodes) nodes out code asked) (hl : nodes.length ≤ 4096) (h0 : ∀ id, (netOf rs false id).2 = 0) : code = 0 ∧ ∃ p : Int → Int, Pts nodes (nodes.map (bothR rs nodes)) p ∧ out = nodes.map p := by
  have hlen := Nat.le_trans (eachL_len nodes) hl
  rcases h with ⟨a1, -⟩ | ⟨a1, k, id, a2, a3, -⟩ | ⟨a1, a2, rfl, -, F, a3, a4, rfl⟩
  · omega
  · exact absurd (h0 id) a3
  · exact ⟨rfl, _, pts_of (eachL_up nodes) (fun _ => eachL_mem) F a4, rfl⟩
end Go.Proofs.YtemkilffagjmcaaDoor
