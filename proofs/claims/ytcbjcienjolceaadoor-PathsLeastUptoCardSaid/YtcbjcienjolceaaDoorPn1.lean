/- Paths: distances. -/
import Derived.Test.YtcbjcienjolceaaDoorPj10
namespace Go.Proofs.YtcbjcienjolceaaDoor

/-- There is a walk of that sum. -/
inductive Dst (hops : Bool) (rs : List Nr) (tail : Bool) (from_ : Int) : Int → Int → Prop
  | base : Dst hops rs tail from_ from_ 0
  | step {u s : Int} {a : Ar} : Dst hops rs tail from_ u s → a ∈ (netOf rs tail u).1 → Dst hops rs tail from_ a.2.1 (s + wei hops a)
/-- A net without errors, whose weights are small, and whose nodes are all among E. -/
structure Mild (hops : Bool) (rs : List Nr) (tail : Bool) (E : List Int) : Prop where
  code : ∀ id, (netOf rs tail id).2 = 0
  wt : ∀ id, ∀ a ∈ (netOf rs tail id).1, 0 ≤ wei hops a ∧ wei hops a ≤ 1048576
  ends : ∀ id, ∀ a ∈ (netOf rs tail id).1, a.2.1 ∈ E
  few : E.length ≤ 1000
/-- The least sum. -/
def IsD (hops : Bool) (rs : List Nr) (tail : Bool) (from_ u s : Int) : Prop := Dst hops rs tail from_ u s ∧ ∀ s', Dst hops rs tail from_ u s' → s ≤ s'
/-- What holds ahead of each settling. -/
structure Dj (hops : Bool) (rs : List Nr) (tail : Bool) (from_ most : Int) (E : List Int) (st near : List Sn) : Prop where
  d1 : ∀ p ∈ st, IsD hops rs tail from_ p.1 p.2
  d2 : ∀ p ∈ near, Dst hops rs tail from_ p.1 p.2
  d3 : ∀ p ∈ st, (most < 0 ∨ p.2 < most) → ∀ a ∈ (netOf rs tail p.1).1, (∃ q ∈ st, q.1 = a.2.1) ∨ ∃ q ∈ near, q.1 = a.2.1 ∧ q.2 ≤ p.2 + wei hops a
  d4 : ∀ p ∈ st, ∀ q ∈ near, p.2 ≤ q.2
  d5 : (st.map (·.1)).Nodup
  d6 : (near.map (·.1)).Nodup
  d7 : ∀ p ∈ st, ∀ q ∈ near, p.1 ≠ q.1
  d8 : ∀ p ∈ st, p.1 ∈ E
  d9 : ∀ p ∈ near, p.1 ∈ E
  d10 : ∀ p ∈ near, 0 ≤ p.2 ∧ p.2 ≤ (st.length : Int) * 1048576
  d11 : (∃ p ∈ st, p.1 = from_) ∨ ∃ p ∈ near, p.1 = from_ ∧ p.2 = 0
  d12 : ∀ p, p ∈ st ∨ p ∈ near → most < 0 ∨ p.2 ≤ most
  d13 : hops = true → st.Pairwise (fun p q => before p q = true) ∧ ∀ p ∈ st, ∀ q ∈ near, before p q = true
theorem pick {near : List Sn} (h : near ≠ []) (hn : (near.map (·.1)).Nodup) : near[nextI near]! ∈ near ∧ (∀ q ∈ near, before q near[nextI near]! = false) ∧ ∀ q, q ∈ near.eraseIdx (nextI near) ↔ q ∈ near ∧ q.1 ≠ (near[nextI near]!).1 := by
  obtain ⟨hk, hb⟩ := nextI_ok h
  have e := Hp.get_of (l := near) hk
  refine ⟨by rw [e]; exact List.getElem_mem _, fun q hq => ?_, fun q => ?_⟩
  · obtain ⟨j, hj, rfl⟩ := List.getElem_of_mem hq
    have := hb j hj
    rwa [Hp.get_of hj] at this
  · rw [List.mem_eraseIdx_iff_getElem, e]
    have inj : ∀ i j (hi : i < near.length) (hj : j < near.length), (near[i]).1 = (near[j]).1 → i = j := fun i j hi hj he => by
      exact (List.getElem_inj (xs := near.map (·.1)) (i := i) (j := j) (h₀ := by simpa using hi) (h₁ := by simpa using hj) hn).1 (by simpa using he)
    constructor
    · rintro ⟨i, hi, hne, rfl⟩
      exact ⟨List.getElem_mem _, fun he => hne (inj _ _ hi hk he)⟩
    · rintro ⟨hq, hne⟩
      obtain ⟨i, hi, rfl⟩ := List.getElem_of_mem hq
      exact ⟨i, hi, fun he => hne (by subst he; rfl), rfl⟩
/-- The arcs of the settled node are followed. -/
theorem relax_ok (hops : Bool) (s : Int) (st : List Sn) (hs : 0 ≤ s ∧ s ≤ 1098437885952) : ∀ (arcs : List Ar) (near : List Sn), (∀ a ∈ arcs, 0 ≤ wei hops a ∧ wei hops a ≤ 1048576) → (near.map (·.1)).Nodup → (∀ p ∈ st, ∀ q ∈ near, p.1 ≠ q.1) →
    ∃ near2, relaxR hops s st arcs near = (0, near2) ∧ (∀ q ∈ near2, q ∈ near ∨ ∃ a ∈ arcs, q.1 = a.2.1 ∧ q.2 = s + wei hops a) ∧ (∀ q ∈ near, ∃ q' ∈ near2, q'.1 = q.1 ∧ q'.2 ≤ q.2) ∧
      (∀ a ∈ arcs, (∃ p ∈ st, p.1 = a.2.1) ∨ ∃ q ∈ near2, q.1 = a.2.1 ∧ q.2 ≤ s + wei hops a) ∧ (near2.map (·.1)).Nodup ∧ ∀ p ∈ st, ∀ q ∈ near2, p.1 ≠ q.1
  | [], near, _, hn, hd => ⟨near, rfl, fun q hq => .inl hq, fun q hq => ⟨q, hq, rfl, Int.le_refl _⟩, fun a ha => by simp at ha, hn, hd⟩
  | a :: r, near, hw, hn, hd => by
    obtain ⟨h0, h1⟩ := hw a (by simp)
    have hw' : ∀ a ∈ r, 0 ≤ wei hops a ∧ wei hops a ≤ 1048576 := fun b hb => hw b (by simp [hb])
    unfold relaxR
    rw [if_neg (by omega), if_neg (by omega)]
    by_cases hst : st.any (fun p => p.1 == a.2.1) = true
    · rw [if_pos hst]
      obtain ⟨near2, e, k1, k2, k3, k4, k5⟩ := relax_ok hops s st hs r near hw' hn hd
      refine ⟨near2, e, fun q hq => (k1 q hq).imp_right (fun ⟨b, hb, q⟩ => ⟨b, by simp [hb], q⟩), k2, fun b hb => ?_, k4, k5⟩
      rcases List.mem_cons.1 hb with rfl | hb
      · obtain ⟨p, hp, hpe⟩ := List.any_eq_true.1 hst
        exact .inl ⟨p, hp, by simpa using hpe⟩
      · exact k3 b hb
    · rw [if_neg hst]
      have hno : ∀ p ∈ st, p.1 ≠ a.2.1 := fun p hp he => hst (List.any_eq_true.2 ⟨p, hp, by simpa using he⟩)
      have hn2 : ((sightL near a.2.1 (s + wei hops a)).map (·.1)).Nodup := sight_nodup hn
      have hd2 : ∀ p ∈ st, ∀ q ∈ sightL near a.2.1 (s + wei hops a), p.1 ≠ q.1 := fun p hp q hq => by
        rcases (sight_mem hn).1 hq with ⟨q1, _⟩ | ⟨q1, _⟩
        · exact hd p hp q q1
        · rw [q1]; exact hno p hp
      obtain ⟨near2, e, k1, k2, k3, k4, k5⟩ := relax_ok hops s st hs r _ hw' hn2 hd2
      refine ⟨near2, e, fun q hq => ?_, fun q hq => ?_, fun b hb => ?_, k4, k5⟩
      · rcases k1 q hq with q1 | ⟨b, hb, q2⟩
        · rcases (sight_mem hn).1 q1 with ⟨q1, _⟩ | ⟨q1, ⟨_, q3⟩ | ⟨q', hq', hqe, q3⟩⟩
          · exact .inl q1
          · exact .inr ⟨a, by simp, q1, q3⟩
          · by_cases hle : q'.2 ≤ s + wei hops a
            · rw [Int.min_eq_left hle] at q3
              exact .inl (by rw [show q = q' from Prod.ext (q1.trans hqe.symm) q3]; exact hq')
            · rw [Int.min_eq_right (by omega)] at q3
              exact .inr ⟨a, by simp, q1, q3⟩
        · exact .inr ⟨b, by simp [hb], q2⟩
      · have : ∃ q' ∈ sightL near a.2.1 (s + wei hops a), q'.1 = q.1 ∧ q'.2 ≤ q.2 := by
          by_cases hqe : q.1 = a.2.1
          · exact ⟨(a.2.1, min q.2 (s + wei hops a)), (sight_mem hn).2 (.inr ⟨rfl, .inr ⟨q, hq, hqe, rfl⟩⟩), hqe.symm, Int.min_le_left _ _⟩
          · exact ⟨q, (sight_mem hn).2 (.inl ⟨hq, hqe⟩), rfl, Int.le_refl _⟩
        obtain ⟨q', h1, h2, h3⟩ := this
        obtain ⟨q2, h4, h5, h6⟩ := k2 q' h1
        exact ⟨q2, h4, h5.trans h2, Int.le_trans h6 h3⟩
      · rcases List.mem_cons.1 hb with rfl | hb
        · have : ∃ q' ∈ sightL near b.2.1 (s + wei hops b), q'.1 = b.2.1 ∧ q'.2 ≤ s + wei hops b := by
            by_cases hex : ∃ q ∈ near, q.1 = b.2.1
            · obtain ⟨q, hq, hqe⟩ := hex
              exact ⟨(b.2.1, min q.2 (s + wei hops b)), (sight_mem hn).2 (.inr ⟨rfl, .inr ⟨q, hq, hqe, rfl⟩⟩), rfl, Int.min_le_right _ _⟩
            · exact ⟨(b.2.1, s + wei hops b), (sight_mem hn).2 (.inr ⟨rfl, .inl ⟨fun q hq he => hex ⟨q, hq, he⟩, rfl⟩⟩), rfl, Int.le_refl _⟩
          obtain ⟨q', h1, h2, h3⟩ := this
          obtain ⟨q2, h4, h5, h6⟩ := k2 q' h1
          exact .inr ⟨q2, h4, h5.trans h2, Int.le_trans h6 h3⟩
        · exact k3 b hb
section
variable {hops : Bool} {rs : List Nr} {tail : Bool} {from_ most : Int} {E : List Int} {st near : List Sn}
/-- Who is reached within most stands there, or one that is no farther is in sight. -/
theorem Dj.near_ (m : Mild hops rs tail E) (hmo : most < 0 ∨ hops = true) (k : Dj hops rs tail from_ most E st near) : ∀ {u s : Int}, Dst hops rs tail from_ u s → (most < 0 ∨ s ≤ most) → (∃ p ∈ st, p.1 = u) ∨ ∃ q ∈ near, q.2 ≤ s := by
  intro u s h
  induction h with
  | base =>
    intro _
    rcases k.d11 with h | ⟨p, hp, _, h0⟩
    · exact .inl h
    · exact .inr ⟨p, hp, by omega⟩
  | step h ha ih =>
    rename_i u s a
    intro hm
    have hw := m.wt _ a ha
    rcases ih (by omega) with ⟨p, hp, he⟩ | ⟨q, hq, hle⟩
    · have h1 := (k.d1 p hp).2 s (by rw [he]; exact h)
      have hlt : most < 0 ∨ p.2 < most := by
        rcases hm with hm | hm
        · exact .inl hm
        · rcases hmo with q | q
          · exact .inl q
          · subst q
            have : wei true a = 1 := rfl
            right; omega
      rcases k.d3 p hp hlt a (by rw [he]; exact ha) with h2 | ⟨q, hq, h3, h4⟩
      · exact .inl h2
      · exact .inr ⟨q, hq, by omega⟩
    · exact .inr ⟨q, hq, by omega⟩
theorem Dj.few (m : Mild hops rs tail E) (k : Dj hops rs tail from_ most E st near) : st.length ≤ 1000 := by
  have := k.d5.length_le_of_subset (l₂ := E) (fun x hx => by obtain ⟨p, hp, rfl⟩ := List.mem_map.1 hx; exact k.d8 p hp)
  rw [List.length_map] at this
  exact Nat.le_trans this m.few
theorem Dj.isD (m : Mild hops rs tail E) (hmo : most < 0 ∨ hops = true) (k : Dj hops rs tail from_ most E st near) (hne : near ≠ []) : IsD hops rs tail from_ (near[nextI near]!).1 (near[nextI near]!).2 := by
  obtain ⟨hx, hmin, -⟩ := pick hne k.d6
  refine ⟨k.d2 _ hx, fun s' h => ?_⟩
  by_cases hs : most < 0 ∨ s' ≤ most
  · rcases k.near_ m hmo h hs with ⟨p, hp, he⟩ | ⟨q, hq, hle⟩
    · exact absurd he (k.d7 p hp _ hx)
    · have := hmin q hq
      rw [← Bool.not_eq_true, before_iff] at this
      omega
  · have := k.d12 _ (.inr hx)
    omega
/-- The next one is settled. -/
theorem Dj.step (m : Mild hops rs tail E) (hmo : most < 0 ∨ hops = true) (k : Dj hops rs tail from_ most E st near) (hne : near ≠ []) (near2 : List Sn)
    (k1 : ∀ q ∈ near2, q ∈ near.eraseIdx (nextI near) ∨ ((most < 0 ∨ (near[nextI near]!).2 < most) ∧ ∃ a ∈ (netOf rs tail (near[nextI near]!).1).1, q.1 = a.2.1 ∧ q.2 = (near[nextI near]!).2 + wei hops a))
    (k2 : ∀ q ∈ near.eraseIdx (nextI near), ∃ q' ∈ near2, q'.1 = q.1 ∧ q'.2 ≤ q.2)
    (k3 : (most < 0 ∨ (near[nextI near]!).2 < most) → ∀ a ∈ (netOf rs tail (near[nextI near]!).1).1, (∃ p ∈ st ++ [near[nextI near]!], p.1 = a.2.1) ∨ ∃ q ∈ near2, q.1 = a.2.1 ∧ q.2 ≤ (near[nextI near]!).2 + wei hops a)
    (k4 : (near2.map (·.1)).Nodup) (k5 : ∀ p ∈ st ++ [near[nextI near]!], ∀ q ∈ near2, p.1 ≠ q.1) : Dj hops rs tail from_ most E (st ++ [near[nextI near]!]) near2 := by
  have hD := k.isD m hmo hne
  obtain ⟨hx, hmin, her⟩ := pick hne k.d6
  generalize near[nextI near]! = x at *
  generalize near.eraseIdx (nextI near) = near' at *
  have hmn : ∀ q ∈ near, x.2 ≤ q.2 := fun q hq => by
    have := hmin q hq
    rw [← Bool.not_eq_true, before_iff] at this
    omega
  have hb : ∀ q ∈ near, q.1 ≠ x.1 → before x q = true := fun q hq hqe => by
    have := hmin q hq
    rw [← Bool.not_eq_true, before_iff] at this
    rw [before_iff]
    omega
  have mem : ∀ p, p ∈ st ++ [x] ↔ p ∈ st ∨ p = x := fun p => by simp
  have hx0 := k.d10 x hx
  -- who is in sight then: an old one, or one behind x
  have cas : ∀ q ∈ near2, (q ∈ near ∧ q.1 ≠ x.1) ∨ ((most < 0 ∨ x.2 < most) ∧ ∃ a ∈ (netOf rs tail x.1).1, q.1 = a.2.1 ∧ q.2 = x.2 + wei hops a) := fun q hq => (k1 q hq).imp_left (her q).1
  -- an old one that is in sight, or x
  have old : ∀ q ∈ near, q.1 = x.1 ∨ ∃ q' ∈ near2, q'.1 = q.1 ∧ q'.2 ≤ q.2 := fun q hq => by
    by_cases hqe : q.1 = x.1
    · exact .inl hqe
    · exact .inr (k2 q ((her q).2 ⟨hq, hqe⟩))
  refine ⟨fun p hp => ?_, fun q hq => ?_, fun p hp hlt a ha => ?_, fun p hp q hq => ?_, ?_, k4, k5, fun p hp => ?_, fun q hq => ?_, fun q hq => ?_, ?_, fun p hp => ?_, fun hh => ⟨?_, fun p hp q hq => ?_⟩⟩
  · rcases (mem p).1 hp with hp | rfl
    · exact k.d1 p hp
    · exact hD
  · rcases cas q hq with ⟨h, _⟩ | ⟨_, a, ha, h1, h2⟩
    · exact k.d2 q h
    · rw [h1, h2]
      exact .step hD.1 ha
  · rcases (mem p).1 hp with hp | rfl
    · rcases k.d3 p hp hlt a ha with ⟨q, hq, h1⟩ | ⟨q, hq, h1, h2⟩
      · exact .inl ⟨q, (mem q).2 (.inl hq), h1⟩
      · rcases old q hq with hqe | ⟨q', h3, h4, h5⟩
        · exact .inl ⟨x, (mem x).2 (.inr rfl), hqe.symm.trans h1⟩
        · exact .inr ⟨q', h3, h4.trans h1, by omega⟩
    · exact k3 hlt a ha
  · have hpx : p.2 ≤ x.2 := by
      rcases (mem p).1 hp with hp | rfl
      · exact k.d4 p hp x hx
      · exact Int.le_refl _
    rcases cas q hq with ⟨h, _⟩ | ⟨_, a, ha, h1, h2⟩
    · have := hmn q h
      omega
    · have := m.wt _ a ha
      omega
  · rw [List.map_append, List.nodup_append]
    refine ⟨k.d5, by simp, fun a ha b hb => ?_⟩
    obtain ⟨p, hp, rfl⟩ := List.mem_map.1 ha
    simp at hb
    rw [hb]
    exact k.d7 p hp x hx
  · rcases (mem p).1 hp with hp | rfl
    · exact k.d8 p hp
    · exact k.d9 _ hx
  · rcases cas q hq with ⟨h, _⟩ | ⟨_, a, ha, h1, h2⟩
    · exact k.d9 q h
    · rw [h1]; exact m.ends _ a ha
  · have hl : ((st ++ [x]).length : Int) = st.length + 1 := by simp
    rw [hl]
    rcases cas q hq with ⟨h, _⟩ | ⟨_, a, ha, h1, h2⟩
    · have := k.d10 q h
      omega
    · have := m.wt _ a ha
      omega
  · rcases k.d11 with ⟨p, hp, h⟩ | ⟨p, hp, h1, h2⟩
    · exact .inl ⟨p, (mem p).2 (.inl hp), h⟩
    · rcases old p hp with hqe | ⟨q', h3, h4, h5⟩
      · exact .inl ⟨x, (mem x).2 (.inr rfl), hqe.symm.trans h1⟩
      · refine .inr ⟨q', h3, h4.trans h1, ?_⟩
        have : 0 ≤ q'.2 := by
          rcases cas q' h3 with ⟨h, _⟩ | ⟨_, a, ha, h6, h7⟩
          · exact (k.d10 q' h).1
          · have := m.wt _ a ha
            omega
        omega
  · rcases hp with hp | hp
    · rcases (mem p).1 hp with hp | rfl
      · exact k.d12 p (.inl hp)
      · exact k.d12 _ (.inr hx)
    · rcases cas p hp with ⟨h, _⟩ | ⟨hlt, a, ha, h1, h2⟩
      · exact k.d12 p (.inr h)
      · rcases hmo with q | q
        · exact .inl q
        · subst q
          have : wei true a = 1 := rfl
          omega
  · rw [List.pairwise_append]
    refine ⟨(k.d13 hh).1, by simp, fun p hp q hq => ?_⟩
    simp at hq
    rw [hq]
    exact (k.d13 hh).2 p hp x hx
  · rcases cas q hq with ⟨h, hqe⟩ | ⟨_, a, ha, h1, h2⟩
    · rcases (mem p).1 hp with hp | rfl
      · exact (k.d13 hh).2 p hp q h
      · exact hb q h hqe
    · have hpx : p.2 ≤ x.2 := by
        rcases (mem p).1 hp with hp | rfl
        · exact k.d4 p hp x hx
        · exact Int.le_refl _
      subst hh
      have : wei true a = 1 := rfl
      rw [before_iff]
      left; omega
/-- What a search comes to, in a mild net. -/
structure DjEnd (hops : Bool) (rs : List Nr) (tail : Bool) (from_ most : Int) (E : List Int) (aim : Option Int) (R : Rs) : Prop where
  code : R.code = 0
  res : (R.hit = true ∧ ∃ st2 s t, aim = some t ∧ R.st = st2 ++ [(t, s)] ∧ IsD hops rs tail from_ t s ∧ ∀ p ∈ st2, IsD hops rs tail from_ p.1 p.2) ∨ (R.hit = false ∧ Dj hops rs tail from_ most E R.st [] ∧ ∀ p ∈ R.st, aim ≠ some p.1)
theorem dij (m : Mild hops rs tail E) (hmo : most < 0 ∨ hops = true) (aim : Option Int) : ∀ (f : Nat) (st near : List Sn) (asked : List Int), Dj hops rs tail from_ most E st near → 4097 ≤ st.length + f → (∀ p ∈ st, aim ≠ some p.1) → DjEnd hops rs tail from_ most E aim (srch hops rs tail aim most f st near asked)
  | 0, st, near, asked, k, hf, _ => by have := k.few m; omega
  | f + 1, st, near, asked, k, hf, hno => by
    have hfew := k.few m
    by_cases hne : near = []
    · subst hne
      rw [srch_none]
      exact ⟨rfl, .inr ⟨rfl, k, hno⟩⟩
    · have h4 : st.length ≠ 4096 := by omega
      by_cases ha : aim = some (near[nextI near]!).1
      · rw [srch_hit hne h4 ha]
        exact ⟨rfl, .inl ⟨rfl, st, (near[nextI near]!).2, (near[nextI near]!).1, ha, rfl, k.isD m hmo hne, k.d1⟩⟩
      · obtain ⟨hx, hmin, her⟩ := pick hne k.d6
        have hnd : ((near.eraseIdx (nextI near)).map (·.1)).Nodup := List.Nodup.sublist ((List.eraseIdx_sublist _ _).map _) k.d6
        have hdj : ∀ p ∈ st ++ [near[nextI near]!], ∀ q ∈ near.eraseIdx (nextI near), p.1 ≠ q.1 := fun p hp q hq => by
          obtain ⟨hq', hqe⟩ := (her q).1 hq
          rcases List.mem_append.1 hp with hp | hp
          · exact k.d7 p hp q hq'
          · rw [List.mem_singleton.1 hp]; exact fun e => hqe e.symm
        have hno2 : ∀ p ∈ st ++ [near[nextI near]!], aim ≠ some p.1 := fun p hp => by
          rcases List.mem_append.1 hp with hp | hp
          · exact hno p hp
          · rw [List.mem_singleton.1 hp]; exact ha
        have hl : (st ++ [near[nextI near]!]).length = st.length + 1 := by simp
        by_cases hm : most < 0 ∨ (near[nextI near]!).2 < most
        · have h10 := k.d10 _ hx
          obtain ⟨near2, e, k1, k2, k3, k4, k5⟩ := relax_ok hops (near[nextI near]!).2 (st ++ [near[nextI near]!]) (by omega) (netOf rs tail (near[nextI near]!).1).1 (near.eraseIdx (nextI near)) (m.wt _) hnd hdj
          rw [srch_go hne h4 ha hm (m.code _) (by rw [e]), e]
          refine dij m hmo aim f _ near2 _ (k.step m hmo hne near2 (fun q hq => (k1 q hq).imp_right (fun q => ⟨hm, q⟩)) k2 (fun _ => k3) k4 k5) (by omega) hno2
        · rw [srch_on hne h4 ha hm]
          exact dij m hmo aim f _ _ _ (k.step m hmo hne _ (fun q hq => .inl hq) (fun q hq => ⟨q, hq, rfl, Int.le_refl _⟩) (fun h => absurd h hm) hnd hdj) (by omega) hno2
theorem Dj.init (hE : from_ ∈ E) (hm : most < 0 ∨ 0 ≤ most) : Dj hops rs tail from_ most E [] [(from_, 0)] :=
  ⟨fun p hp => by simp at hp, fun p hp => by simp at hp; subst hp; exact .base, fun p hp => by simp at hp, fun p hp => by simp at hp, by simp, by simp, fun p hp => by simp at hp, fun p hp => by simp at hp, fun p hp => by simp at hp; subst hp; exact hE, fun p hp => by simp at hp; subst hp; simp, .inr ⟨(from_, 0), by simp, rfl, rfl⟩, fun p hp => by simp at hp; subst hp; exact hm, fun _ => ⟨.nil, fun p hp => by simp at hp⟩⟩
theorem Dst.pos (m : Mild hops rs tail E) {u s : Int} (h : Dst hops rs tail from_ u s) : 0 ≤ s := by
  induction h with
  | base => exact Int.le_refl _
  | step _ ha ih => have := m.wt _ _ ha; omega
/-- A search with an aim. -/
theorem aim_end (m : Mild hops rs tail E) (hE : from_ ∈ E) (to_ : Int) (R : Rs) (hR : R = srch hops rs tail (some to_) (-1) 4097 [] [(from_, 0)] []) : R.code = 0 ∧ ((R.hit = true ∧ ∃ st2 s, R.st = st2 ++ [(to_, s)] ∧ IsD hops rs tail from_ to_ s ∧ ∀ p ∈ st2, IsD hops rs tail from_ p.1 p.2) ∨ (R.hit = false ∧ ∀ s, ¬ Dst hops rs tail from_ to_ s)) := by
  have h := dij (from_ := from_) (most := -1) m (.inl (by decide)) (some to_) 4097 [] [(from_, 0)] [] (Dj.init hE (.inl (by decide))) (by simp) (fun p hp => by simp at hp)
  rw [← hR] at h
  refine ⟨h.code, h.res.imp ?_ ?_⟩
  · rintro ⟨h1, st2, s, t, ht, h2, h3⟩
    cases ht
    exact ⟨h1, st2, s, h2, h3⟩
  · rintro ⟨h1, h2, h3⟩
    refine ⟨h1, fun s hs => ?_⟩
    rcases h2.near_ m (.inl (by decide)) hs (.inl (by decide)) with ⟨p, hp, he⟩ | ⟨q, hq, _⟩
    · exact h3 p hp (by rw [he])
    · simp at hq
/-- A search within most. -/
theorem most_end (m : Mild true rs tail E) (hE : from_ ∈ E) (hm0 : 0 ≤ most) (R : Rs) (hR : R = srch true rs tail none most 4097 [] [(from_, 0)] []) : R.code = 0 ∧ Dj true rs tail from_ most E R.st [] ∧ ∃ t, R.st = (from_, 0) :: t := by
  have h := dij (from_ := from_) (most := most) m (.inr rfl) none 4097 [] [(from_, 0)] [] (Dj.init hE (.inr hm0)) (by simp) (fun p hp => by simp at hp)
  rw [← hR] at h
  rcases h.res with ⟨-, st2, s, t, ht, -⟩ | ⟨h1, h2, h3⟩
  · cases ht
  · refine ⟨h.code, h2, ?_⟩
    -- from_ itself is the first
    rcases h2.d11 with ⟨p, hp, he⟩ | ⟨p, hp, _⟩
    · have hp0 : p.2 = 0 := by
        have := (h2.d1 p hp).2 0 (by rw [he]; exact .base)
        have := (h2.d1 p hp).1.pos m
        omega
      match hst : R.st, hp with
      | x :: t, hp =>
        rcases List.mem_cons.1 hp with rfl | hp'
        · exact ⟨t, by rw [show p = (from_, 0) from Prod.ext he hp0]⟩
        · have hpw := (h2.d13 rfl).1
          rw [hst] at hpw
          have hb := (List.pairwise_cons.1 hpw).1 p hp'
          rw [before_iff] at hb
          have hx := h2.d1 x (by rw [hst]; simp)
          have hx0 := hx.1.pos m
          have hx2 : x.2 = 0 := by omega
          have key : ∀ {u s : Int}, Dst true rs tail from_ u s → s = 0 → u = from_ := fun {u s} h => by
            cases h with
            | base => exact fun _ => rfl
            | step h' ha =>
              intro e
              have := h'.pos m
              rename_i s' a
              have : wei true a = 1 := rfl
              omega
          have := key hx.1 hx2
          exact ⟨t, by rw [show x = (from_, 0) from Prod.ext this hx2]⟩
    · simp at hp
end
end Go.Proofs.YtcbjcienjolceaaDoor
