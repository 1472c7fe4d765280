/- Paths: a search as a thing of thought. -/
import Derived.Test.YtcbjcienjolceabDoorPj7
namespace Go.Proofs.YtcbjcienjolceabDoor

/-- A node with a sum. -/
abbrev Sn := Int × Int
def before (a b : Sn) : Bool := decide (a.2 < b.2) || (decide (a.2 = b.2) && decide (a.1 < b.1))
theorem before_iff {a b : Sn} : before a b = true ↔ a.2 < b.2 ∨ (a.2 = b.2 ∧ a.1 < b.1) := by simp [before]
/-- The place of the least one. -/
def nextFrom (l : List Sn) : List Sn → Nat → Nat → Nat
  | [], _, k => k
  | x :: r, i, k => nextFrom l r (i + 1) (if before x l[k]! then i else k)
def nextI (l : List Sn) : Nat := nextFrom l (l.drop 1) 1 0
theorem nextFrom_ok (l : List Sn) : ∀ (r : List Sn) (i k : Nat), l.drop i = r → k < l.length → 0 < i → (∀ j, j < i → j < l.length → before l[j]! l[k]! = false) → nextFrom l r i k < l.length ∧ ∀ j, j < l.length → before l[j]! l[nextFrom l r i k]! = false
  | [], i, k, hr, hk, _, h => by
    refine ⟨hk, fun j hj => h j ?_ hj⟩
    have := congrArg List.length hr
    simp at this
    omega
  | x :: r, i, k, hr, hk, h0, h => by
    have hi : i < l.length := by
      have := congrArg List.length hr
      simp at this
      omega
    have hx : l[i]! = x := by
      have := List.drop_eq_getElem_cons hi
      rw [hr] at this
      rw [Hp.get_of hi]
      exact (List.cons.inj this).1.symm
    have hr' : l.drop (i + 1) = r := by
      have := List.drop_eq_getElem_cons hi
      rw [hr] at this
      exact (List.cons.inj this).2.symm
    unfold nextFrom
    by_cases hb : before x l[k]! = true
    · rw [if_pos hb]
      refine nextFrom_ok l r (i + 1) i hr' hi (by omega) (fun j hj hl => ?_)
      rw [hx]
      by_cases e : j = i
      · rw [e, hx]; simp [before]
      · have h1 := h j (by omega) hl
        rw [← Bool.not_eq_true, before_iff] at h1 ⊢
        rw [before_iff] at hb
        omega
    · rw [if_neg hb]
      refine nextFrom_ok l r (i + 1) k hr' hk (by omega) (fun j hj hl => ?_)
      by_cases e : j = i
      · rw [e, hx]; simpa using hb
      · exact h j (by omega) hl
theorem nextI_ok {l : List Sn} (h : l ≠ []) : nextI l < l.length ∧ ∀ j, j < l.length → before l[j]! l[nextI l]! = false :=
  nextFrom_ok l (l.drop 1) 1 0 rfl (List.length_pos_iff.2 h) (by omega) (fun j hj hl => by
    have : j = 0 := by omega
    rw [this]; simp [before])
/-- The nodes in sight, with that one at that sum or less. -/
def sightL : List Sn → Int → Int → List Sn
  | [], id, s => [(id, s)]
  | x :: r, id, s => if x.1 = id then (if s < x.2 then (x.1, s) :: r else x :: r) else x :: sightL r id s
theorem sight_mem {id s : Int} : ∀ {l : List Sn} {p : Sn}, (l.map (·.1)).Nodup → (p ∈ sightL l id s ↔ (p ∈ l ∧ p.1 ≠ id) ∨ (p.1 = id ∧ ((∀ q ∈ l, q.1 ≠ id) ∧ p.2 = s ∨ ∃ q ∈ l, q.1 = id ∧ p.2 = min q.2 s)))
  | [], p, _ => by
    simp only [sightL, List.mem_singleton, List.not_mem_nil, false_and, false_or, false_implies, implies_true, true_and, exists_const, or_false]
    constructor
    · rintro rfl; exact ⟨rfl, rfl⟩
    · rintro ⟨h1, h2⟩; exact Prod.ext h1 h2
  | x :: r, p, hn => by
    have hn' : x.1 ∉ r.map (·.1) ∧ (r.map (·.1)).Nodup := List.nodup_cons.1 hn
    unfold sightL
    by_cases e : x.1 = id
    · rw [if_pos e]
      have hr : ∀ q ∈ r, q.1 ≠ id := fun q hq e2 => hn'.1 (List.mem_map.2 ⟨q, hq, by rw [e2, e]⟩)
      have hmin : (if s < x.2 then (x.1, s) :: r else x :: r) = (x.1, min x.2 s) :: r := by
        by_cases h : s < x.2
        · rw [if_pos h, Int.min_eq_right (by omega)]
        · rw [if_neg h, Int.min_eq_left (by omega)]
      rw [hmin, List.mem_cons]
      constructor
      · rintro (rfl | h)
        · exact .inr ⟨e, .inr ⟨x, by simp, e, rfl⟩⟩
        · exact .inl ⟨by simp [h], hr p h⟩
      · rintro (⟨h1, h2⟩ | ⟨h1, h2 | ⟨q, hq, hq2, h3⟩⟩)
        · rcases List.mem_cons.1 h1 with rfl | h
          · exact absurd e h2
          · exact .inr h
        · exact absurd e (h2.1 x (by simp))
        · rcases List.mem_cons.1 hq with rfl | h
          · exact .inl (Prod.ext (by rw [h1, e]) h3)
          · exact absurd hq2 (hr q h)
    · rw [if_neg e, List.mem_cons, sight_mem hn'.2]
      constructor
      · rintro (rfl | h)
        · exact .inl ⟨by simp, e⟩
        · rcases h with ⟨h1, h2⟩ | ⟨h1, ⟨h2, h3⟩ | ⟨q, hq, h2⟩⟩
          · exact .inl ⟨by simp [h1], h2⟩
          · exact .inr ⟨h1, .inl ⟨fun q hq => by rcases List.mem_cons.1 hq with rfl | h; exact e; exact h2 q h, h3⟩⟩
          · exact .inr ⟨h1, .inr ⟨q, by simp [hq], h2⟩⟩
      · rintro (⟨h1, h2⟩ | ⟨h1, ⟨h2, h3⟩ | ⟨q, hq, h2⟩⟩)
        · rcases List.mem_cons.1 h1 with rfl | h
          · exact .inl rfl
          · exact .inr (.inl ⟨h, h2⟩)
        · exact .inr (.inr ⟨h1, .inl ⟨fun q hq => h2 q (by simp [hq]), h3⟩⟩)
        · rcases List.mem_cons.1 hq with rfl | h
          · exact absurd h2.1 e
          · exact .inr (.inr ⟨h1, .inr ⟨q, h, h2⟩⟩)
theorem sight_ids {id s : Int} : ∀ {l : List Sn} {n : Int}, n ∈ (sightL l id s).map (·.1) ↔ n ∈ l.map (·.1) ∨ n = id
  | [], n => by simp [sightL]
  | x :: r, n => by
    unfold sightL
    by_cases e : x.1 = id
    · rw [if_pos e]
      have : (if s < x.2 then (x.1, s) :: r else x :: r).map (·.1) = (x :: r).map (·.1) := by split <;> rfl
      rw [this]
      constructor
      · exact .inl
      · rintro (h | h)
        · exact h
        · rw [h, ← e]; simp
    · rw [if_neg e, List.map_cons, List.mem_cons, sight_ids, List.map_cons, List.mem_cons, or_assoc]
theorem sight_nodup {id s : Int} : ∀ {l : List Sn}, (l.map (·.1)).Nodup → ((sightL l id s).map (·.1)).Nodup
  | [], _ => by simp [sightL]
  | x :: r, hn => by
    have hn' : x.1 ∉ r.map (·.1) ∧ (r.map (·.1)).Nodup := List.nodup_cons.1 hn
    unfold sightL
    by_cases e : x.1 = id
    · rw [if_pos e]
      have : (if s < x.2 then (x.1, s) :: r else x :: r).map (·.1) = (x :: r).map (·.1) := by split <;> rfl
      rw [this]; exact hn
    · rw [if_neg e, List.map_cons, List.nodup_cons]
      refine ⟨fun h => ?_, sight_nodup hn'.2⟩
      rcases sight_ids.1 h with h | h
      · exact hn'.1 h
      · exact e h
/-- The arcs of the settled node are followed, as the document says. -/
def relaxR (hops : Bool) (s : Int) (st : List Sn) : List Ar → List Sn → Int × List Sn
  | [], near => (0, near)
  | a :: r, near =>
    if wei hops a < 0 then (90, near)
    else if 1099511627776 - s < wei hops a then (91, near)
    else if st.any (fun p => p.1 == a.2.1) then relaxR hops s st r near
    else relaxR hops s st r (sightL near a.2.1 (s + wei hops a))
/-- What a search comes to. -/
structure Rs where
  st : List Sn
  asked : List Int
  code : Int
  hit : Bool
def srch (hops : Bool) (rs : List Nr) (tail : Bool) (aim : Option Int) (most : Int) : Nat → List Sn → List Sn → List Int → Rs
  | 0, st, _, asked => ⟨st, asked, 0, false⟩
  | f + 1, st, near, asked =>
    if near = [] then ⟨st, asked, 0, false⟩
    else if st.length = 4096 then ⟨st, asked, 92, false⟩
    else
      let x := near[nextI near]!
      let near' := near.eraseIdx (nextI near)
      let st' := st ++ [x]
      if aim = some x.1 then ⟨st', asked, 0, true⟩
      else if most < 0 ∨ x.2 < most then
        if (netOf rs tail x.1).2 ≠ 0 then ⟨st', asked ++ [x.1], (netOf rs tail x.1).2, false⟩
        else
          let r := relaxR hops x.2 st' (netOf rs tail x.1).1 near'
          if r.1 ≠ 0 then ⟨st', asked ++ [x.1], r.1, false⟩ else srch hops rs tail aim most f st' r.2 (asked ++ [x.1])
      else srch hops rs tail aim most f st' near' asked
/-- How a program's search stands to the document's. -/
structure PR (fs : List Fd) (bs : Int → Option Nat) (l : List It) (st near : List Sn) : Prop where
  nod : ∀ n i, bs n = some i → (fs[i]!).n = n
  idx : ∀ n i, bs n = some i → i < fs.length
  dom : ∀ x ∈ l, x.1 = x.2 ∧ 0 ≤ x.1 ∧ x.1 < fs.length
  nr : ∀ p ∈ near, ∃ i : Nat, bs p.1 = some i ∧ ((i : Int), (i : Int)) ∈ l ∧ (fs[i]!).s = p.2
  sd : ∀ p ∈ st, ∃ i : Nat, bs p.1 = some i ∧ ((i : Int), (i : Int)) ∉ l ∧ (fs[i]!).s = p.2
  al : ∀ n i, bs n = some i → (((i : Int), (i : Int)) ∈ l ∧ (n, (fs[i]!).s) ∈ near) ∨ (((i : Int), (i : Int)) ∉ l ∧ (n, (fs[i]!).s) ∈ st)
  nd : (near.map (·.1)).Nodup
  mono : ∀ p ∈ st, ∀ x ∈ l, p.2 ≤ (fs[x.1.toNat]!).s
  sum : ∀ i, i < fs.length → 0 ≤ (fs[i]!).s ∧ (fs[i]!).s ≤ 1099511627776
end Go.Proofs.YtcbjcienjolceabDoor
