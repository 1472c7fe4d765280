/- Paths: a program's search beside the document's. -/
import Derived.Test.YtemkilffagjmcaaDoorPj7
namespace Go.Proofs.YtemkilffagjmcaaDoor
section

/-- A node with a sum. -/
abbrev Sn := Int × Int
def before (a b : Sn) : Bool := decide (a.2 < b.2) || (decide (a.2 = b.2) && decide (a.1 < b.1))
theorem before_iff {a b : Sn} : before a b = true ↔ a.2 < b.2 ∨ (a.2 = b.2 ∧ a.1 < b.1) := by simp [before]
/-- The place of the least one. -/
def nextFrom (l : List Sn) : List Sn → Nat → Nat → Nat
  | [], _, k => k
  | x :: r, i, k => nextFrom l r (i + 1) (if before x l[k]! then i else k)
def nextI (l : List Sn) : Nat := nextFrom l (l.drop 1) 1 0
theorem nextFrom_ok (l : List Sn) : ∀ (r : List Sn) (i k : Nat), l.drop i = r → k < l.length → 0 < i → (∀ j, j < i → j < l.length → before l[j]! l[k]! = false) → nextFrom l r i k < l.length ∧ ∀ j, j < l.length → before l[j]! l[nextFrom l r i k]! = false
  | [], i, k, hr, hk, _, h => by
    refine ⟨hk, fun j hj => h j ?_ hj⟩
    have := congrArg List.length hr
    simp at this
    omega
  | x :: r, i, k, hr, hk, h0, h => by
    have hi : i < l.length := by
      have := congrArg List.length hr
      simp at this
      omega
    have hx : l[i]! = x := by
      have := List.drop_eq_getElem_cons hi
      rw [hr] at this
      rw [Hp.get_of hi]
      exact (List.cons.inj this).1.symm
    have hr' : l.drop (i + 1) = r := by
      have := List.drop_eq_getElem_cons hi
      rw [hr] at this
      exact (List.cons.inj this).2.symm
    unfold nextFrom
    by_cases hb : before x l[k]! = true
    · rw [if_pos hb]
      refine nextFrom_ok l r (i + 1) i hr' hi (by omega) (fun j hj hl => ?_)
      rw [hx]
      by_cases e : j = i
      · rw [e, hx]; simp [before]
      · have h1 := h j (by omega) hl
        rw [← Bool.not_eq_true, before_iff] at h1 ⊢
        rw [before_iff] at hb
        omega
    · rw [if_neg hb]
      refine nextFrom_ok l r (i + 1) k hr' hk (by omega) (fun j hj hl => ?_)
      by_cases e : j = i
      · rw [e, hx]; simpa using hb
      · exact h j (by omega) hl
theorem nextI_ok {l : List Sn} (h : l ≠ []) : nextI l < l.length ∧ ∀ j, j < l.length → before l[j]! l[nextI l]! = false :=
  nextFrom_ok l (l.drop 1) 1 0 rfl (List.length_pos_iff.2 h) (by omega) (fun j hj hl => by
    have : j = 0 := by omega
    rw [this]; simp [before])
/-- The nodes in sight, with that one at that sum or less. -/
def sightL : List Sn → Int → Int → List Sn
  | [], id, s => [(id, s)]
  | x :: r, id, s => if x.1 = id then (if s < x.2 then (x.1, s) :: r else x :: r) else x :: sightL r id s
theorem sight_mem {id s : Int} : ∀ {l : List Sn} {p : Sn}, (l.map (·.1)).Nodup → (p ∈ sightL l id s ↔ (p ∈ l ∧ p.1 ≠ id) ∨ (p.1 = id ∧ ((∀ q ∈ l, q.1 ≠ id) ∧ p.2 = s ∨ ∃ q ∈ l, q.1 = id ∧ p.2 = min q.2 s)))
  | [], p, _ => by
    simp only [sightL, List.mem_singleton, List.not_mem_nil, false_and, false_or, false_implies, implies_true, true_and, exists_const, or_false]
    constructor
    · rintro rfl; exact ⟨rfl, rfl⟩
    · rintro ⟨h1, h2⟩; exact Prod.ext h1 h2
  | x :: r, p, hn => by
    have hn' : x.1 ∉ r.map (·.1) ∧ (r.map (·.1)).Nodup := List.nodup_cons.1 hn
    unfold sightL
    by_cases e : x.1 = id
    · rw [if_pos e]
      have hr : ∀ q ∈ r, q.1 ≠ id := fun q hq e2 => hn'.1 (List.mem_map.2 ⟨q, hq, by rw [e2, e]⟩)
      have hmin : (if s < x.2 then (x.1, s) :: r else x :: r) = (x.1, min x.2 s) :: r := by
        by_cases h : s < x.2
        · rw [if_pos h, Int.min_eq_right (by omega)]
        · rw [if_neg h, Int.min_eq_left (by omega)]
      rw [hmin, List.mem_cons]
      constructor
      · rintro (rfl | h)
        · exact .inr ⟨e, .inr ⟨x, by simp, e, rfl⟩⟩
        · exact .inl ⟨by simp [h], hr p h⟩
      · rintro (⟨h1, h2⟩ | ⟨h1, h2 | ⟨q, hq, hq2, h3⟩⟩)
        · rcases List.mem_cons.1 h1 with rfl | h
          · exact absurd e h2
          · exact .inr h
        · exact absurd e (h2.1 x (by simp))
        · rcases List.mem_cons.1 hq with rfl | h
          · exact .inl (Prod.ext (by rw [h1, e]) h3)
          · exact absurd hq2 (hr q h)
    · rw [if_neg e, List.mem_cons, sight_mem hn'.2]
      constructor
      · rintro (rfl | h)
        · exact .inl ⟨by simp, e⟩
        · rcases h with ⟨h1, h2⟩ | ⟨h1, ⟨h2, h3⟩ | ⟨q, hq, h2⟩⟩
          · exact .inl ⟨by simp [h1], h2⟩
          · exact .inr ⟨h1, .inl ⟨fun q hq => by rcases List.mem_cons.1 hq with rfl | h; exact e; exact h2 q h, h3⟩⟩
          · exact .inr ⟨h1, .inr ⟨q, by simp [hq], h2⟩⟩
      · rintro (⟨h1, h2⟩ | ⟨h1, ⟨h2, h3⟩ | ⟨q, hq, h2⟩⟩)
        · rcases List.mem_cons.1 h1 with rfl | h
          · exact .inl rfl
          · exact .inr (.inl ⟨h, h2⟩)
        · exact .inr (.inr ⟨h1, .inl ⟨fun q hq => h2 q (by simp [hq]), h3⟩⟩)
        · rcases List.mem_cons.1 hq with rfl | h
          · exact absurd h2.1 e
          · exact .inr (.inr ⟨h1, .inr ⟨q, h, h2⟩⟩)
theorem sight_ids {id s : Int} : ∀ {l : List Sn} {n : Int}, n ∈ (sightL l id s).map (·.1) ↔ n ∈ l.map (·.1) ∨ n = id
  | [], n => by simp [sightL]
  | x :: r, n => by
    unfold sightL
    by_cases e : x.1 = id
    · rw [if_pos e]
      have : (if s < x.2 then (x.1, s) :: r else x :: r).map (·.1) = (x :: r).map (·.1) := by split <;> rfl
      rw [this]
      constructor
      · exact .inl
      · rintro (h | h)
        · exact h
        · rw [h, ← e]; simp
    · rw [if_neg e, List.map_cons, List.mem_cons, sight_ids, List.map_cons, List.mem_cons, or_assoc]
theorem sight_nodup {id s : Int} : ∀ {l : List Sn}, (l.map (·.1)).Nodup → ((sightL l id s).map (·.1)).Nodup
  | [], _ => by simp [sightL]
  | x :: r, hn => by
    have hn' : x.1 ∉ r.map (·.1) ∧ (r.map (·.1)).Nodup := List.nodup_cons.1 hn
    unfold sightL
    by_cases e : x.1 = id
    · rw [if_pos e]
      have : (if s < x.2 then (x.1, s) :: r else x :: r).map (·.1) = (x :: r).map (·.1) := by split <;> rfl
      rw [this]; exact hn
    · rw [if_neg e, List.map_cons, List.nodup_cons]
      refine ⟨fun h => ?_, sight_nodup hn'.2⟩
      rcases sight_ids.1 h with h | h
      · exact hn'.1 h
      · exact e h
/-- The arcs of the settled node are followed, as the document says. -/
def relaxR (hops : Bool) (s : Int) (st : List Sn) : List Ar → List Sn → Int × List Sn
  | [], near => (0, near)
  | a :: r, near =>
    if wei hops a < 0 then (90, near)
    else if 1099511627776 - s < wei hops a then (91, near)
    else if st.any (fun p => p.1 == a.2.1) then relaxR hops s st r near
    else relaxR hops s st r (sightL near a.2.1 (s + wei hops a))
/-- What a search comes to. -/
structure Rs where
  st : List Sn
  asked : List Int
  code : Int
  hit : Bool
def srch (hops : Bool) (rs : List Nr) (tail : Bool) (aim : Option Int) (most : Int) : Nat → List Sn → List Sn → List Int → Rs
  | 0, st, _, asked => ⟨st, asked, 0, false⟩
  | f + 1, st, near, asked =>
    if near = [] then ⟨st, asked, 0, false⟩
    else if st.length = 4096 then ⟨st, asked, 92, false⟩
    else
      let x := near[nextI near]!
      let near' := near.eraseIdx (nextI near)
      let st' := st ++ [x]
      if aim = some x.1 then ⟨st', asked, 0, true⟩
      else if most < 0 ∨ x.2 < most then
        if (netOf rs tail x.1).2 ≠ 0 then ⟨st', asked ++ [x.1], (netOf rs tail x.1).2, false⟩
        else
          let r := relaxR hops x.2 st' (netOf rs tail x.1).1 near'
          if r.1 ≠ 0 then ⟨st', asked ++ [x.1], r.1, false⟩ else srch hops rs tail aim most f st' r.2 (asked ++ [x.1])
      else srch hops rs tail aim most f st' near' asked
/-- How a program's search stands to the document's. -/
structure PR (fs : List Fd) (bs : Int → Option Nat) (l : List It) (st near : List Sn) : Prop where
  nod : ∀ n i, bs n = some i → (fs[i]!).n = n
  idx : ∀ n i, bs n = some i → i < fs.length
  dom : ∀ x ∈ l, x.1 = x.2 ∧ 0 ≤ x.1 ∧ x.1 < fs.length
  nr : ∀ p ∈ near, ∃ i : Nat, bs p.1 = some i ∧ ((i : Int), (i : Int)) ∈ l ∧ (fs[i]!).s = p.2
  sd : ∀ p ∈ st, ∃ i : Nat, bs p.1 = some i ∧ ((i : Int), (i : Int)) ∉ l ∧ (fs[i]!).s = p.2
  al : ∀ n i, bs n = some i → (((i : Int), (i : Int)) ∈ l ∧ (n, (fs[i]!).s) ∈ near) ∨ (((i : Int), (i : Int)) ∉ l ∧ (n, (fs[i]!).s) ∈ st)
  nd : (near.map (·.1)).Nodup
  mono : ∀ p ∈ st, ∀ x ∈ l, p.2 ≤ (fs[x.1.toNat]!).s
  sum : ∀ i, i < fs.length → 0 ≤ (fs[i]!).s ∧ (fs[i]!).s ≤ 1099511627776
end

theorem PR.congr {fs : List Fd} {bs : Int → Option Nat} {l l' : List It} {st near : List Sn} (h : PR fs bs l st near) (e : ∀ x, x ∈ l ↔ x ∈ l') : PR fs bs l' st near :=
  ⟨h.nod, h.idx, fun x hx => h.dom x ((e x).2 hx), fun p hp => by obtain ⟨i, h1, h2, h3⟩ := h.nr p hp; exact ⟨i, h1, (e _).1 h2, h3⟩, fun p hp => by obtain ⟨i, h1, h2, h3⟩ := h.sd p hp; exact ⟨i, h1, fun q => h2 ((e _).2 q), h3⟩,
    fun n i hn => by rw [← e]; exact h.al n i hn, h.nd, fun p hp x hx => h.mono p hp x ((e x).2 hx), h.sum⟩
theorem PR.init (from_ : Int) : PR [⟨from_, 0, 0, -1⟩] (upd (fun _ => none) from_ (some 0)) [(0, 0)] [] [(from_, 0)] := by
  have hu : ∀ n i, upd (fun _ : Int => (none : Option Nat)) from_ (some 0) n = some i → n = from_ ∧ i = 0 := fun n i h => by
    unfold upd at h
    split at h
    · rename_i e; cases h; exact ⟨e, rfl⟩
    · cases h
  refine ⟨fun n i h => ?_, fun n i h => ?_, fun x hx => ?_, fun p hp => ?_, fun p hp => ?_, fun n i h => ?_, ?_, fun p hp => ?_, fun i hi => ?_⟩
  · obtain ⟨rfl, rfl⟩ := hu n i h; rfl
  · obtain ⟨rfl, rfl⟩ := hu n i h; simp
  · simp at hx; subst hx; simp
  · simp at hp; subst hp; exact ⟨0, upd_same _ _ _, by simp, rfl⟩
  · simp at hp
  · obtain ⟨rfl, rfl⟩ := hu n i h; exact .inl ⟨by simp, by simp⟩
  · simp
  · simp at hp
  · simp at hi; subst hi; exact ⟨Int.le_refl _, show (0 : Int) ≤ 1099511627776 by decide⟩
/-- What comes out of the heap is stale, or the least one in sight. -/
theorem PR.stale {fs : List Fd} {bs : Int → Option Nat} {l : List It} {st near : List Sn} (h : PR fs bs l st near) {p : Sn} (hp : p ∈ near) : ∃ x ∈ l, ¬ Stale fs bs x ∧ (fs[x.1.toNat]!).n = p.1 ∧ (fs[x.1.toNat]!).s = p.2 := by
  obtain ⟨i, h1, h2, h3⟩ := h.nr p hp
  have hn := h.nod _ _ h1
  refine ⟨_, h2, ?_, ?_, ?_⟩
  · unfold Stale
    rw [Int.toNat_natCast, hn, h1]
    simp
  · rw [Int.toNat_natCast, hn]
  · rw [Int.toNat_natCast, h3]
theorem PR.fresh {fs : List Fd} {bs : Int → Option Nat} {l : List It} {st near : List Sn} (h : PR fs bs l st near) {x : It} (hx : x ∈ l) (hs : ¬ Stale fs bs x) : ((fs[x.1.toNat]!).n, (fs[x.1.toNat]!).s) ∈ near := by
  obtain ⟨e, h0, h1⟩ := h.dom x hx
  have hb : bs (fs[x.1.toNat]!).n = some x.1.toNat := by
    unfold Stale at hs
    exact Decidable.not_not.1 hs
  have hxe : x = ((x.1.toNat : Int), (x.1.toNat : Int)) := by
    have : (x.1.toNat : Int) = x.1 := by omega
    rw [this]; exact Prod.ext rfl e.symm
  rcases h.al _ _ hb with q | q
  · exact q.2
  · exact absurd (hxe ▸ hx) q.1
theorem ah_no {fs : List Fd} {x y : It} (h : Hp.ah (ltF fs) y x = false) : ltF fs y.1 x.1 = false := by
  unfold Hp.ah at h
  split at h
  · simp only [Bool.not_eq_false'] at h
    exact (wo_F fs).asy _ _ h
  · exact h
theorem mem_eraseIdx {l : List Sn} (hn : (l.map (·.1)).Nodup) {k : Nat} (hk : k < l.length) {p : Sn} : p ∈ l.eraseIdx k ↔ p ∈ l ∧ p.1 ≠ (l[k]!).1 := by
  rw [Hp.get_of hk]
  rw [List.mem_eraseIdx_iff_getElem]
  constructor
  · rintro ⟨i, hi, hne, rfl⟩
    refine ⟨List.getElem_mem _, fun e => hne ?_⟩
    have hp := List.pairwise_iff_getElem.1 hn
    rcases Nat.lt_trichotomy i k with q | q | q
    · exact absurd (by rw [List.getElem_map, List.getElem_map]; exact e) (hp i k (by simpa using hi) (by simpa using hk) q)
    · exact q
    · exact absurd (by rw [List.getElem_map, List.getElem_map]; exact e.symm) (hp k i (by simpa using hk) (by simpa using hi) q)
  · rintro ⟨h1, h2⟩
    obtain ⟨i, hi, rfl⟩ := List.getElem_of_mem h1
    exact ⟨i, hi, fun e => h2 (by subst e; rfl), rfl⟩
theorem nodup_eraseIdx {l : List Sn} (hn : (l.map (·.1)).Nodup) (k : Nat) : ((l.eraseIdx k).map (·.1)).Nodup := by
  exact hn.sublist ((List.eraseIdx_sublist _ _).map _)
theorem PR.settle {fs : List Fd} {bs : Int → Option Nat} {l dead r : List It} {st near : List Sn} {x : It} (h : PR fs bs l st near) (hnd : l.Nodup) (hp : l.Perm (dead ++ x :: r)) (hdead : ∀ y ∈ dead, Stale fs bs y) (hx : ¬ Stale fs bs x) (hr : ∀ y ∈ r, Hp.ah (ltF fs) y x = false) :
    near ≠ [] ∧ near[nextI near]! = ((fs[x.1.toNat]!).n, (fs[x.1.toNat]!).s) ∧ PR fs bs r (st ++ [((fs[x.1.toNat]!).n, (fs[x.1.toNat]!).s)]) (near.eraseIdx (nextI near)) ∧ (∀ p ∈ st, p.2 ≤ (fs[x.1.toNat]!).s) := by
  have hxl : x ∈ l := hp.symm.subset (by simp)
  have hxn := h.fresh hxl hx
  have hne : near ≠ [] := fun e => by rw [e] at hxn; simp at hxn
  obtain ⟨hk, hmin⟩ := nextI_ok hne
  have hnr : ∀ y ∈ near, before y ((fs[x.1.toNat]!).n, (fs[x.1.toNat]!).s) = false := fun y hy => by
    obtain ⟨z, hz, hzs, e1, e2⟩ := h.stale hy
    have hz2 := hp.subset hz
    rcases List.mem_append.1 hz2 with q | q
    · exact absurd (hdead z q) hzs
    · rcases List.mem_cons.1 q with rfl | q
      · rw [← Bool.not_eq_true, before_iff]
        simp only
        omega
      · have := ltF_no.1 (ah_no (hr z q))
        rw [← Bool.not_eq_true, before_iff]
        simp only
        omega
  have hmem : near[nextI near]! ∈ near := by rw [Hp.get_of hk]; exact List.getElem_mem _
  have heq : near[nextI near]! = ((fs[x.1.toNat]!).n, (fs[x.1.toNat]!).s) := by
    obtain ⟨j, hj, hje⟩ := List.getElem_of_mem hxn
    have h1 := hmin j hj
    rw [Hp.get_of hj, hje] at h1
    have h2 := hnr _ hmem
    rw [← Bool.not_eq_true, before_iff] at h1 h2
    simp only at h1 h2
    refine Prod.ext ?_ ?_ <;> simp only <;> omega
  have hmono : ∀ p ∈ st, p.2 ≤ (fs[x.1.toNat]!).s := fun p hp' => h.mono p hp' x hxl
  refine ⟨hne, heq, ?_, hmono⟩
  have hnd2 := hp.nodup_iff.1 hnd
  have hxr : x ∉ r := fun q => by
    have := (List.nodup_append.1 hnd2).2.1
    exact (List.nodup_cons.1 this).1 q
  have hrl : ∀ y ∈ r, y ∈ l := fun y hy => hp.symm.subset (by simp [hy])
  obtain ⟨xe, x0, x1⟩ := h.dom x hxl
  have hxb : bs (fs[x.1.toNat]!).n = some x.1.toNat := by unfold Stale at hx; exact Decidable.not_not.1 hx
  have hxe : x = ((x.1.toNat : Int), (x.1.toNat : Int)) := by
    have : (x.1.toNat : Int) = x.1 := by omega
    rw [this]; exact Prod.ext rfl xe.symm
  have hin : ∀ n i, bs n = some i → i ≠ x.1.toNat → (((i : Int), (i : Int)) ∈ r ↔ ((i : Int), (i : Int)) ∈ l) := fun n i hn hi => by
    refine ⟨hrl _, fun q => ?_⟩
    rcases List.mem_append.1 (hp.subset q) with q | q
    · have := hdead _ q
      unfold Stale at this
      rw [Int.toNat_natCast, h.nod n i hn] at this
      exact absurd hn this
    · rcases List.mem_cons.1 q with q | q
      · exact absurd (by rw [← q]; simp) hi
      · exact q
  refine ⟨h.nod, h.idx, fun y hy => h.dom y (hrl y hy), fun p hp' => ?_, fun p hp' => ?_, fun n i hn => ?_, nodup_eraseIdx h.nd _, fun p hp' y hy => ?_, h.sum⟩
  · obtain ⟨h1, h2⟩ := (mem_eraseIdx h.nd hk).1 hp'
    rw [heq] at h2
    obtain ⟨i, g1, g2, g3⟩ := h.nr p h1
    have hi : i ≠ x.1.toNat := fun e => h2 (by subst e; exact (h.nod _ _ g1).symm)
    exact ⟨i, g1, (hin _ _ g1 hi).2 g2, g3⟩
  · rcases List.mem_append.1 hp' with q | q
    · obtain ⟨i, g1, g2, g3⟩ := h.sd p q
      exact ⟨i, g1, fun q => g2 (hrl _ q), g3⟩
    · obtain rfl := List.mem_singleton.1 q
      exact ⟨x.1.toNat, hxb, by rw [← hxe]; exact hxr, rfl⟩
  · by_cases hi : i = x.1.toNat
    · subst hi
      have : n = (fs[x.1.toNat]!).n := (h.nod _ _ hn).symm
      subst this
      exact .inr ⟨by rw [← hxe]; exact hxr, by simp⟩
    · rw [hin n i hn hi]
      rcases h.al n i hn with ⟨q1, q2⟩ | ⟨q1, q2⟩
      · refine .inl ⟨q1, (mem_eraseIdx h.nd hk).2 ⟨q2, ?_⟩⟩
        rw [heq]
        intro e
        have e' : n = (fs[x.1.toNat]!).n := e
        rw [e', hxb] at hn
        exact hi (Option.some.inj hn).symm
      · exact .inr ⟨q1, List.mem_append_left _ q2⟩
  · rcases List.mem_append.1 hp' with q | q
    · exact h.mono p q y (hrl y hy)
    · obtain rfl := List.mem_singleton.1 q
      have := ltF_no.1 (ah_no (hr y hy))
      simp only
      omega
theorem sight_same {id s t : Int} : ∀ {l : List Sn}, (l.map (·.1)).Nodup → (id, t) ∈ l → t ≤ s → sightL l id s = l
  | [], _, h, _ => by simp at h
  | x :: r, hn, h, ht => by
    have hn' : x.1 ∉ r.map (·.1) ∧ (r.map (·.1)).Nodup := List.nodup_cons.1 hn
    unfold sightL
    rcases List.mem_cons.1 h with rfl | h
    · rw [if_pos rfl, if_neg (by simp only; omega)]
    · have : x.1 ≠ id := fun e => hn'.1 (List.mem_map.2 ⟨_, h, e.symm⟩)
      rw [if_neg this, sight_same hn'.2 h ht]
/-- One arc is followed. -/
theorem PR.add {fs : List Fd} {bs : Int → Option Nat} {l : List It} {st near : List Sn} {s : Int} {f : Fd} (h : PR fs bs l st near) (hst : ∀ p ∈ st, p.2 ≤ s) (hs : s ≤ f.s) (hf : 0 ≤ f.s ∧ f.s ≤ 1099511627776) (hk : keepB fs bs f = false) :
    st.any (fun p => p.1 == f.n) = false ∧ PR (fs ++ [f]) (upd bs f.n (some fs.length)) (((fs.length : Int), (fs.length : Int)) :: l) st (sightL near f.n f.s) := by
  have hlt : ∀ i, bs f.n = some i → f.s < (fs[i]!).s := fun i hi => by
    unfold keepB at hk
    rw [hi] at hk
    have := of_decide_eq_false hk
    omega
  have hns : ∀ p ∈ st, p.1 ≠ f.n := fun p hp e => by
    obtain ⟨i, g1, g2, g3⟩ := h.sd p hp
    rw [e] at g1
    have := hlt i g1
    have := hst p hp
    omega
  have hml : ∀ i : Nat, i < fs.length → (((i : Int), (i : Int)) ∈ ((fs.length : Int), (fs.length : Int)) :: l ↔ ((i : Int), (i : Int)) ∈ l) := fun i hi => by
    rw [List.mem_cons]
    refine ⟨fun q => q.elim (fun e => ?_) (fun q => q), .inr⟩
    simp at e; omega
  have hnm : ∀ p ∈ sightL near f.n f.s, p.1 = f.n → p.2 = f.s := fun p hp e => by
    rcases (sight_mem h.nd).1 hp with q | ⟨_, ⟨_, q⟩ | ⟨q, hq, e2, e3⟩⟩
    · exact absurd e q.2
    · exact q
    · obtain ⟨i, g1, g2, g3⟩ := h.nr q hq
      rw [e2] at g1
      have := hlt i g1
      omega
  refine ⟨?_, fun n i hn => ?_, fun n i hn => ?_, fun x hx => ?_, fun p hp => ?_, fun p hp => ?_, fun n i hn => ?_, sight_nodup h.nd, fun p hp x hx => ?_, fun i hi => ?_⟩
  · rw [List.any_eq_false]
    intro p hp
    simpa using hns p hp
  · unfold upd at hn
    split at hn
    · rename_i e; cases hn; rw [get_last, e]
    · rw [get_app (h.idx n i hn)]; exact h.nod n i hn
  · unfold upd at hn
    split at hn
    · cases hn; simp
    · have := h.idx n i hn; simp; omega
  · rcases List.mem_cons.1 hx with rfl | q
    · simp; omega
    · have := h.dom x q; simp; omega
  · by_cases e : p.1 = f.n
    · refine ⟨fs.length, by rw [e, upd_same], by simp, ?_⟩
      rw [get_last, hnm p hp e]
    · rcases (sight_mem h.nd).1 hp with q | q
      · obtain ⟨i, g1, g2, g3⟩ := h.nr p q.1
        have hi := h.idx _ _ g1
        exact ⟨i, by rw [upd_other e]; exact g1, (hml i hi).2 g2, by rw [get_app hi]; exact g3⟩
      · exact absurd q.1 e
  · obtain ⟨i, g1, g2, g3⟩ := h.sd p hp
    have hi := h.idx _ _ g1
    exact ⟨i, by rw [upd_other (hns p hp)]; exact g1, fun q => g2 ((hml i hi).1 q), by rw [get_app hi]; exact g3⟩
  · by_cases e : n = f.n
    · subst e
      rw [upd_same] at hn
      cases hn
      refine .inl ⟨by simp, ?_⟩
      rw [get_last]
      refine (sight_mem h.nd).2 (.inr ⟨rfl, ?_⟩)
      by_cases hq : ∀ q ∈ near, q.1 ≠ f.n
      · exact .inl ⟨hq, rfl⟩
      · simp only [Classical.not_forall, Decidable.not_not] at hq
        obtain ⟨q, hq1, hq2⟩ := hq
        refine .inr ⟨q, hq1, hq2, ?_⟩
        obtain ⟨i, g1, g2, g3⟩ := h.nr q hq1
        rw [hq2] at g1
        have := hlt i g1
        simp only
        omega
    · rw [upd_other e] at hn
      have hi := h.idx _ _ hn
      rw [hml i hi, get_app hi]
      rcases h.al n i hn with ⟨q1, q2⟩ | q
      · exact .inl ⟨q1, (sight_mem h.nd).2 (.inl ⟨q2, e⟩)⟩
      · exact .inr q
  · rcases List.mem_cons.1 hx with rfl | q
    · simp only [Int.toNat_natCast]
      rw [get_last]
      have := hst p hp
      omega
    · have hd := h.dom x q
      rw [get_app (by omega)]
      exact h.mono p hp x q
  · simp at hi
    by_cases e : i = fs.length
    · subst e; rw [get_last]; exact hf
    · rw [get_app (by omega)]; exact h.sum i (by omega)
theorem PR.keep {fs : List Fd} {bs : Int → Option Nat} {l : List It} {st near : List Sn} {f : Fd} (h : PR fs bs l st near) (hk : keepB fs bs f = true) : (if st.any (fun p => p.1 == f.n) then near else sightL near f.n f.s) = near := by
  obtain ⟨i, hb, hle⟩ : ∃ i, bs f.n = some i ∧ (fs[i]!).s ≤ f.s := by
    unfold keepB at hk
    split at hk
    · cases hk
    · rename_i i e
      exact ⟨i, e, of_decide_eq_true hk⟩
  rcases h.al _ _ hb with ⟨_, q⟩ | ⟨_, q⟩
  · by_cases ha : st.any (fun p => p.1 == f.n) = true
    · rw [if_pos ha]
    · rw [if_neg ha]
      exact sight_same h.nd q hle
  · rw [if_pos]
    exact List.any_eq_true.2 ⟨_, q, by simp⟩
/-- All arcs are followed. -/
theorem PR.relax (hops : Bool) (s : Int) (i : Nat) (st : List Sn) (hst : ∀ p ∈ st, p.2 ≤ s) (hs0 : 0 ≤ s) : ∀ (as_ : List Ar) {fs : List Fd} {bs : Int → Option Nat} {l : List It} {near : List Sn} (_ : PR fs bs l st near),
    (relaxR hops s st as_ near).1 = (relaxP hops s i as_ fs bs).1 ∧ fs.length ≤ (relaxP hops s i as_ fs bs).2.1.length ∧ (∀ j, j < fs.length → ((relaxP hops s i as_ fs bs).2.1)[j]! = fs[j]!) ∧ ∀ l', Came fs.length (relaxP hops s i as_ fs bs).2.1.length l l' → PR (relaxP hops s i as_ fs bs).2.1 (relaxP hops s i as_ fs bs).2.2 l' st (relaxR hops s st as_ near).2
  | [], fs, bs, l, near, h => ⟨rfl, Nat.le_refl _, fun _ _ => rfl, fun l' hl => h.congr (fun x => by rw [hl x]; exact ⟨.inl, fun q => q.elim (fun q => q) (fun ⟨j, h1, h2, _⟩ => by have h2' : j < fs.length := h2; omega)⟩)⟩
  | a :: r, fs, bs, l, near, h => by
    have hrefl : ∀ l', Came fs.length fs.length l l' → PR fs bs l' st near := fun l' hl => h.congr (fun x => by rw [hl x]; exact ⟨.inl, fun q => q.elim (fun q => q) (fun ⟨j, h1, h2, _⟩ => by omega)⟩)
    unfold relaxR relaxP
    by_cases c1 : wei hops a < 0
    · simp only [if_pos c1]
      exact ⟨trivial, Nat.le_refl _, fun _ _ => trivial, hrefl⟩
    · simp only [if_neg c1]
      by_cases c2 : 1099511627776 - s < wei hops a
      · simp only [if_pos c2]
        exact ⟨trivial, Nat.le_refl _, fun _ _ => trivial, hrefl⟩
      · simp only [if_neg c2]
        cases hk : keepB fs bs ⟨a.2.1, s + wei hops a, a.1, i⟩ with
        | true =>
          rw [if_pos rfl]
          have e := h.keep hk
          simp only at e
          have e2 : (if (st.any fun p => p.1 == a.2.1) = true then relaxR hops s st r near else relaxR hops s st r (sightL near a.2.1 (s + wei hops a))) = relaxR hops s st r near := by
            by_cases ha : (st.any fun p => p.1 == a.2.1) = true
            · rw [if_pos ha]
            · rw [if_neg ha] at e ⊢
              rw [e]
          rw [e2]
          exact PR.relax hops s i st hst hs0 r h
        | false =>
          have hn := h.add (s := s) (f := ⟨a.2.1, s + wei hops a, a.1, i⟩) hst (by simp only; omega) (by simp only; omega) hk
          rw [if_neg (show ¬ ((st.any fun p => p.1 == a.2.1) = true) by rw [show (st.any fun p => p.1 == a.2.1) = false from hn.1]; simp), if_neg (show ¬ (false = true) by simp)]
          have ih := PR.relax hops s i st hst hs0 r hn.2
          simp only at ih ⊢
          obtain ⟨h1, h2, h3, h4⟩ := ih
          have hlen : (fs ++ [(⟨a.2.1, s + wei hops a, a.1, i⟩ : Fd)]).length = fs.length + 1 := by simp
          rw [hlen] at h2 h3 h4
          refine ⟨h1, by omega, fun j hj => by rw [h3 j (by omega), get_app hj], fun l' hl => h4 l' (fun x => ?_)⟩
          rw [hl x, List.mem_cons]
          constructor
          · rintro (q | ⟨j, q1, q2, rfl⟩)
            · exact .inl (.inr q)
            · by_cases e : j = fs.length
              · subst e; exact .inl (.inl rfl)
              · exact .inr ⟨j, by omega, q2, rfl⟩
          · rintro ((rfl | q) | ⟨j, q1, q2, rfl⟩)
            · exact .inr ⟨fs.length, Nat.le_refl _, by omega, rfl⟩
            · exact .inl q
            · exact .inr ⟨j, by omega, q2, rfl⟩
end Go.Proofs.YtemkilffagjmcaaDoor
