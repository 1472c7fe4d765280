/- Paths: which arc came first, as a thing of thought. -/
import Derived.Test.YtemkilffagjmcaaDoorPj10
namespace Go.Proofs.YtemkilffagjmcaaDoor

/-- No arc ahead of that one (by the settled nodes, then by their lists) came to the node with that sum or less. -/
def Lead (rs : List Nr) (tail : Bool) (st : List Sn) (q r : Nat) (n s : Int) : Prop :=
  (∀ (q' : Nat) p, q' < q → st[q']? = some p → ∀ a' ∈ (netOf rs tail p.1).1, a'.2.1 = n → s < p.2 + a'.2.2) ∧
  (∀ p, st[q]? = some p → ∀ (r' : Nat) a', r' < r → (netOf rs tail p.1).1[r']? = some a' → a'.2.1 = n → s < p.2 + a'.2.2)
theorem Lead.st {rs : List Nr} {tail : Bool} {st : List Sn} {q r : Nat} {n s : Int} (h : Lead rs tail st q r n s) (hq : q < st.length) (c : Sn) : Lead rs tail (st ++ [c]) q r n s := by
  have e : ∀ k, k ≤ q → (st ++ [c])[k]? = st[k]? := fun k hk => List.getElem?_append_left (by omega)
  exact ⟨fun q' p hq' hp => h.1 q' p hq' (by rw [← e q' (by omega)]; exact hp), fun p hp => h.2 p (by rw [← e q (Nat.le_refl _)]; exact hp)⟩
/-- How a find came about. -/
def Made (rs : List Nr) (tail : Bool) (fs : List Fd) (st : List Sn) (j : Nat) : Prop := ∃ (q r i : Nat) (a : Ar), i < j ∧ st[q]? = some ((fs[i]!).n, (fs[i]!).s) ∧ (netOf rs tail (fs[i]!).n).1[r]? = some a ∧ fs[j]! = ⟨a.2.1, (fs[i]!).s + a.2.2, a.1, i⟩ ∧ Lead rs tail st q r (fs[j]!).n (fs[j]!).s ∧ (∀ k : Nat, st[k]? = some ((fs[j]!).n, (fs[j]!).s) → q < k)
theorem Made.fs {rs : List Nr} {tail : Bool} {fs : List Fd} {st : List Sn} {j : Nat} (h : Made rs tail fs st j) (hj : j < fs.length) (f : Fd) : Made rs tail (fs ++ [f]) st j := by
  obtain ⟨q, r, i, a, hi, h1, h2, h3, h4, h5⟩ := h
  have ei : (fs ++ [f])[i]! = fs[i]! := get_app (Nat.lt_trans hi hj)
  have ej : (fs ++ [f])[j]! = fs[j]! := get_app hj
  exact ⟨q, r, i, a, hi, by rw [ei]; exact h1, by rw [ei]; exact h2, by rw [ej, ei]; exact h3, by rw [ej]; exact h4, by rw [ej]; exact h5⟩
theorem Made.st {rs : List Nr} {tail : Bool} {fs : List Fd} {st : List Sn} {j : Nat} (h : Made rs tail fs st j) (c : Sn) : Made rs tail fs (st ++ [c]) j := by
  obtain ⟨q, r, i, a, hi, h1, h2, h3, h4, h5⟩ := h
  have hq := (List.getElem?_eq_some_iff.1 h1).1
  refine ⟨q, r, i, a, hi, by rw [List.getElem?_append_left hq]; exact h1, h2, h3, h4.st hq c, fun k hk => ?_⟩
  by_cases hkl : k < st.length
  · rw [List.getElem?_append_left hkl] at hk
    exact h5 k hk
  · omega
/-- What is known of finds and settled nodes between two rounds. -/
structure Fx (rs : List Nr) (tail : Bool) (from_ : Int) (fs : List Fd) (bs : Int → Option Nat) (st : List Sn) : Prop where
  one : st = [] → fs = [⟨from_, 0, 0, -1⟩]
  hd : ∀ p, st[0]? = some p → p = (from_, 0)
  nd : (st.map (·.1)).Nodup
  org : ∀ j, j < fs.length → fs[j]! = ⟨from_, 0, 0, -1⟩ ∨ Made rs tail fs st j
  best : ∀ p ∈ st, ∀ a ∈ (netOf rs tail p.1).1, ∃ i, bs a.2.1 = some i ∧ (fs[i]!).s ≤ p.2 + a.2.2
  cd : ∀ p ∈ st, (netOf rs tail p.1).2 = 0
  src : ∀ p ∈ st, p.1 = from_ ∨ ∃ id, ∃ a ∈ (netOf rs tail id).1, a.2.1 = p.1
  wt : ∀ p ∈ st, 0 ≤ p.2 ∧ p.2 ≤ 1099511627776 ∧ ∀ a ∈ (netOf rs tail p.1).1, 0 ≤ a.2.2 ∧ a.2.2 ≤ 1099511627776 - p.2
/-- The same while a node is looked at. -/
structure Fr (rs : List Nr) (tail : Bool) (from_ : Int) (fs : List Fd) (bs : Int → Option Nat) (st : List Sn) (N s : Int) (i : Nat) (don : List Ar) : Prop where
  il : i < fs.length
  en : (fs[i]!).n = N
  es : (fs[i]!).s = s
  idx : ∀ n i, bs n = some i → i < fs.length
  org : ∀ j, j < fs.length → fs[j]! = ⟨from_, 0, 0, -1⟩ ∨ Made rs tail fs (st ++ [(N, s)]) j
  best : ∀ p ∈ st, ∀ a ∈ (netOf rs tail p.1).1, ∃ i, bs a.2.1 = some i ∧ (fs[i]!).s ≤ p.2 + a.2.2
  don : ∀ a ∈ don, (∃ i, bs a.2.1 = some i ∧ (fs[i]!).s ≤ s + a.2.2) ∧ 0 ≤ a.2.2 ∧ a.2.2 ≤ 1099511627776 - s
  sd : ∀ p ∈ st ++ [(N, s)], ∃ i, bs p.1 = some i ∧ (fs[i]!).s = p.2
theorem Fr.relax {rs : List Nr} {tail : Bool} {from_ : Int} {st : List Sn} {N s : Int} {i : Nat} (hle : ∀ p ∈ st ++ [(N, s)], p.2 ≤ s) : ∀ (rest don : List Ar) (fs : List Fd) (bs : Int → Option Nat), (netOf rs tail N).1 = don ++ rest → Fr rs tail from_ fs bs st N s i don → (relaxP false s i rest fs bs).1 = 0 → Fr rs tail from_ (relaxP false s i rest fs bs).2.1 (relaxP false s i rest fs bs).2.2 st N s i (don ++ rest)
  | [], don, fs, bs, _, k, _ => by rw [List.append_nil]; exact k
  | a :: r, don, fs, bs, ha, k, h0 => by
    have ha' : (netOf rs tail N).1 = (don ++ [a]) ++ r := by rw [ha]; simp
    have eapp : don ++ a :: r = (don ++ [a]) ++ r := by simp
    have ew : wei false a = a.2.2 := rfl
    rw [eapp]
    unfold relaxP at h0 ⊢
    rw [ew] at h0 ⊢
    split at h0
    · simp at h0
    · rename_i hw0
      rw [if_neg hw0]
      split at h0
      · simp at h0
      · rename_i hw1
        rw [if_neg hw1]
        split at h0
        · rename_i hk
          rw [if_pos hk]
          refine Fr.relax hle r (don ++ [a]) fs bs ha' ⟨k.il, k.en, k.es, k.idx, k.org, k.best, fun b hb => ?_, k.sd⟩ h0
          rcases List.mem_append.1 hb with q | q
          · exact k.don b q
          · obtain rfl := List.mem_singleton.1 q
            refine ⟨?_, by omega, by omega⟩
            unfold keepB at hk
            simp only at hk
            split at hk
            · cases hk
            · rename_i i' hi'
              exact ⟨i', hi', by simpa using hk⟩
        · rename_i hk
          rw [if_neg hk]
          obtain ⟨f, hf⟩ : ∃ f : Fd, f = ⟨a.2.1, s + a.2.2, a.1, i⟩ := ⟨_, rfl⟩
          have hfn : f.n = a.2.1 := by rw [hf]
          have hfs : f.s = s + a.2.2 := by rw [hf]
          have hstr : ∀ i', bs a.2.1 = some i' → f.s < (fs[i']!).s := fun i' hi' => by
            unfold keepB at hk
            simp only [hi'] at hk
            rw [hfs]
            simpa using hk
          rw [← hf] at h0 ⊢
          have hnew : ∀ m B, (∃ i', bs m = some i' ∧ (fs[i']!).s ≤ B) → ∃ i', upd bs a.2.1 (some fs.length) m = some i' ∧ ((fs ++ [f])[i']!).s ≤ B := fun m B ⟨i', h1, h2⟩ => by
            by_cases e : m = a.2.1
            · subst e
              refine ⟨fs.length, by simp [upd], ?_⟩
              rw [get_last]
              have := hstr i' h1
              omega
            · refine ⟨i', by simp [upd, e, h1], ?_⟩
              rw [get_app (k.idx _ _ h1)]
              exact h2
          have hout : ∀ p ∈ st ++ [(N, s)], p.1 ≠ a.2.1 := fun p hp e => by
            obtain ⟨i', h1, h2⟩ := k.sd p hp
            rw [e] at h1
            have := hstr i' h1
            have := hle p hp
            omega
          refine Fr.relax hle r (don ++ [a]) (fs ++ [f]) (upd bs a.2.1 (some fs.length)) ha' ⟨by simp; have := k.il; omega, by rw [get_app k.il]; exact k.en, by rw [get_app k.il]; exact k.es, fun n j hj => ?_, fun j hj => ?_, fun p hp b hb => hnew _ _ (k.best p hp b hb), fun b hb => ?_, fun p hp => ?_⟩ h0
          · unfold upd at hj
            rw [List.length_append, List.length_singleton]
            split at hj
            · cases hj; omega
            · have := k.idx n j hj; omega
          · by_cases hjl : j < fs.length
            · rw [get_app hjl]
              exact (k.org j hjl).imp_right (fun h => h.fs hjl f)
            · have ej : j = fs.length := by simp at hj; omega
              subst ej
              have ei : (fs ++ [f])[i]! = fs[i]! := get_app k.il
              have hq : (st ++ [(N, s)])[st.length]? = some (N, s) := by simp
              refine .inr ⟨st.length, don.length, i, a, k.il, by rw [ei, k.en, k.es]; exact hq, by rw [ei, k.en, ha]; simp, by rw [get_last, ei, k.es, hf], ?_, fun k' hk' => ?_⟩
              · rw [get_last, hfn]
                refine ⟨fun q' p hq' hp a' ha' he => ?_, fun p hp r' a' hr' ha' he => ?_⟩
                · rw [List.getElem?_append_left hq'] at hp
                  obtain ⟨i', h1, h2⟩ := k.best p (List.mem_of_getElem? hp) a' ha'
                  rw [he] at h1
                  have := hstr i' h1
                  omega
                · rw [hq] at hp
                  cases hp
                  simp only at ha'
                  rw [ha, List.getElem?_append_left hr'] at ha'
                  obtain ⟨⟨i', h1, h2⟩, -⟩ := k.don a' (List.mem_of_getElem? ha')
                  rw [he] at h1
                  have := hstr i' h1
                  simp only
                  omega
              · rw [get_last, hfn] at hk'
                exact absurd rfl (hout (a.2.1, f.s) (List.mem_of_getElem? hk'))
          · rcases List.mem_append.1 hb with q | q
            · exact ⟨hnew _ _ (k.don b q).1, (k.don b q).2⟩
            · obtain rfl := List.mem_singleton.1 q
              refine ⟨⟨fs.length, by simp [upd], by rw [get_last]; omega⟩, by omega, by omega⟩
          · obtain ⟨i', h1, h2⟩ := k.sd p hp
            refine ⟨i', by simp [upd, hout p hp, h1], ?_⟩
            rw [get_app (k.idx _ _ h1)]
            exact h2
theorem Fx.look {rs : List Nr} {tail : Bool} {from_ : Int} {fs : List Fd} {bs : Int → Option Nat} {l : List It} {st near : List Sn} {i : Nat} (hp : PR fs bs l (st ++ [((fs[i]!).n, (fs[i]!).s)]) near) (hi : i < fs.length) (hno : ∀ p ∈ st, p.2 ≤ (fs[i]!).s ∧ p.1 ≠ (fs[i]!).n) (k : Fx rs tail from_ fs bs st) (h0 : (lookP false rs tail i fs bs).1 = 0) : Fx rs tail from_ (lookP false rs tail i fs bs).2.1 (lookP false rs tail i fs bs).2.2 (st ++ [((fs[i]!).n, (fs[i]!).s)]) := by
  have hsum := hp.sum i hi
  have hone : st = [] → ((fs[i]!).n, (fs[i]!).s) = (from_, 0) := fun e => by
    have := k.one e
    subst this
    have hi0 : i = 0 := by simp at hi; exact hi
    subst hi0
    rfl
  have hle : ∀ p ∈ st ++ [((fs[i]!).n, (fs[i]!).s)], p.2 ≤ (fs[i]!).s := fun p hp => by
    rcases List.mem_append.1 hp with q | q
    · exact (hno p q).1
    · obtain rfl := List.mem_singleton.1 q
      exact Int.le_refl _
  have h0' := h0
  unfold lookP at h0
  split at h0
  · rename_i hc
    have e : lookP false rs tail i fs bs = relaxP false (fs[i]!).s i (netOf rs tail (fs[i]!).n).1 fs bs := by unfold lookP; rw [if_pos hc]
    rw [e]
    have hr := Fr.relax (from_ := from_) hle (netOf rs tail (fs[i]!).n).1 [] fs bs rfl ⟨hi, rfl, rfl, hp.idx, fun j hj => (k.org j hj).imp_right (fun h => h.st _), k.best, fun a ha => by simp at ha, fun p hp' => by obtain ⟨i', h1, -, h2⟩ := hp.sd p hp'; exact ⟨i', h1, h2⟩⟩ h0
    rw [List.nil_append] at hr
    refine ⟨fun q => by simp at q, fun p hp' => ?_, ?_, hr.org, fun p hp' a ha => ?_, fun p hp' => ?_, fun p hp' => ?_, fun p hp' => ?_⟩
    · by_cases hst : st = []
      · subst hst
        have e2 := Option.some.inj hp'
        rw [← e2]
        exact hone rfl
      · rw [List.getElem?_append_left (List.length_pos_iff.2 hst)] at hp'
        exact k.hd p hp'
    · rw [List.map_append, List.nodup_append]
      refine ⟨k.nd, by simp, fun x hx y hy => ?_⟩
      obtain ⟨p, hp', rfl⟩ := List.mem_map.1 hx
      obtain rfl := List.mem_singleton.1 hy
      exact (hno p hp').2
    · rcases List.mem_append.1 hp' with q | q
      · exact hr.best p q a ha
      · obtain rfl := List.mem_singleton.1 q
        exact (hr.don a ha).1
    · rcases List.mem_append.1 hp' with q | q
      · exact k.cd p q
      · obtain rfl := List.mem_singleton.1 q
        exact hc
    · rcases List.mem_append.1 hp' with q | q
      · exact k.src p q
      · obtain rfl := List.mem_singleton.1 q
        rcases k.org i hi with e | ⟨_, r, i', a, -, -, h2, h3, -, -⟩
        · exact .inl (by rw [e])
        · exact .inr ⟨_, a, List.mem_of_getElem? h2, by rw [h3]⟩
    · rcases List.mem_append.1 hp' with q | q
      · exact k.wt p q
      · obtain rfl := List.mem_singleton.1 q
        exact ⟨hsum.1, hsum.2, fun a ha => (hr.don a ha).2⟩
  · rename_i hc
    exact absurd h0 hc
theorem Fx.init {rs : List Nr} {tail : Bool} {from_ : Int} {bs : Int → Option Nat} : Fx rs tail from_ [⟨from_, 0, 0, -1⟩] bs [] :=
  ⟨fun _ => rfl, fun p hp => by simp at hp, by simp, fun j hj => by simp at hj; subst hj; exact .inl rfl, fun p hp => by simp at hp, fun p hp => by simp at hp, fun p hp => by simp at hp, fun p hp => by simp at hp⟩
/-- The document's step back: from the settled node at place k to the one at place q, by the arc a. -/
structure Stp (rs : List Nr) (tail : Bool) (st : List Sn) (k q : Nat) (n s : Int) (a : Ar) : Prop where
  lt : q < k
  ex : ∃ (r : Nat) (p : Sn), st[q]? = some p ∧ (netOf rs tail p.1).1[r]? = some a ∧ a.2.1 = n ∧ p.2 + a.2.2 = s ∧ Lead rs tail st q r n s
theorem Fx.back {rs : List Nr} {tail : Bool} {from_ t S : Int} {fs : List Fd} {bs : Int → Option Nat} {st : List Sn} (k : Fx rs tail from_ fs bs st) (hno : ∀ p ∈ st, p.1 ≠ t) (j kk : Nat) (hj : j < fs.length) (hk : (st ++ [(t, S)])[kk]? = some ((fs[j]!).n, (fs[j]!).s)) :
    (kk = 0 ∧ fs[j]! = ⟨from_, 0, 0, -1⟩) ∨ (0 < kk ∧ ∃ (q i : Nat) (a : Ar), i < j ∧ (st ++ [(t, S)])[q]? = some ((fs[i]!).n, (fs[i]!).s) ∧ (fs[j]!).b = i ∧ (fs[j]!).e = a.1 ∧ Stp rs tail (st ++ [(t, S)]) kk q (fs[j]!).n (fs[j]!).s a) := by
  have hkl := (List.getElem?_eq_some_iff.1 hk).1
  rw [List.length_append, List.length_singleton] at hkl
  rcases k.org j hj with e | ⟨q, r, i, a, hi, h1, h2, h3, h4, h5⟩
  · left
    refine ⟨?_, e⟩
    rw [e] at hk
    simp only at hk
    by_cases hst : st = []
    · subst hst
      simp at hkl
      exact hkl
    · have hp0 : 0 < st.length := List.length_pos_iff.2 hst
      obtain ⟨p, hp⟩ : ∃ p, st[0]? = some p := ⟨_, List.getElem?_eq_getElem hp0⟩
      have hd := k.hd p hp
      subst hd
      by_cases hkk : kk < st.length
      · rw [List.getElem?_append_left hkk] at hk
        have hn := k.nd
        have e1 : (st.map (·.1))[kk]? = some from_ := by rw [List.getElem?_map, hk]; rfl
        have e2 : (st.map (·.1))[0]? = some from_ := by rw [List.getElem?_map, hp]; rfl
        exact (List.getElem?_inj (by simpa using hkk) hn).1 (e1.trans e2.symm)
      · have : kk = st.length := by omega
        subst this
        simp at hk
        exact absurd hk.1.symm (hno _ (List.mem_of_getElem? hp))
  · right
    have hq := (List.getElem?_eq_some_iff.1 h1).1
    have hlt : q < kk := by
      by_cases hkk : kk < st.length
      · rw [List.getElem?_append_left hkk] at hk
        exact h5 kk hk
      · omega
    refine ⟨by omega, q, i, a, hi, by rw [List.getElem?_append_left hq]; exact h1, by rw [h3], by rw [h3], ⟨hlt, r, _, by rw [List.getElem?_append_left hq]; exact h1, h2, by rw [h3], by rw [h3], h4.st hq _⟩⟩
end Go.Proofs.YtemkilffagjmcaaDoor
