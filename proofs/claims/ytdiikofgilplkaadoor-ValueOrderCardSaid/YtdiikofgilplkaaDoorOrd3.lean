/- Compare's answer and the bytes (P110, P113). Plain mathematics, no program. -/
import Derived.Test.YtdiikofgilplkaaDoorOrd2
import Derived.Test.YtdiikofgilplkaaDoorCmp2
namespace Go.Proofs.YtdiikofgilplkaaDoor
open Go.RowKit Go.Shelf Go.PlainAid Go.Lib

theorem nats_eq (s : ByteArray) : nats s = s.data.toList.map UInt8.toNat := by
  apply List.ext_getElem?
  intro i
  unfold nats
  rw [List.getElem?_map, List.getElem?_map]
  by_cases h : i < s.size
  · have h2 : i < s.data.toList.length := by simpa using h
    rw [List.getElem?_range h, List.getElem?_eq_getElem h2]
    simp only [Option.map_some]
    unfold bt
    rw [dif_pos h]
    rfl
  · have h2 : s.data.toList.length ≤ i := by simpa using h
    rw [List.getElem?_eq_none (by simpa using h), List.getElem?_eq_none h2]
    rfl
theorem cb_lx : ∀ l l' : List UInt8, compareBytes l l' = lx (l.map UInt8.toNat) (l'.map UInt8.toNat)
  | [], [] => rfl
  | [], _ :: _ => rfl
  | _ :: _, [] => rfl
  | a :: l, b :: m => by
    simp only [compareBytes, List.map_cons, lx, UInt8.lt_iff_toNat_lt, cb_lx l m]
theorem cb_nats (s s' : ByteArray) : compareBytes s.data.toList s'.data.toList = lx (nats s) (nats s') := by rw [cb_lx, nats_eq, nats_eq]
theorem lx_flip : ∀ l m : List Nat, lx m l = - lx l m
  | [], [] => rfl
  | [], _ :: _ => rfl
  | _ :: _, [] => rfl
  | a :: l, b :: m => by
    unfold lx
    rcases Nat.lt_trichotomy a b with h | h | h
    · rw [if_neg (by omega), if_pos h, if_pos h]
      rfl
    · subst h
      rw [if_neg (by omega), if_neg (by omega), if_neg (by omega), if_neg (by omega)]
      exact lx_flip l m
    · rw [if_pos h, if_neg (by omega), if_pos h]
theorem lx_cases : ∀ l m : List Nat, lx l m = -1 ∨ lx l m = 1 ∨ (lx l m = 0 ∧ l = m)
  | [], [] => .inr (.inr ⟨rfl, rfl⟩)
  | [], _ :: _ => .inl rfl
  | _ :: _, [] => .inr (.inl rfl)
  | a :: l, b :: m => by
    unfold lx
    rcases Nat.lt_trichotomy a b with h | h | h
    · rw [if_pos h]; exact .inl rfl
    · subst h
      rw [if_neg (by omega), if_neg (by omega)]
      rcases lx_cases l m with h | h | ⟨h, rfl⟩
      · exact .inl h
      · exact .inr (.inl h)
      · exact .inr (.inr ⟨h, rfl⟩)
    · rw [if_neg (by omega), if_pos h]; exact .inr (.inl rfl)
theorem cI_cases (x y : Int) : (cI x y = -1 ∧ x < y) ∨ (cI x y = 1 ∧ y < x) ∨ (cI x y = 0 ∧ x = y) := by
  unfold cI
  by_cases h : x < y
  · exact .inl ⟨by rw [if_pos h], h⟩
  · by_cases h2 : y < x
    · exact .inr (.inl ⟨by rw [if_neg h, if_pos h2], h2⟩)
    · exact .inr (.inr ⟨by rw [if_neg h, if_neg h2], by omega⟩)
/-- Compare's answer (value.Compare: Compare_any). -/
def ord (n n' : Nat) (a b a' b' : Int) (s s' : ByteArray) : Int := or5 (cI (rkP n) (rkP n')) (cI a a') (cI n n') (cI b b') (compareBytes s.data.toList s'.data.toList)
theorem cI_flip (x y : Int) : cI y x = - cI x y := by
  rcases cI_cases x y with ⟨h, h1⟩ | ⟨h, h1⟩ | ⟨h, h1⟩ <;> rcases cI_cases y x with ⟨g, g1⟩ | ⟨g, g1⟩ | ⟨g, g1⟩ <;> omega
theorem or5_flip (a b c d e : Int) : or5 (-a) (-b) (-c) (-d) (-e) = - or5 a b c d e := by
  unfold or5
  simp only [Int.neg_ne_zero]
  repeat' split
  all_goals rfl
theorem ord_flip (n n' : Nat) (a b a' b' : Int) (s s' : ByteArray) : ord n' n a' b' a b s' s = - ord n n' a b a' b' s s' := by
  unfold ord
  rw [cb_nats, cb_nats, cI_flip (rkP n), cI_flip a, cI_flip n, cI_flip b, lx_flip (nats s), or5_flip]
theorem ord_lt {n n' : Nat} {a b a' b' : Int} {s s' : ByteArray} (hn : n < 7) (hn' : n' < 7) (ok : okV n a b s = true) (ok' : okV n' a' b' s' = true) (ha : R64 a) (hb : R64 b) (ha' : R64 a') (hb' : R64 b') (h : ord n n' a b a' b' s s' = -1) : Ls (encV n a b s) (encV n' a' b' s') := by
  unfold ord at h
  rw [cb_nats] at h
  unfold or5 at h
  rcases cI_cases (rkP n) (rkP n') with ⟨e, l⟩ | ⟨e, l⟩ | ⟨e, l⟩
  · exact ls_rank n n' hn hn' l ha ha' b b' s s'
  · rw [e] at h; simp at h
  rw [e, if_neg (by simp)] at h
  have c : n = 0 ∨ n = 1 ∨ n = 2 ∨ n = 3 ∨ n = 4 ∨ n = 5 ∨ n = 6 := by omega
  have c' : n' = 0 ∨ n' = 1 ∨ n' = 2 ∨ n' = 3 ∨ n' = 4 ∨ n' = 5 ∨ n' = 6 := by omega
  rcases cI_cases a a' with ⟨e1, l1⟩ | ⟨e1, l1⟩ | ⟨e1, rfl⟩
  · rcases c with rfl | rfl | rfl | rfl | rfl | rfl | rfl <;> rcases c' with rfl | rfl | rfl | rfl | rfl | rfl | rfl <;> first
      | (exfalso; revert l; decide)
      | exact ls_num (.inl rfl) (.inl rfl) ha ha' l1 b b' s s'
      | exact ls_num (.inl rfl) (.inr rfl) ha ha' l1 b b' s s'
      | exact ls_num (.inr rfl) (.inl rfl) ha ha' l1 b b' s s'
      | exact ls_num (.inr rfl) (.inr rfl) ha ha' l1 b b' s s'
      | exact ls_node ha ha' l1 b b' s s'
      | exact ls_edge ha ha' l1 b b' s s'
      | (simp [okV] at ok ok'; omega)
      | (have q : a = 0 ∧ a' = 1 := by
           simp [okV] at ok ok'; omega
         obtain ⟨rfl, rfl⟩ := q
         exact ls_truth b b' s s')
  · rw [e1] at h; simp at h
  rw [e1, if_neg (by simp)] at h
  rcases cI_cases (n : Int) n' with ⟨e2, l2⟩ | ⟨e2, l2⟩ | ⟨e2, l2⟩
  · rcases c with rfl | rfl | rfl | rfl | rfl | rfl | rfl <;> rcases c' with rfl | rfl | rfl | rfl | rfl | rfl | rfl <;> first
      | (exfalso; revert l; decide)
      | (exfalso; revert l2; decide)
      | exact ls_whole a b b' s s'
  · rw [e2] at h; simp at h
  rw [e2, if_neg (by simp)] at h
  obtain rfl : n = n' := by omega
  rcases cI_cases b b' with ⟨e3, l3⟩ | ⟨e3, l3⟩ | ⟨e3, rfl⟩
  · rcases c with rfl | rfl | rfl | rfl | rfl | rfl | rfl <;> first
      | exact ls_cpx a hb hb' l3 s s'
      | (simp [okV] at ok ok'; omega)
  · rw [e3] at h; simp at h
  rw [e3, if_neg (by simp)] at h
  have hz : ∀ u : ByteArray, u.toList.isEmpty = true → nats u = [] := fun u hu => by
    rw [nats_eq]
    rw [ByteArray.toList_eq] at hu
    simp at hu
    simp [hu]
  rcases c with rfl | rfl | rfl | rfl | rfl | rfl | rfl <;> first
    | exact ls_str a b a b h
    | (exfalso
       have q1 : s.toList.isEmpty = true := by simp only [okV] at ok; simp at ok; simp [ok]
       have q2 : s'.toList.isEmpty = true := by simp only [okV] at ok'; simp at ok'; simp [ok']
       rw [hz s q1, hz s' q2] at h
       simp [lx] at h)
theorem nats_inj {s s' : ByteArray} (h : nats s = nats s') : s = s' := by
  rw [nats_eq, nats_eq] at h
  have e := (List.map_inj_right (fun (x y : UInt8) => UInt8.toNat_inj.1)).1 h
  obtain ⟨d⟩ := s
  obtain ⟨d'⟩ := s'
  congr 1
  exact Array.toList_inj.1 e
/-- P110, P113: as Compare says, so the bytes stand; and only one value is 0 to itself. -/
theorem ord_cases {n n' : Nat} {a b a' b' : Int} {s s' : ByteArray} (hn : n < 7) (hn' : n' < 7) (ok : okV n a b s = true) (ok' : okV n' a' b' s' = true) (ha : R64 a) (hb : R64 b) (ha' : R64 a') (hb' : R64 b') :
    (ord n n' a b a' b' s s' = -1 ∧ Ls (encV n a b s) (encV n' a' b' s')) ∨ (ord n n' a b a' b' s s' = 1 ∧ Ls (encV n' a' b' s') (encV n a b s)) ∨ (ord n n' a b a' b' s s' = 0 ∧ n = n' ∧ a = a' ∧ b = b' ∧ s = s') := by
  have hc : ord n n' a b a' b' s s' = -1 ∨ ord n n' a b a' b' s s' = 1 ∨ (ord n n' a b a' b' s s' = 0 ∧ n = n' ∧ a = a' ∧ b = b' ∧ s = s') := by
    unfold ord
    rw [cb_nats]
    unfold or5
    rcases cI_cases (rkP n) (rkP n') with ⟨e, l⟩ | ⟨e, l⟩ | ⟨e, l⟩ <;> rw [e]
    · exact .inl (if_pos (by decide))
    · exact .inr (.inl (if_pos (by decide)))
    rw [if_neg (by decide)]
    rcases cI_cases a a' with ⟨e, l⟩ | ⟨e, l⟩ | ⟨e, rfl⟩ <;> rw [e]
    · exact .inl (if_pos (by decide))
    · exact .inr (.inl (if_pos (by decide)))
    rw [if_neg (by decide)]
    rcases cI_cases (n : Int) n' with ⟨e, l⟩ | ⟨e, l⟩ | ⟨e, l⟩ <;> rw [e]
    · exact .inl (if_pos (by decide))
    · exact .inr (.inl (if_pos (by decide)))
    rw [if_neg (by decide)]
    rcases cI_cases b b' with ⟨e, l⟩ | ⟨e, l⟩ | ⟨e, rfl⟩ <;> rw [e]
    · exact .inl (if_pos (by decide))
    · exact .inr (.inl (if_pos (by decide)))
    rw [if_neg (by decide)]
    rcases lx_cases (nats s) (nats s') with h | h | ⟨h, h2⟩
    · exact .inl h
    · exact .inr (.inl h)
    · exact .inr (.inr ⟨h, by omega, rfl, rfl, nats_inj h2⟩)
  rcases hc with h | h | h
  · exact .inl ⟨h, ord_lt hn hn' ok ok' ha hb ha' hb' h⟩
  · exact .inr (.inl ⟨h, ord_lt hn' hn ok' ok ha' hb' ha hb (by rw [ord_flip, h])⟩)
  · exact .inr (.inr h)
end Go.Proofs.YtdiikofgilplkaaDoor
