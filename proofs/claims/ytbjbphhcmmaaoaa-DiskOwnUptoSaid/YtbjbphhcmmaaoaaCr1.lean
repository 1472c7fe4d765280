/- What each sector holds: the thought. -/
import Derived.Test.YtbjbphhcmmaaoaaIm4
namespace Go.Proofs.Ytbjbphhcmmaaoaa
open Go.RowKit

theorem sector_lay {l : List Nat} {e : Nat × List Nat} {n at' : Nat} (hl : l.length = n * 128) (he : e.1 < n) (h2 : e.2.length = 128) (ha : at' < n) : sector (lay l e) at' = if e.1 = at' then e.2 else sector l at' := by
  have hm : (e.1 + 1) * 128 ≤ n * 128 := Nat.mul_le_mul_right _ he
  have hm2 : (at' + 1) * 128 ≤ n * 128 := Nat.mul_le_mul_right _ ha
  have ht : (l.take (e.1 * 128)).length = e.1 * 128 := by rw [List.length_take, hl]; omega
  refine List.ext_getElem? fun j => ?_
  unfold sector lay
  rw [List.getElem?_take]
  by_cases hj : j < 128
  · rw [if_pos hj, List.getElem?_drop]
    by_cases hc : e.1 = at'
    · subst hc
      rw [if_pos rfl, List.getElem?_append_left (by rw [List.length_append, ht, h2]; omega), List.getElem?_append_right (by rw [ht]; omega), ht]
      exact congrArg (fun i => e.2[i]?) (by omega)
    · rw [if_neg hc, List.getElem?_take, if_pos hj, List.getElem?_drop]
      by_cases hlt : at' < e.1
      · have : (at' + 1) * 128 ≤ e.1 * 128 := Nat.mul_le_mul_right _ hlt
        rw [List.getElem?_append_left (by rw [List.length_append, ht, h2]; omega), List.getElem?_append_left (by rw [ht]; omega), List.getElem?_take, if_pos (by omega)]
      · have : (e.1 + 1) * 128 ≤ at' * 128 := Nat.mul_le_mul_right _ (by omega)
        rw [List.getElem?_append_right (by rw [List.length_append, ht, h2]; omega), List.getElem?_drop, List.length_append, ht, h2]
        exact congrArg (fun i => l[i]?) (by omega)
  · rw [if_neg hj]
    by_cases hc : e.1 = at'
    · rw [if_pos hc, List.getElem?_eq_none (by omega)]
    · rw [if_neg hc, List.getElem?_take, if_neg hj]
/-- The last of the first k writes to a sector, of those that are kept. -/
def lastF (kp : Nat → Bool) (p : List (Nat × List Nat)) (at' : Nat) (old : List Nat) : Nat → List Nat
  | 0 => old
  | k + 1 => match p[k]? with | some e => if kp k = true ∧ e.1 = at' then e.2 else lastF kp p at' old k | none => lastF kp p at' old k
theorem lastF_step {kp : Nat → Bool} {p : List (Nat × List Nat)} {at' k : Nat} {old : List Nat} {e : Nat × List Nat} (h : p[k]? = some e) : lastF kp p at' old (k + 1) = if kp k = true ∧ e.1 = at' then e.2 else lastF kp p at' old k := by
  rw [lastF, h]
theorem lays_last {n : Nat} (p : List (Nat × List Nat)) {l : List Nat} (hl : l.length = n * 128) (hp : ∀ e ∈ p, e.1 < n ∧ e.2.length = 128 ∧ ∀ x ∈ e.2, x < 256) {at' : Nat} (ha : at' < n) : ∀ k, k ≤ p.length → ((p.take k).foldl lay l).length = n * 128 ∧ sector ((p.take k).foldl lay l) at' = lastF (fun _ => true) p at' (sector l at') k
  | 0, _ => ⟨by simpa using hl, by simp [lastF]⟩
  | k + 1, hk => by
    obtain ⟨i1, i2⟩ := lays_last p hl hp ha k (by omega)
    have he : p[k]? = some p[k] := List.getElem?_eq_getElem (by omega)
    obtain ⟨e1, e2, _⟩ := hp _ (List.mem_of_getElem? he)
    rw [take_foldl he, lastF_step he]
    refine ⟨lay_len i1 e1 e2, ?_⟩
    rw [sector_lay i1 e1 e2 ha, i2]
    simp
theorem crash_last {n : Nat} (ks : List Bool) (p : List (Nat × List Nat)) {l : List Nat} (hl : l.length = n * 128) (hlb : ∀ x ∈ l, x < 256) (hp : ∀ e ∈ p, e.1 < n ∧ e.2.length = 128 ∧ ∀ x ∈ e.2, x < 256) {at' : Nat} (ha : at' < n) : ∀ k, k ≤ p.length → sector (crashK ks p l k).1 at' = lastF (fun j => ks[j]? == some true) p at' (sector l at') k
  | 0, _ => rfl
  | k + 1, hk => by
    have i2 := crash_last ks p hl hlb hp ha k (by omega)
    obtain ⟨i1, _, _⟩ := crashK_ok (ks := ks) hl hlb hp k
    have he : p[k]? = some p[k] := List.getElem?_eq_getElem (by omega)
    obtain ⟨e1, e2, _⟩ := hp _ (List.mem_of_getElem? he)
    rw [crashK_step he, lastF_step he]
    by_cases hk' : ks[k]? = some true
    · rw [if_pos hk']
      show sector (lay (crashK ks p l k).1 p[k]) at' = _
      rw [sector_lay i1 e1 e2 ha, i2]
      simp [hk']
    · rw [if_neg hk', i2, if_neg (by simp [hk'])]
/-- A write that came in. -/
structure Pu where
  at' : Int
  fill : Nat
def Pu.L (p : Pu) : List Value := [I p.at', bv p.fill]
/-- Those that go to a sector that is there. -/
def vals (n : Nat) (E : Nat → Pu) : Nat → List (Nat × List Nat)
  | 0 => []
  | i + 1 => if 0 ≤ (E i).at' ∧ (E i).at' < n then vals n E i ++ [((E i).at'.toNat, flL (E i).fill)] else vals n E i
theorem vals_pre (n : Nat) (E : Nat → Pu) (i : Nat) : ∀ j, i ≤ j → vals n E i <+: vals n E j
  | 0, h => by rw [Nat.le_zero.1 h]; exact List.prefix_refl _
  | j + 1, h => by
    by_cases he : i = j + 1
    · rw [he]; exact List.prefix_refl _
    · refine (vals_pre n E i j (by omega)).trans ?_
      show vals n E j <+: (if _ then _ else _)
      split
      · exact List.prefix_append _ _
      · exact List.prefix_refl _
theorem vals_at {n : Nat} {E : Nat → Pu} {i L : Nat} (hi : i < L) (h : 0 ≤ (E i).at' ∧ (E i).at' < n) : (vals n E L)[(vals n E i).length]? = some ((E i).at'.toNat, flL (E i).fill) := by
  have hp := vals_pre n E (i + 1) L hi
  have e1 : vals n E (i + 1) = vals n E i ++ [((E i).at'.toNat, flL (E i).fill)] := by show (if _ then _ else _) = _; rw [if_pos h]
  rw [e1] at hp
  obtain ⟨t, ht⟩ := hp
  rw [← ht, List.append_assoc, List.getElem?_append_right (Nat.le_refl _), Nat.sub_self]
  rfl
theorem vals_yes {n : Nat} {E : Nat → Pu} {i : Nat} (h : 0 ≤ (E i).at' ∧ (E i).at' < n) : vals n E (i + 1) = vals n E i ++ [((E i).at'.toNat, flL (E i).fill)] := by show (if _ then _ else _) = _; rw [if_pos h]
theorem vals_no {n : Nat} {E : Nat → Pu} {i : Nat} (h : ¬ (0 ≤ (E i).at' ∧ (E i).at' < n)) : vals n E (i + 1) = vals n E i := by show (if _ then _ else _) = _; rw [if_neg h]
theorem vals_len (n : Nat) (E : Nat → Pu) : ∀ i, (vals n E i).length ≤ i
  | 0 => Nat.le_refl _
  | i + 1 => by
    have := vals_len n E i
    by_cases h : 0 ≤ (E i).at' ∧ (E i).at' < n
    · rw [vals_yes h]; simp; omega
    · rw [vals_no h]; omega
theorem vals_ok (n : Nat) (E : Nat → Pu) : ∀ i, ∀ e ∈ vals n E i, e.1 < n ∧ e.2.length = 128 ∧ ∀ x ∈ e.2, x < 256
  | 0 => by simp [vals]
  | i + 1 => by
    intro e he
    by_cases h : 0 ≤ (E i).at' ∧ (E i).at' < n
    · rw [vals_yes h] at he
      rcases List.mem_append.1 he with he | he
      · exact vals_ok n E i e he
      · simp at he
        subst he
        exact ⟨by simp only; omega, flL_len _, flL_lt _⟩
    · rw [vals_no h] at he
      exact vals_ok n E i e he
/-- A disk whose power is on, nothing cut. -/
def DM.on (m : DM) : Prop := m.off = false ∧ m.fuse = none
def putM (m : DM) (p : List (Nat × List Nat)) : DM := { m with writes := m.writes + p.length, pend := m.pend ++ p }
theorem write_on {m : DM} (h : m.on) {a : Int} (ha : 0 ≤ a ∧ a < m.n) {xs : List Nat} (hx : xs.length = 128) : m.write a xs = (putM m [(a.toNat, xs)], 0) := by
  obtain ⟨n, laid, pend, off, fuse, wr, fl⟩ := m
  obtain ⟨h1, h2⟩ := h
  simp only at h1 h2 ha
  subst h1 h2
  unfold DM.write
  rw [if_neg (by simp; omega), if_neg (by simp [hx])]
  rfl
theorem write_off {m : DM} {a : Int} (ha : ¬ (0 ≤ a ∧ a < m.n)) (xs : List Nat) : m.write a xs = (m, 20) := by
  unfold DM.write
  rw [if_pos ha]
theorem putM_put (m : DM) (p q : List (Nat × List Nat)) : putM (putM m p) q = putM m (p ++ q) := by
  simp [putM, Nat.add_assoc]
theorem putM_nil (m : DM) : putM m [] = m := by simp [putM]
theorem putM_on {m : DM} (h : m.on) (p : List (Nat × List Nat)) : (putM m p).on := h
theorem flush_on {m : DM} (h : m.on) : m.flush = ({ m with flushes := m.flushes + 1, laid := m.pend.foldl lay m.laid, pend := [] }, 0) := by
  obtain ⟨n, laid, pend, off, fuse, wr, fl⟩ := m
  obtain ⟨h1, h2⟩ := h
  simp only at h1 h2
  subst h1 h2
  rfl
theorem cut_on {m : DM} (h : m.on) : m.cut 0 = ({ m with fuse := some 0 }, 0) := by
  unfold DM.cut
  rw [if_neg (by decide), h.1]
  rfl
theorem flush_dark {m : DM} (h : m.off = false) : ({ m with fuse := some 0 } : DM).flush = ({ m with off := true, fuse := none }, 2) := by
  obtain ⟨n, laid, pend, off, fuse, wr, fl⟩ := m
  simp only at h
  subst h
  rfl
/-- Behind a round. -/
def rndM (m : DM) (p1 p2 : List (Nat × List Nat)) (ks : List Bool) : DM :=
  { m with writes := m.writes + p1.length + p2.length, flushes := m.flushes + 1, laid := (crashK ks p2 (p1.foldl lay m.laid) p2.length).1, pend := [], off := false, fuse := none }
theorem rnd_sector {m : DM} (hm : m.ok) {p1 p2 : List (Nat × List Nat)} (h1 : ∀ e ∈ p1, e.1 < m.n ∧ e.2.length = 128 ∧ ∀ x ∈ e.2, x < 256) (h2 : ∀ e ∈ p2, e.1 < m.n ∧ e.2.length = 128 ∧ ∀ x ∈ e.2, x < 256) (ks : List Bool) {at' : Nat} (ha : at' < m.n) :
    sector (rndM m p1 p2 ks).laid at' = lastF (fun j => ks[j]? == some true) p2 at' (lastF (fun _ => true) p1 at' (sector m.laid at') p1.length) p2.length := by
  obtain ⟨i1, i2⟩ := lays_ok p1 hm.ll hm.lb h1
  show sector (crashK ks p2 (p1.foldl lay m.laid) p2.length).1 at' = _
  rw [crash_last ks p2 i1 i2 h2 ha _ (Nat.le_refl _)]
  have := (lays_last p1 hm.ll h1 ha p1.length (Nat.le_refl _)).2
  rw [List.take_length] at this
  rw [this]
theorem crash_still {m : DM} (h : m.on) (hp : m.pend = []) (ks : List Bool) : m.crash ks = (m, 0) := by
  obtain ⟨n, laid, pend, off, fuse, wr, fl⟩ := m
  obtain ⟨h1, h2⟩ := h
  simp only at h1 h2 hp
  subst h1 h2 hp
  rfl
end Go.Proofs.Ytbjbphhcmmaaoaa
