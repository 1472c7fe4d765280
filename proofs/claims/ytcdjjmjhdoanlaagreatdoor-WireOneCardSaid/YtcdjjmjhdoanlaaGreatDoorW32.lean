/- Wire: the document's lists' counts, numbers, texts, read. -/
import Derived.Test.YtcdjjmjhdoanlaaGreatDoorW26
namespace Go.Proofs.YtcdjjmjhdoanlaaGreatDoor
section
section
open Go.RowKit
/-- What is left behind the first n, as the slice that the program makes. -/
theorem row_cut {N : Nat} {w : World} {p : Option Addr} {c n : Nat} {l : List Nat} (h2 : Rb w (.slice p l.length c) l) (h6 : Low N (.slice p l.length c) l) (hl : n ≤ l.length) :
    (c = n → Rb w (.slice p (l.length - n) (c - n)) (l.drop n) ∧ Low N (.slice p (l.length - n) (c - n)) (l.drop n)) ∧ (c ≠ n → Rb w (.slice (p.map fun x => x.add n) (l.length - n) (c - n)) (l.drop n) ∧ Low N (.slice (p.map fun x => x.add n) (l.length - n) (c - n)) (l.drop n)) := by
  have hcap := h2.cap.1
  have hl2 : (l.drop n).length = l.length - n := List.length_drop
  constructor
  · intro hnc
    have hl0 : l.drop n = [] := List.drop_of_length_le (by omega)
    exact ⟨⟨p, c - n, by rw [hl2], by rw [hl2]; omega, fun _ => by omega, fun i x hx => by rw [hl0] at hx; simp at hx⟩, fun g o n2 c2 _ q => absurd hl0 q⟩
  · intro hnc
    constructor
    · refine ⟨p.map fun x => x.add n, c - n, by rw [hl2], by rw [hl2]; omega, fun q => ?_, fun i x hx => ?_⟩
      · cases p with
        | some a => cases q
        | none =>
          obtain ⟨p0, c0, ee, _, q0, _⟩ := h2
          cases ee
          have := q0 rfl
          omega
      · rw [List.getElem?_drop] at hx
        obtain ⟨p0, c0, ee, _, q0, hr⟩ := h2
        cases ee
        obtain ⟨g, o, cs, q1, q2, q3⟩ := hr (n + i) x hx
        subst q1
        refine ⟨g, o + n, cs, by simp [Addr.add_mid], q2, ?_⟩
        have e1 : o + (n + i) * eB.rel.s = o + n + i * eB.rel.s := by show o + (n + i) * 1 = o + n + i * 1; omega
        rw [e1] at q3
        exact q3
    · intro g o n2 c2 e q
      cases p with
      | none => cases e
      | some a =>
        have hlne : l ≠ [] := fun e0 => q (by rw [e0]; simp)
        obtain ⟨g0, o0, c0, e0⟩ := h2.addr (List.length_pos_iff.2 hlne)
        cases e0
        have hg := h6 g0 o0 _ _ rfl hlne
        simp [Addr.add_mid] at e
        obtain ⟨⟨e1, _⟩, _⟩ := e
        omega
end
open Go.RowKit

theorem pcG_big (n : Nat) (h : 144115188075855872 ≤ n) (l : List Nat) : pcG false n l = none := by
  cases l with
  | nil => rfl
  | cons x r => rw [pcG_cons, decide_eq_true h, Bool.or_true]; rfl
theorem p8_cons {s : Option (List Nat)} {x : Nat} {l' : List Nat} (hp : s.bind p8 = some (x, l')) : s = some (x :: l') := by
  cases s with
  | none => cases hp
  | some l =>
    cases l with
    | nil => cases hp
    | cons z r => have hp : some (z, r) = some (x, l') := hp; injection hp with hp; injection hp with a1 a2; rw [a1, a2]
/-- How great the number is, at least, behind i groups. -/
def lo (i : Nat) : Nat := if i = 0 then 0 else 128 ^ (i - 1)
theorem lo_step {i n x : Nat} (h : lo i ≤ n) (h0 : i = 0 → x ≠ 128) (hx : ¬ x < 128) (hx2 : x < 256) : lo (i + 1) ≤ n * 128 + x % 128 := by
  unfold lo at *
  rw [if_neg (by omega), Nat.add_sub_cancel]
  cases i with
  | zero => have := h0 rfl; show 1 ≤ _; omega
  | succ i =>
    rw [if_neg (by omega), Nat.add_sub_cancel] at h
    rw [Nat.pow_succ]
    generalize 128 ^ i = y at h ⊢
    omega
end
open Go.RowKit

/-- A list's count, read. -/
def pn (l : List Nat) : Option (Nat × List Nat) := (pc l).bind fun x => if x.2.length < x.1 then none else some x
theorem pn_le {l r : List Nat} {n : Nat} (h : pn l = some (n, r)) : n ≤ r.length := by
  unfold pn at h
  cases e : pc l with
  | none => rw [e] at h; cases h
  | some x =>
    rw [e] at h
    have h : (if x.2.length < x.1 then none else some x) = some (n, r) := h
    split at h
    · cases h
    · rename_i hlt; cases h; exact Nat.not_lt.1 hlt
theorem pl_pn {α : Type} (p : List Nat → Option (α × List Nat)) (s : Option (List Nat)) : s.bind (pl p) = (s.bind pn).bind fun x => prep p x.1 x.2 := by
  cases s with
  | none => rfl
  | some l =>
    show pl p l = (pn l).bind _
    unfold pl pn
    cases pc l with
    | none => rfl
    | some x =>
      show (if x.2.length < x.1 then none else prep p x.1 x.2) = (if x.2.length < x.1 then none else some x).bind _
      split <;> rfl
theorem pt_pn (s : Option (List Nat)) : s.bind pt = (s.bind pn).bind fun x => some (strOf (x.2.take x.1), x.2.drop x.1) := by
  cases s with
  | none => rfl
  | some l =>
    show pt l = (pn l).bind _
    unfold pt px pn
    cases pc l with
    | none => rfl
    | some x =>
      show ((if x.1 ≤ x.2.length then some (x.2.take x.1, x.2.drop x.1) else none).map fun z => (strOf z.1, z.2)) = (if x.2.length < x.1 then none else some x).bind _
      by_cases c : x.1 ≤ x.2.length
      · rw [if_pos c, if_neg (by omega)]; rfl
      · rw [if_neg c, if_pos (by omega)]; rfl
end Go.Proofs.YtcdjjmjhdoanlaaGreatDoor
