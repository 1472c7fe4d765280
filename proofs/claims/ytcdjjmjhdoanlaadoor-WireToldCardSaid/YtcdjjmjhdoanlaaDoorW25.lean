/- Wire: a request, read. -/
import Derived.Test.YtcdjjmjhdoanlaaDoorW24
import Derived.Test.YtcdjjmjhdoanlaaDoorW13
namespace Go.Proofs.YtcdjjmjhdoanlaaDoor
open Go.RowKit

theorem GetP.sc {α : Type} {N : Nat} {p : List Nat → Option (α × List Nat)} {R : World → Value → α → Prop} {J : World → Value → Prop} {b : Nat} {w w' : World} {s : Option (List Nat)} {e : Ending} (h : GetP N p R J b w s e w') :
    ∃ v', e = .returned v' ∧ Cb b w w' ∧ Sc N w' b ((s.bind p).map (·.2)) ∧ (∀ x l', s.bind p = some (x, l') → R w' v' x) ∧ (s.bind p = none → J w' v') := by
  obtain ⟨v', h1, h2, ⟨x, l', hp, hs, hr⟩ | ⟨hp, hs, hj⟩⟩ := h
  · exact ⟨v', h1, h2, by rw [hp]; exact hs, (fun y m e => by rw [hp] at e; cases e; exact hr), (fun e => by rw [hp] at e; cases e)⟩
  · exact ⟨v', h1, h2, by rw [hp]; exact hs, (fun y m e => by rw [hp] at e; cases e), fun _ => hj⟩
theorem Sc.far {N : Nat} {F : Nat → Prop} {w w' : World} {b : Nat} {s : Option (List Nat)} (h : Sc N w b s) (hF : ∀ k, F k → N ≤ k ∧ k ≠ b) (hc : Chg F w w') : Sc N w' b s := by
  obtain ⟨p, c, bad, l, h1, h2, h3, h4, h5, h6⟩ := h.form
  refine ⟨_, bad, l, h1.chg hc (fun q => (hF b q).2 rfl), ?_, h3, h4, h5, h6⟩
  obtain ⟨p0, c0, e, q1, q2, hr⟩ := h2
  cases e
  refine ⟨p, c, rfl, q1, q2, fun i x hx => ?_⟩
  obtain ⟨g, o, cs, e1, e2, e3⟩ := hr i x hx
  subst e1
  have hg := h6 g o _ _ rfl (fun e0 => by rw [e0] at hx; simp at hx)
  refine ⟨g, o, cs, rfl, e2, fun j u hj => ?_⟩
  have h7 := e3 j u hj
  have h8 := cell_lt h7
  unfold World.cell? at h7 ⊢
  rw [hc.block g h8 (fun q => by have := (hF g q).1; omega)]
  exact h7
theorem sc_len {N : Nat} {w : World} {b : Nat} {l : List Nat} (h : Sc N w b (some l)) : l.length ≤ 2097152 := by
  obtain ⟨_, _, _, l2, _, _, _, h4, h5, _⟩ := h.form
  rcases h5 with ⟨_, q⟩ | ⟨_, q⟩
  · cases q
  · cases q; exact h4
theorem prep_len {α : Type} (p : List Nat → Option (α × List Nat)) : ∀ (n : Nat) (r r' : List Nat) (xs : List α), prep p n r = some (xs, r') → xs.length = n
  | 0, r, r', xs, h => by simp [prep] at h; rw [h.1]; rfl
  | n + 1, r, r', xs, h => by
    rw [prep] at h
    cases e : p r with
    | none => rw [e] at h; cases h
    | some x =>
      rw [e] at h
      have h : ((prep p n x.2).map fun y => (x.1 :: y.1, y.2)) = some (xs, r') := h
      cases e2 : prep p n x.2 with
      | none => rw [e2] at h; cases h
      | some y =>
        rw [e2] at h
        cases h
        have := prep_len p n x.2 y.2 y.1 e2
        simp [this]
theorem pl_len {α : Type} (p : List Nat → Option (α × List Nat)) {l r : List Nat} {xs : List α} (h : pl p l = some (xs, r)) : xs.length ≤ l.length := by
  unfold pl at h
  cases e : pc l with
  | none => rw [e] at h; cases h
  | some x =>
    rw [e] at h
    have h : (if x.2.length < x.1 then none else prep p x.1 x.2) = some (xs, r) := h
    split at h
    · cases h
    · have h1 := prep_len p _ _ _ _ h
      obtain ⟨a, h2, _⟩ := pc_suf e
      rw [h2, List.length_append]; omega
theorem pt_len {l : List Nat} {y : ByteArray × List Nat} (h : pt l = some y) : y.1.size ≤ l.length := by
  unfold pt px at h
  cases e : pc l with
  | none => rw [e] at h; cases h
  | some x =>
    rw [e] at h
    have h : ((ptk x.1 x.2).map fun z => (strOf z.1, z.2)) = some y := h
    obtain ⟨a, h2, _⟩ := pc_suf e
    unfold ptk at h
    split at h
    · cases h
      show (strOf _).size ≤ _
      have : (strOf (x.2.take x.1)).size = (x.2.take x.1).length := by unfold strOf; simp [ByteArray.size]
      rw [this, h2, List.length_append, List.length_take]; omega
    · cases h
theorem pb_len {l : List Nat} {z : List Bool × List Nat} (h : pb l = some z) : z.1.length ≤ 4096 := by
  unfold pb at h
  cases e : pc l with
  | none => rw [e] at h; cases h
  | some x =>
    rw [e] at h
    have h : (if 4096 < x.1 then none else (ptk ((x.1 + 7) / 8) x.2).bind fun y => if okk y.1 x.1 (8 * y.1.length) then some (bitsL y.1 x.1, y.2) else none) = some z := h
    split at h
    · cases h
    · cases e2 : ptk ((x.1 + 7) / 8) x.2 with
      | none => rw [e2] at h; cases h
      | some y =>
        rw [e2] at h
        have h : (if okk y.1 x.1 (8 * y.1.length) then some (bitsL y.1 x.1, y.2) else none) = some z := h
        split at h
        · cases h; simp [bitsL]; omega
        · cases h
/-- A request's body, read. -/
def pq (k : Int) (l : List Nat) : Option (Rq × List Nat) := (pl pz l).bind fun x => (pt x.2).bind fun y => (pb y.2).bind fun z => some (⟨k, x.1, y.1, z.1⟩, z.2)
theorem pq_eq (k : Int) (s : Option (List Nat)) : s.bind (pq k) = (s.bind (pl pz)).bind fun x => ((some x.2).bind pt).bind fun y => ((some y.2).bind pb).bind fun z => some (⟨k, x.1, y.1, z.1⟩, z.2) := by
  cases s with
  | none => rfl
  | some l => rfl
def RqJ (v : Value) (k : Int) : Prop := ∃ a n c t a' n' c', v = .agg #[I k, .slice a n c, .string t, .slice a' n' c']
theorem Sw.cb {α : Type} {E : Enc α} {ty : TypeId} {w w' : World} {b : Nat} {v : Value} {l : List α} {xs : List Value} (h : Sw E ty w v l) (hb : Blk w b 43 xs) (ht : ty ≠ 43) (hc : Cb b w w') : Sw E ty w' v l := h.chg hc (fun k hk e => by subst e; exact h.ne hb ht hk)
end Go.Proofs.YtcdjjmjhdoanlaaDoor
