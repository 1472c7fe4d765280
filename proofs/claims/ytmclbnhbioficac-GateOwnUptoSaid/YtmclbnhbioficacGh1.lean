/- Gate: each call, whatever its arguments. -/
import Derived.Test.YtmclbnhbioficacGg7
namespace Go.Proofs.Ytmclbnhbioficac
open Go.RowKit

/-- What Submit answers, and leaves. -/
def GM.subA (m : GM) (id : Int) : Int × Int := if id < 1 ∨ id > 1073741824 then (0, 1) else if id ∈ m.ids ∨ id ∈ m.qids then (0, 151) else if 64 ≤ m.q.length + m.ins.length then (0, 153) else (m.sp + 1, 0)
def GM.subM (m : GM) (id : Int) : GM := if id < 1 ∨ id > 1073741824 then m else if id ∈ m.ids ∨ id ∈ m.qids then m else if 64 ≤ m.q.length + m.ins.length then m else m.sub id
theorem submit_any (b : Nat) (m : GM) (K : Nat → Prop) (W : World) (id : Int) (h : PG W b 0 m K) (hv : Iv m) (hs : m.sp < 4611686018427387904) :
    Calls Try.prog 19 #[ptr b, I id] W fun e W' => e = .returned (.tuple #[I (m.subA id).1, I (m.subA id).2]) ∧ ∃ K', PG W' b 0 (m.subM id) K' ∧ Ste K W K' W' := by
  unfold GM.subA GM.subM
  by_cases h1 : id < 1 ∨ id > 1073741824
  · rw [if_pos h1, if_pos h1]
    refine (sub_arg b W id h1).mono fun e W' ⟨he, hw⟩ => ?_
    subst hw
    exact ⟨he, K, h, Ste.refl _ _⟩
  · rw [if_neg h1, if_neg h1]
    by_cases h2 : id ∈ m.ids ∨ id ∈ m.qids
    · rw [if_pos h2, if_pos h2]
      exact sub_known b m K W h hv id (by omega) h2
    · rw [if_neg h2, if_neg h2]
      by_cases h3 : 64 ≤ m.q.length + m.ins.length
      · rw [if_pos h3, if_pos h3]
        exact sub_crowd b m K W h hv id (by omega) ⟨fun q => h2 (.inl q), fun q => h2 (.inr q)⟩ h3
      · rw [if_neg h3, if_neg h3]
        exact sub_ok b m K W h hv id (by omega) ⟨fun q => h2 (.inl q), fun q => h2 (.inr q)⟩ (by omega) hs
theorem iv_subM {m : GM} (h : Iv m) (id : Int) : Iv (m.subM id) := by
  unfold GM.subM
  split
  · exact h
  · split
    · exact h
    · split
      · exact h
      · rename_i h1 h2 h3
        exact iv_sub h (by omega) (by omega) (fun q => h2 (.inl q)) (fun q => h2 (.inr q)) (by omega)
def GM.endA (m : GM) (id : Int) : Int := if id ∈ m.ids then 0 else 152
def GM.endM (m : GM) (id : Int) (y : Bool) : GM := if id ∈ m.ids then m.gone (m.ids.idxOf id) (if y = true then m.lg + 1 else m.lg) else m
theorem idx_get {l : List Int} {id : Int} (h : id ∈ l) : l[l.idxOf id]? = some id := by
  have h1 := List.idxOf_lt_length_iff.2 h
  rw [List.getElem?_eq_getElem h1, List.getElem_idxOf]
theorem idx_ins {m : GM} {id : Int} (h : id ∈ m.ids) : m.ids.idxOf id < m.ins.length := by
  have := List.idxOf_lt_length_iff.2 h
  simpa using this
theorem end_any (b : Nat) (m : GM) (K : Nat → Prop) (W : World) (id : Int) (y : Bool) (h : PG W b 0 m K) (hv : Iv m) :
    Calls Try.prog 21 #[ptr b, I id, .bool y] W fun e W' => e = .returned (I (m.endA id)) ∧ ∃ K', PG W' b 0 (m.endM id y) K' ∧ Ste K W K' W' := by
  unfold GM.endA GM.endM
  by_cases h1 : id ∈ m.ids
  · rw [if_pos h1, if_pos h1]
    exact end_yes b m K W h hv id y _ (idx_get h1)
  · rw [if_neg h1, if_neg h1]
    exact end_no b m K W h hv id y h1
theorem iv_endM {m : GM} (h : Iv m) (id : Int) (y : Bool) : Iv (m.endM id y) := by
  unfold GM.endM
  split
  · rename_i h1
    exact iv_gone h (idx_ins h1) (by cases y <;> simp)
  · exact h
def GM.pickA (m : GM) (id : Int) : Int := if id = 0 ∨ id ∈ m.ids then 0 else 152
def GM.pickM (m : GM) (id : Int) : GM := if id = 0 then m.pick0 else if id ∈ m.ids then m.pick (m.ids.idxOf id) else m
theorem picked_call (b : Nat) (m : GM) (K : Nat → Prop) (W : World) (id : Int) (h : PG W b 0 m K) (hv : Iv m) (hck : m.ck < 4611686018427387904) :
    Calls Try.prog 27 #[ptr b, I id] W fun e W' => e = .returned (I (m.pickA id)) ∧ ∃ K', PG W' b 0 (m.pickM id) K' ∧ Ste K W K' W' := by
  unfold GM.pickA GM.pickM
  by_cases h0 : id = 0
  · subst h0
    rw [if_pos (.inl rfl), if_pos rfl]
    exact picked_0 b m K W h hv hck
  · rw [if_neg h0]
    by_cases h1 : id ∈ m.ids
    · rw [if_pos (.inr h1), if_pos h1]
      exact picked_yes b m K W h hv hck id _ (idx_get h1)
    · rw [if_neg (by simp [h0, h1]), if_neg h1]
      exact picked_no b m K W h hv id h0 h1
theorem iv_pickM {m : GM} (h : Iv m) (id : Int) : Iv (m.pickM id) := by
  unfold GM.pickM
  split
  · exact iv_pick0 h
  · split
    · rename_i h1
      exact iv_pick h (idx_ins h1)
    · exact h
/-- What a step leaves of the gate. -/
def GM.stepM (m : GM) (k id : Int) (y : Bool) : GM := if k = 1 then m.subM id else if k = 2 then m.admit.2 else if k = 3 then m.endM id y else if k = 4 then { m with lg := 0 } else if k = 6 then m.pickM id else m
theorem iv_step {m : GM} (h : Iv m) (k id : Int) (y : Bool) : Iv (m.stepM k id y) := by
  unfold GM.stepM
  split
  · exact iv_subM h id
  · split
    · exact iv_admit h
    · split
      · exact iv_endM h id y
      · split
        · exact iv_swept h
        · split
          · exact iv_pickM h id
          · exact h
theorem adm_keeps : ∀ (n : Nat) (m : GM), (m.adm n).2.sp = m.sp ∧ (m.adm n).2.ck = m.ck ∧ (m.adm n).2.mo = m.mo ∧ (m.adm n).2.un = m.un ∧ (m.adm n).2.lg = m.lg
  | 0, _ => ⟨rfl, rfl, rfl, rfl, rfl⟩
  | n + 1, m => by
    unfold GM.adm
    cases hq : m.q with
    | nil => exact ⟨rfl, rfl, rfl, rfl, rfl⟩
    | cons x t =>
      by_cases hr : m.room = true
      · simp only [hr, if_true]
        exact adm_keeps n (m.ent x t)
      · simp only [hr]
        exact ⟨rfl, rfl, rfl, rfl, rfl⟩
/-- Stamps and clock go up by one at most. -/
theorem step_le (m : GM) (k id : Int) (y : Bool) : (m.stepM k id y).sp ≤ m.sp + 1 ∧ (m.stepM k id y).ck ≤ m.ck + 1 := by
  unfold GM.stepM
  split
  · unfold GM.subM
    split
    · omega
    · split
      · omega
      · split
        · omega
        · simp [GM.sub]; omega
  · split
    · have := adm_keeps m.q.length m
      unfold GM.admit
      omega
    · split
      · unfold GM.endM
        split
        · simp only [GM.gone]; omega
        · omega
      · split
        · simp only; omega
        · split
          · unfold GM.pickM
            split
            · simp only [GM.pick0]; omega
            · split
              · simp only [GM.pick]; omega
              · omega
          · omega
end Go.Proofs.Ytmclbnhbioficac
