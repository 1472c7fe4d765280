/- Wire: GetRequest. -/
import Derived.Test.YtcdjjmjhdoanlaaDoorW25
namespace Go.Proofs.YtcdjjmjhdoanlaaDoor
open Go.RowKit

def zRq : Rq := ⟨0, [], { data := #[] }, []⟩
theorem zRq_v (w : World) : RqV w (.agg #[I 0, .slice none 0 0, .string { data := #[] }, .slice none 0 0]) zRq := ⟨⟨_, _, rfl, Row.nil _ _, Row.nil _ _⟩, fun x hx => by simp [zRq] at hx, by simp [zRq], by simp [zRq, ByteArray.size], by simp [zRq]⟩
/-- What GetRequest answers. -/
def gqB (k : Int) (l : List Nat) : Option Rq := match pq k l with | some (q, []) => if q.may then some q else none | _ => none
def gqC (c k : Int) (l : List Nat) : Int := if c ≠ 0 then c else if ¬ (1 ≤ k ∧ k ≤ 12) then 162 else if 2097152 < l.length then 163 else if (gqB k l).isSome then 0 else 163
def gqQ (c k : Int) (l : List Nat) : Rq := if gqC c k l = 0 then (gqB k l).getD zRq else zRq
def GqP (c k : Int) (l : List Nat) (w : World) (e : Ending) (w' : World) : Prop := ∃ v', e = .returned (.tuple #[v', I (gqC c k l)]) ∧ (∀ (F : Nat → Prop) w9, (∀ j, F j → j < w.heap.size) → Chg F w' w9 → RqV w9 v' (gqQ c k l)) ∧ G w w'
theorem GqP.bad (c k : Int) (l : List Nat) (w w' : World) (x : Int) (h : gqC c k l = x) (hx : x ≠ 0) (g : G w w') : GqP c k l w (.returned (.tuple #[.agg #[I 0, .slice none 0 0, .string { data := #[] }, .slice none 0 0], I x])) w' :=
  ⟨_, by rw [h], fun F w9 _ _ => by rw [gqQ, h, if_neg hx]; exact zRq_v w9, g⟩
abbrev WS (x : World) (rb : Nat) (a b c d : Value) : World := (((x.setCell ⟨rb, 0, none⟩ a).setCell ⟨rb, 1, none⟩ b).setCell ⟨rb, 2, none⟩ c).setCell ⟨rb, 3, none⟩ d
theorem pq_k {k : Int} {l r : List Nat} {q : Rq} (h : pq k l = some (q, r)) : q.k = k := by
  unfold pq at h
  cases e1 : pl pz l with
  | none => rw [e1] at h; cases h
  | some x =>
    rw [e1] at h
    have h : ((pt x.2).bind fun y => (pb y.2).bind fun z => some ((⟨k, x.1, y.1, z.1⟩ : Rq), z.2)) = some (q, r) := h
    cases e2 : pt x.2 with
    | none => rw [e2] at h; cases h
    | some y =>
      rw [e2] at h
      have h : ((pb y.2).bind fun z => some ((⟨k, x.1, y.1, z.1⟩ : Rq), z.2)) = some (q, r) := h
      cases e3 : pb y.2 with
      | none => rw [e3] at h; cases h
      | some z => rw [e3] at h; cases h; rfl
set_option maxRecDepth 100000 in
set_option maxHeartbeats 1000000 in
theorem used_any (N : Nat) (w : World) (b : Nat) (s : Option (List Nat)) (h : Sc N w b s) : Calls Tryd.prog 11 #[ptr b] w fun e w' => e = .returned (.bool (decide (s = some []))) ∧ w' = w := by
  obtain ⟨p, c, bad, l, h1, _, _, _, h5, _⟩ := h.form
  have hc := h1.cell
  rcases h5 with ⟨rfl, rfl⟩ | ⟨rfl, rfl⟩
  · clear h h1
    go_enter Tryd.func11, Tryd.ntmps11
    go_wp2_with fail
    go_ret
    exact ⟨rfl, rfl⟩
  · cases l with
    | nil =>
      clear h h1
      go_enter Tryd.func11, Tryd.ntmps11
      go_wp2_with fail
      go_ret
      exact ⟨rfl, rfl⟩
    | cons x l =>
      have e0 : decide (some (x :: l) = some []) = false := decide_eq_false (by simp)
      rw [e0]
      have i1 : (((x :: l).length : Int) == 0) = false := beq_eq_false_iff_ne.2 (by simp; omega)
      generalize (x :: l).length = m at hc i1
      clear h h1 e0
      go_enter Tryd.func11, Tryd.ntmps11
      go_wp2_with fail
      go_ret
      exact ⟨rfl, rfl⟩
end Go.Proofs.YtcdjjmjhdoanlaaDoor
