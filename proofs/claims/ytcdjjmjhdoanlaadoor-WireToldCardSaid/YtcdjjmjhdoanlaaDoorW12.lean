/- Wire: may a request be sent? -/
import Derived.Test.YtcdjjmjhdoanlaaDoorW10
namespace Go.Proofs.YtcdjjmjhdoanlaaDoor
section
open Go.RowKit

/-- A request, as a thing of thought. -/
structure Rq where
  k : Int
  ns : List Int
  t : ByteArray
  bs : List Bool
/-- A request in memory: v is its value. -/
structure RqV (W : World) (v : Value) (q : Rq) : Prop where
  h : ∃ vn vb, v = .agg #[I q.k, vn, .string q.t, vb] ∧ Row eI.rel W vn q.ns ∧ Row eZ.rel W vb q.bs
  r : ∀ x ∈ q.ns, R64 x
  ln : q.ns.length ≤ 17592186044416
  lt : q.t.size ≤ 140737488351232
  lb : q.bs.length ≤ 140737488351232
theorem RqV.G {W W' : World} {v : Value} {q : Rq} (h : RqV W v q) (g : G W W') : RqV W' v q := by
  obtain ⟨⟨vn, vb, e, h1, h2⟩, r, a, b, c⟩ := h
  exact ⟨⟨vn, vb, e, h1.G g, h2.G g⟩, r, a, b, c⟩
/-- A request's body. -/
def Rq.body (q : Rq) : List Nat := (cnt q.ns.length ++ q.ns.flatMap (fun n => cnt (zig n))) ++ ((cnt q.t.size ++ bys q.t) ++ (cnt q.bs.length ++ pk q.bs))
theorem catL_num : ∀ l : List Int, catL numF l = some (l.flatMap fun n => cnt (zig n))
  | [] => rfl
  | n :: l => by rw [catL, catL_num l, List.flatMap_cons]; rfl
theorem Rq.body_eq (q : Rq) : cat (cat (some (cnt q.ns.length)) (catL numF q.ns)) (cat (some (cnt q.t.size ++ bys q.t)) (some (cnt q.bs.length ++ pk q.bs))) = some q.body := by rw [catL_num]; rfl
def WfP (W0 : World) (k : Int) (s : Option (List Nat)) (e : Ending) (w' : World) : Prop := ∃ v' c, e = .returned (.tuple #[v', I c]) ∧ G W0 w' ∧ Fresh W0 v' ∧ match s with | none => c = 163 ∧ v' = .slice none 0 0 | some l => c = frC k l.length ∧ SwB w' v' (frL k l)
theorem cnt_zig_by (n : Int) : By (cnt (zig n)) := cnt_by _
theorem Rq.body_by (q : Rq) : By q.body := by
  refine ((cnt_by _).app (fun x hx => ?_)).app (((cnt_by _).app (bys_by _)).app ((cnt_by _).app (pk_by _)))
  obtain ⟨n, _, hn⟩ := List.mem_flatMap.1 hx
  exact cnt_by _ x hn
set_option maxRecDepth 100000 in
set_option maxHeartbeats 1000000 in
theorem asks_any (k : Int) (w : World) : Calls Tryd.prog 25 #[I k] w fun e w' => e = .returned (.bool (decide (1 ≤ k ∧ k ≤ 12))) ∧ w' = w := by
  by_cases c1 : 1 ≤ k
  · by_cases c2 : k ≤ 12
    · have e : decide (1 ≤ k ∧ k ≤ 12) = true := decide_eq_true ⟨c1, c2⟩
      rw [e]
      have d1 := decide_eq_true c1
      have d2 := decide_eq_true c2
      clear e
      go_enter Tryd.func25, Tryd.ntmps25
      go_wp2_with fail
      go_ret
      exact ⟨rfl, rfl⟩
    · have e : decide (1 ≤ k ∧ k ≤ 12) = false := decide_eq_false (fun h => c2 h.2)
      rw [e]
      have d1 := decide_eq_true c1
      have d2 := decide_eq_false c2
      clear e
      go_enter Tryd.func25, Tryd.ntmps25
      go_wp2_with fail
      go_ret
      exact ⟨rfl, rfl⟩
  · have e : decide (1 ≤ k ∧ k ≤ 12) = false := decide_eq_false (fun h => c1 h.1)
    rw [e]
    have d1 := decide_eq_false c1
    clear e
    go_enter Tryd.func25, Tryd.ntmps25
    go_wp2_with fail
    go_ret
    exact ⟨rfl, rfl⟩
end
open Go.RowKit

/-- How many numbers each kind takes. -/
def tkL : List Int := [0, 6, 0, 1, 1, 1, 1, 0, 2, 0, 0, 0, 1]
def tkN (k : Int) : Int := tkL.getD k.toNat 0
def Rq.may (q : Rq) : Bool := decide ((q.ns.length : Int) = tkN q.k) && (decide (q.t.size = 0) || decide (q.k = 3)) && (decide (q.bs.length = 0) || decide (q.k = 7)) && decide (q.bs.length ≤ 4096)
theorem toList_inj {a b : ByteArray} (h : a.toList = b.toList) : a = b := by
  have := beq_toListBytes a b
  rw [h, beq_self_eq_true] at this
  cases a with | mk a => cases b with | mk b =>
    have h2 : (a == b) = true := this
    rw [eq_of_beq h2]
theorem toList_nil {b : ByteArray} : b.toList = [] ↔ b = ByteArray.empty := ⟨fun h => toList_inj (h.trans (by first | (simp; done) | kernel_rfl)), fun h => by rw [h]; first | (simp; done) | kernel_rfl⟩
theorem str_ne (t : ByteArray) (h : ¬ t.size = 0) : t.toList.isEmpty = false := by
  cases e : t.toList with
  | nil => exact absurd (by rw [toList_nil.1 e]; rfl) h
  | cons a l => rfl
theorem str_e (t : ByteArray) (h : t.size = 0) : t = { data := #[] } := by
  obtain ⟨d⟩ := t
  have : d = #[] := Array.eq_empty_of_size_eq_zero h
  subst this; rfl
theorem str_em (t : ByteArray) (h : t.size = 0) : t.toList.isEmpty = true := by
  have e := str_e t h
  subst e
  first | (simp; done) | kernel_rfl
end Go.Proofs.YtcdjjmjhdoanlaaDoor
