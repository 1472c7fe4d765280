/- Locks: a queue in which a transaction has no request. -/
import Derived.Test.YtfeiocahlhklaaaDoorLk15
import Derived.Test.YtfeiocahlhklaaaDoorShIx
import Derived.LoopN
namespace Go.Proofs.YtfeiocahlhklaaaDoor
open Go.RowKit Go.Shelf

def encH (q : Int × Int) : List Value := [I q.1, I q.2]
theorem pred_txn (x : Int) (B : Nat) (w : World) (hB : Blk w B 3 [I x]) : PredBelow Tryd.prog 31 #[ptr B] (fun q => .agg (encH q).toArray) (fun q => decide (q.1 = x)) w := fun W q hb => by
  have hc := (hB.G hb).cell
  have hc' : W.cell? ⟨B, 0, none⟩ = some (I x) := hc 0
  have hBW : B < W.heap.size := (hB.G hb).lt
  have hne : B ≠ W.heap.size := by omega
  clear hc
  show Calls Tryd.prog 31 #[.agg #[I q.1, I q.2], ptr B] W _
  go_enter Tryd.func31, Tryd.ntmps31
  go_wp2
  all_goals (go_ret; exact ⟨by simp_all; rw [Bool.eq_iff_iff]; simp, hb.alloc hb.size _⟩)
set_option maxRecDepth 100000 in
set_option maxHeartbeats 1000000 in
theorem idx_nil (fv : Value) (w : World) : Calls Tryd.prog 47 #[.slice none 0 0, fv] w fun e w' => e = .returned (I (-1)) ∧ w' = w := by
  go_enter Tryd.func47, Tryd.ntmps47
  go_wp2
  refine wp_loop_rounds 1 ?_
  rw [rounds_succ]
  go_wp2
  go_ret
  exact ⟨rfl, rfl⟩
set_option maxRecDepth 100000 in
set_option maxHeartbeats 1000000 in
theorem idx_none (qs : List (Int × Int)) (v : Value) (x : Int) (B : Nat) (w : World) (hq : QSl w v qs) (hB : Blk w B 3 [I x]) (hno : ∀ q ∈ qs, q.1 ≠ x) (hlen : qs.length ≤ maxLen) : Calls Tryd.prog 47 #[v, .func (.func 31) #[] #[ptr B]] w fun e w' => e = .returned (I (-1)) ∧ G w w' := by
  have hq0 := hq
  rcases hq with ⟨rfl, rfl⟩ | ⟨g, cap, rest, rfl, hb, _⟩
  · exact (idx_nil _ w).mono fun e w' ⟨he, hw⟩ => ⟨he, by rw [hw]; exact G.refl _⟩
  · have hm : maxLen ≤ 9223372036854775807 := of_decide_eq_true (by kernel_rfl)
    have hcon := AnyQ.slices_IndexFunc Tryd.idxHeld 2 Tryd.isAgg55 Tryd.sizeOf55 encH (fun _ => rfl) (fun q => decide (q.1 = x)) 31 #[ptr B] (enters_of Tryd.func31 (by kernel_rfl) rfl) g 0 qs.length cap qs w (pred_txn x B w hB) (Nat.le_refl _) (by omega) hb.lt (fun j hj i u hi => by
      obtain ⟨q, hqj⟩ : ∃ q, qs[j]? = some q := ⟨_, List.getElem?_eq_getElem hj⟩
      have e : qs[j]! = q := by simp [hqj]
      rw [e] at hi
      have h2 := hq0.at hqj
      rw [Nat.zero_add]
      match i, hi with
      | 0, hi => simp [encH] at hi; rw [← hi]; exact h2.1
      | 1, hi => simp [encH] at hi; rw [← hi]; exact h2.2
      | i + 2, hi => simp [encH] at hi)
    rw [Lib.idxBy_miss _ qs qs.length _ (fun j hj => by
      obtain ⟨q, hqj⟩ : ∃ q, qs[j]? = some q := ⟨_, List.getElem?_eq_getElem hj⟩
      have e : qs[j]! = q := by simp [hqj]
      rw [e]
      exact decide_eq_false (hno q (List.mem_of_getElem? hqj)))] at hcon
    change Calls Tryd.prog 47 _ _ _ at hcon
    exact hcon.mono fun e w' h => h
set_option maxRecDepth 100000 in
set_option maxHeartbeats 1000000 in
theorem del_none (qs : List (Int × Int)) (v : Value) (x : Int) (B : Nat) (w : World) (hq : QSl w v qs) (hB : Blk w B 3 [I x]) (hno : ∀ q ∈ qs, q.1 ≠ x) (hlen : qs.length ≤ maxLen) : Calls Tryd.prog 30 #[v, .func (.func 31) #[] #[ptr B]] w fun e w' => e = .returned v ∧ G w w' := by
  have K := hide (idx_none qs v x B w hq hB hno hlen)
  clear hq hB hno hlen
  go_enter Tryd.func30, Tryd.ntmps30
  go_wp2_with (first | (go_at_call 47; refine K.out.mono ?_; rintro e w' ⟨rfl, hg⟩) | fail)
  go_ret
  exact ⟨rfl, hg⟩
end Go.Proofs.YtfeiocahlhklaaaDoor
