/- Locks: a step of the book's. -/
import Derived.Test.YtkbgifhhnnfgoaaGreatDoorLk73
namespace Go.Proofs.YtkbgifhhnnfgoaaGreatDoor
open Go.RowKit

/-- What a step of the book's leaves. -/
def StepQ (W0 : World) (b t lo : Nat) (k n : Nat) (L : List Int) (LR : List Rs) (e : Ending) (w' : World) : Prop :=
  e = .returned (.bool true) ∧ ∃ s m live res va vr, live.length ≤ k + 1 ∧ res.length ≤ n + 1 ∧ Ld W0 w' b t lo s m live res va vr L LR ∧ Bk m live
theorem StepP.q {W0 : World} {b t lo : Nat} {live : List (Int × Int)} {k n : Nat} {L : List Int} {LR : List Rs} {e : Ending} {w' : World} (h : StepP W0 b t lo live n L LR e w') (hk : live.length ≤ k + 1) : StepQ W0 b t lo k n L LR e w' := by
  obtain ⟨rfl, s, m, res, va, vr, h1, h2, h3⟩ := h
  exact ⟨rfl, s, m, live, res, va, vr, hk, h1, h2, h3⟩
theorem stampL_none {m : Ms} {live : List (Int × Int)} (h : Bk m live) {x : Int} (hp : m.lv x = none) : stampL live x = 0 :=
  stampL_no (fun a ha e => by
    obtain ⟨p, h1, -⟩ := (h.mem a.1 a.2).1 ha
    rw [e, hp] at h1; cases h1)
def tak2 (x st : Int) (live : List (Int × Int)) : Bool := live.any fun a => a.1 == x || a.2 == st
theorem tak2_snoc {x st : Int} {live : List (Int × Int)} {j : Nat} {a : Int × Int} (h : live[j]? = some a) : tak2 x st (live.take (j + 1)) = (tak2 x st (live.take j) || (a.1 == x || a.2 == st)) := by
  unfold tak2
  rw [List.take_add_one, h, List.any_append]
  simp
theorem tak2_iff {m : Ms} {live : List (Int × Int)} (h : Bk m live) {x st : Int} : tak2 x st live = true ↔ takenM m x st := by
  unfold tak2 takenM
  rw [List.any_eq_true]
  constructor
  · rintro ⟨a, ha, he⟩
    obtain ⟨p, hp, hs⟩ := (h.mem a.1 a.2).1 ha
    refine ⟨a.1, p, hp, ?_⟩
    rw [hs]
    simpa using he
  · rintro ⟨y, p, hp, he⟩
    exact ⟨(y, p.stamp), (h.mem y p.stamp).2 ⟨p, hp, rfl⟩, by simpa using he⟩
def frB (x st : Int) (live : List (Int × Int)) : Bool := decide (1 ≤ x ∧ 1 ≤ st) && !tak2 x st live
set_option maxRecDepth 100000 in
set_option maxHeartbeats 2000000 in
theorem begin_bad (t : Nat) (x st : Int) (w : World) (hb : ¬ (1 ≤ x ∧ 1 ≤ st)) : Calls Tryz.prog 14 #[ptr t, I x, I st] w fun e w' => e = .returned (I 1) ∧ w' = w := by
  by_cases h1 : 1 ≤ x
  · have h2 : ¬ 1 ≤ st := fun e => hb ⟨h1, e⟩
    have d1 : ¬ x < 1 := by omega
    have d2 : st < 1 := by omega
    clear hb h1 h2
    go_enter Tryz.func14, Tryz.ntmps14
    go_wp2
    go_ret
    exact ⟨rfl, rfl⟩
  · have d1 : x < 1 := by omega
    clear hb h1
    go_enter Tryz.func14, Tryz.ntmps14
    go_wp2
    go_ret
    exact ⟨rfl, rfl⟩
set_option maxRecDepth 100000 in
set_option maxHeartbeats 2000000 in
theorem steps_other {W0 w : World} {b t lo : Nat} {s : Gs} {m : Ms} {live : List (Int × Int)} {res : List Rs} {va vr : Value} {L : List Int} {LR : List Rs} (h : Ld W0 w b t lo s m live res va vr L LR) (hbk : Bk m live) (kd who x st : Int) (r : Rs) (mode : Int) (h1 : kd ≠ 1) (h2 : kd ≠ 2) (h3 : kd ≠ 3) (hL : L.length < 2000000000000) (hLR : LR.length < 2000000000000) (hrl : res.length + 1 < 2000000000000) (hll : live.length + 1 < 2000000000000) :
    Calls Tryz.prog 10 #[ptr b, .agg #[I kd, I who, I x, I st, I r.lv, .string r.lb, I r.id, I mode]] w (StepQ W0 b t lo live.length res.length L LR) := by
  have d1 : (kd == 1) = false := by simp [h1]
  have d2 : (kd == 2) = false := by simp [h2]
  have d3 : (kd == 3) = false := by simp [h3]
  have HQ : Hid (StepQ W0 b t lo live.length res.length L LR (.returned (.bool true)) (w.alloc (.cells #[I kd, I who, I x, I st, I r.lv, .string r.lb, I r.id, I mode] 34))) := ⟨rfl, s, m, live, res, va, vr, Nat.le_succ _, Nat.le_succ _, h.G ((G.refl w).alloc _), hbk⟩
  have hall := And.intro hL (And.intro hLR (And.intro hrl hll))
  clear hall h hbk hL hLR hrl hll
  go_enter Tryz.func10, Tryz.ntmps10
  go_wp2
  go_ret
  exact HQ.out
set_option maxRecDepth 100000 in
set_option maxHeartbeats 2000000 in
theorem steps_end {W0 w : World} {b t lo : Nat} {s : Gs} {m : Ms} {live : List (Int × Int)} {res : List Rs} {va vr : Value} {L : List Int} {LR : List Rs} (h : Ld W0 w b t lo s m live res va vr L LR) (hbk : Bk m live) (kd who x st : Int) (r : Rs) (mode : Int) (hk : kd = 3) (hL : L.length < 2000000000000) (hLR : LR.length < 2000000000000) (hrl : res.length + 1 < 2000000000000) (hll : live.length + 1 < 2000000000000) :
    Calls Tryz.prog 10 #[ptr b, .agg #[I kd, I who, I x, I st, I r.lv, .string r.lb, I r.id, I mode]] w (StepQ W0 b t lo live.length res.length L LR) := by
  subst hk
  obtain ⟨w1, hw1⟩ : ∃ w1, w1 = w.alloc (.cells #[I 3, I who, I x, I st, I r.lv, .string r.lb, I r.id, I mode] 34) := ⟨_, rfl⟩
  have H1 : Hid (Ld W0 w1 b t lo s m live res va vr L LR ∧ Blk w1 w.heap.size 34 [I 3, I who, I x, I st, I r.lv, .string r.lb, I r.id, I mode] ∧ s.own w.heap.size = none ∧ w.heap.size ≠ b ∧ (∀ k, va.ownBlock = some k → k ≠ w.heap.size)) := by
    have hg : G w w1 := by rw [hw1]; exact (G.refl w).alloc _
    exact ⟨h.G hg, by rw [hw1]; exact Blk.new w [I 3, I who, I x, I st, I r.lv, .string r.lb, I r.id, I mode] 34, h.gt.tt.fresh (Nat.le_refl _), by have := h.sg.blk.lt; omega, fun k hk e => by have := (World.ownsRow.lt h.sg.lf.1 k hk).2; omega⟩
  have KS : Hid (∀ W, W = w1 → Calls Tryz.prog 27 #[ptr b, I x] W fun e w' => e = .returned (I (stampL live x)) ∧ w' = W) := fun W e => by rw [e]; exact stamp_any b _ va vr lo live x _ H1.out.1.sg.blk H1.out.1.sg.lf
  have hall := And.intro hrl hll
  have q1 := H1.out.2.1.cell
  cases hp : m.lv x with
  | none =>
    have e0 := stampL_none hbk hp
    rw [e0] at KS
    have HQ : Hid (StepQ W0 b t lo live.length res.length L LR (.returned (.bool true)) w1) := ⟨rfl, s, m, live, res, va, vr, Nat.le_succ _, Nat.le_succ _, H1.out.1, hbk⟩
    have HW1 := hide hw1
    clear hall h hbk hL hLR hrl hll e0 hp
    go_enter Tryz.func10, Tryz.ntmps10
    rw [hw1] at q1
    clear hw1
    go_wp2_with (first | (go_at_call 27; with_reducible refine (KS.out _ HW1.out.symm).mono ?_; rintro e w' ⟨rfl, hw'⟩; subst hw') | fail)
    go_ret
    rw [← HW1.out]
    exact HQ.out
  | some p =>
    have e0 := stampL_bk hbk hp
    have e1 := (h.gt.iv.lv x p hp).s1
    rw [e0] at KS
    have d1 : (p.stamp == 0) = false := by simp; omega
    have d2 : ¬ p.stamp = 0 := by omega
    have KE : Hid (∀ W, W = w1 → Calls Tryz.prog 24 #[ptr b, I x] W (StepQ W0 b t lo live.length res.length L LR)) := fun W e => by
      rw [e]
      exact (end_ld H1.out.1 hbk hp hL hLR).mono (fun e w' hh => hh.q (Nat.le_succ_of_le (noX_len x live)))
    have HW1 := hide hw1
    clear hall h hbk hL hLR hrl hll e0 e1 hp
    go_enter Tryz.func10, Tryz.ntmps10
    rw [hw1] at q1
    clear hw1
    go_wp2_with (first | (go_at_call 27; with_reducible refine (KS.out _ HW1.out.symm).mono ?_; rintro e w' ⟨rfl, hw'⟩; subst hw') | (go_at_call 24; (with_reducible refine (KE.out _ HW1.out.symm).mono ?_); rintro e w' hq; obtain ⟨rfl, hq⟩ := hq) | fail)
    go_ret
    exact ⟨rfl, hq⟩
set_option maxRecDepth 100000 in
set_option maxHeartbeats 2000000 in
theorem steps_ask {W0 w : World} {b t lo : Nat} {s : Gs} {m : Ms} {live : List (Int × Int)} {res : List Rs} {va vr : Value} {L : List Int} {LR : List Rs} (h : Ld W0 w b t lo s m live res va vr L LR) (hbk : Bk m live) (kd who x st : Int) (r : Rs) (mode : Int) (hk : kd = 2) (hrm : r ∈ LR) (hro : r.ok) (hL : L.length < 2000000000000) (hLR : LR.length < 2000000000000) (hrl : res.length + 1 < 2000000000000) (hll : live.length + 1 < 2000000000000) :
    Calls Tryz.prog 10 #[ptr b, .agg #[I kd, I who, I x, I st, I r.lv, .string r.lb, I r.id, I mode]] w (StepQ W0 b t lo live.length res.length L LR) := by
  subst hk
  obtain ⟨w1, hw1⟩ : ∃ w1, w1 = w.alloc (.cells #[I 2, I who, I x, I st, I r.lv, .string r.lb, I r.id, I mode] 34) := ⟨_, rfl⟩
  have H1 : Hid (Ld W0 w1 b t lo s m live res va vr L LR ∧ Blk w1 w.heap.size 34 [I 2, I who, I x, I st, I r.lv, .string r.lb, I r.id, I mode] ∧ s.own w.heap.size = none ∧ w.heap.size ≠ b ∧ (∀ k, va.ownBlock = some k → k ≠ w.heap.size)) := by
    have hg : G w w1 := by rw [hw1]; exact (G.refl w).alloc _
    exact ⟨h.G hg, by rw [hw1]; exact Blk.new w [I 2, I who, I x, I st, I r.lv, .string r.lb, I r.id, I mode] 34, h.gt.tt.fresh (Nat.le_refl _), by have := h.sg.blk.lt; omega, fun k hk e => by have := (World.ownsRow.lt h.sg.lf.1 k hk).2; omega⟩
  have HQ : Hid (∀ W, G w1 W → StepQ W0 b t lo live.length res.length L LR (.returned (.bool true)) W) := fun W g => ⟨rfl, s, m, live, res, va, vr, Nat.le_succ _, Nat.le_succ _, H1.out.1.G g, hbk⟩
  have KS : Hid (∀ W, W = w1 → Calls Tryz.prog 27 #[ptr b, I x] W fun e w' => e = .returned (I (stampL live x)) ∧ w' = W) := fun W e => by rw [e]; exact stamp_any b _ va vr lo live x _ H1.out.1.sg.blk H1.out.1.sg.lf
  have HC : Hid (∀ W, G w1 W → ∀ o, W.cell? ⟨w.heap.size, o, none⟩ = ([I 2, I who, I x, I st, I r.lv, .string r.lb, I r.id, I mode] : List Value)[o]?) := fun W g => (H1.out.2.1.G g).cell
  have q1 := HC.out w1 (G.refl _)
  have hall := And.intro hrl hll
  cases hp : m.lv x with
  | none =>
    have e0 := stampL_none hbk hp
    rw [e0] at KS
    have HW1 := hide hw1
    clear hall h hbk hL hLR hrl hll e0 hp hrm hro HC
    go_enter Tryz.func10, Tryz.ntmps10
    rw [hw1] at q1
    clear hw1
    go_wp2_with (first | (go_at_call 27; with_reducible refine (KS.out _ HW1.out.symm).mono ?_; rintro e w' ⟨rfl, hw'⟩; subst hw') | fail)
    go_ret
    exact HQ.out _ (by rw [← HW1.out]; exact G.refl _)
  | some p =>
    have e0 := stampL_bk hbk hp
    have e1 := (h.gt.iv.lv x p hp).s1
    rw [e0] at KS
    have d1 : (p.stamp == 0) = false := by simp; omega
    have d2 : ¬ p.stamp = 0 := by omega
    have KG : Hid (∀ W, W = w1 → Calls Tryz.prog 12 #[.agg #[I r.lv, .string r.lb, I r.id]] W fun e w' => (e = .returned (.bool false) ∨ (e = .returned (.bool true) ∧ ResP r)) ∧ G W w') := fun W _ => good_any r W
    have KA : Hid (∀ W, G w1 W → ResP r → modeB mode = true → Calls Tryz.prog 28 #[ptr b, .agg #[I 2, I who, I x, I st, I r.lv, .string r.lb, I r.id, I mode]] W (StepQ W0 b t lo live.length res.length L LR)) := fun W g hres hm =>
      (ask_ld (H1.out.1.G g) hbk hp ⟨hrm, hro, hres⟩ hm hL hLR hrl 2 who st).mono (fun e w' hh => hh.q (Nat.le_succ _))
    have HW1 := hide hw1
    clear hall h hbk hL hLR hrl hll e0 e1 hp hrm hro
    go_enter Tryz.func10, Tryz.ntmps10
    rw [hw1] at q1
    clear hw1
    go_wp2_with (first | (go_at_call 27; with_reducible refine (KS.out _ HW1.out.symm).mono ?_; rintro e w' ⟨rfl, hw'⟩; subst hw') | (go_at_call 12; refine Hid.out ?_) | fail)
    unfold Hid
    with_reducible refine (KG.out _ HW1.out.symm).mono ?_
    rintro e w2 ⟨hgo, hg2⟩
    have HG2 : Hid (G w1 w2) := by rw [HW1.out]; exact hg2
    rcases hgo with rfl | ⟨rfl, hres⟩
    · have q2 := HC.out w2 HG2.out
      clear hg2 q1
      go_wp2
      go_ret
      exact HQ.out _ HG2.out
    · have q2 := HC.out w2 HG2.out
      by_cases hm : 1 ≤ mode ∧ mode ≤ 5
      · have m1 : ¬ mode < 1 := by omega
        have m2 : ¬ 5 < mode := by omega
        have KA2 := hide (KA.out w2 HG2.out hres (modeB_pos hm.1 hm.2))
        clear hg2 q1 hm hres KA
        go_wp2_with (first | (go_at_call 28; (with_reducible refine KA2.out.mono ?_); rintro e w' hq; obtain ⟨rfl, hq⟩ := hq) | fail)
        go_ret
        exact ⟨rfl, hq⟩
      · clear KA hres
        by_cases m1 : mode < 1
        · clear hg2 q1 hm
          go_wp2
          go_ret
          exact HQ.out _ HG2.out
        · have m2 : 5 < mode := by omega
          clear hg2 q1 hm
          go_wp2
          go_ret
          exact HQ.out _ HG2.out
end Go.Proofs.YtkbgifhhnnfgoaaGreatDoor
