/- Locks: a queue from which a request goes. -/
import Derived.Test.YtkbgifhhnnfgoaaGreatDoorLk17
import Derived.Test.YtkbgifhhnnfgoaaGreatDoorLk33
import Derived.Test.YtkbgifhhnnfgoaaGreatDoorLk23
import Derived.Deep.MidRow
namespace Go.Proofs.YtkbgifhhnnfgoaaGreatDoor
open Go.RowKit Go.Shelf

theorem pred_call (x : Int) (B : Nat) (W : World) (hB : Blk W B 3 [I x]) (q : Int × Int) : Calls Tryz.prog 60 #[.agg #[I q.1, I q.2], ptr B] W fun e w' => e = .returned (.bool (decide (q.1 = x))) ∧ G W w' := by
  exact (pred_txn x B W hB W q (G.refl W)).mono fun e w' h => h
set_option maxRecDepth 100000 in
set_option maxHeartbeats 400000 in
theorem idx_at (qs : List (Int × Int)) (g cap k : Nat) (x : Int) (B : Nat) (w : World) (hq : QSl w (.slice (some ⟨g, 0, none⟩) qs.length cap) qs) (hg : g < w.heap.size) (hB : Blk w B 3 [I x]) (hk : k < qs.length) (hx : ∀ q, qs[k]? = some q → q.1 = x) (hno : ∀ j q, j < k → qs[j]? = some q → q.1 ≠ x) (hlen : qs.length ≤ maxLen) : Calls Tryz.prog 91 #[.slice (some ⟨g, 0, none⟩) qs.length cap, .func (.func 60) #[] #[ptr B]] w fun e w' => e = .returned (I (k : Int)) ∧ G w w' := by
  have hm : maxLen ≤ 9223372036854775807 := of_decide_eq_true (by kernel_rfl)
  have hcon := AnyQ.slices_IndexFunc Tryz.idxHeld 2 Tryz.isAgg74 Tryz.sizeOf74 encH (fun _ => rfl) (fun q => decide (q.1 = x)) 60 #[ptr B] (enters_of Tryz.func60 (by kernel_rfl) rfl) g 0 qs.length cap qs w (pred_txn x B w hB) (Nat.le_refl _) (by omega) hg (fun j hj i u hi => by
    obtain ⟨q, hqj⟩ : ∃ q, qs[j]? = some q := ⟨_, List.getElem?_eq_getElem hj⟩
    have e : qs[j]! = q := by simp [hqj]
    rw [e] at hi
    have h2 := hq.at hqj
    rw [Nat.zero_add]
    match i, hi with
    | 0, hi => simp [encH] at hi; rw [← hi]; exact h2.1
    | 1, hi => simp [encH] at hi; rw [← hi]; exact h2.2
    | i + 2, hi => simp [encH] at hi)
  rw [Lib.idxBy_hit _ qs qs.length k _ hk (Nat.le_refl _) (by
    obtain ⟨q, hqj⟩ : ∃ q, qs[k]? = some q := ⟨_, List.getElem?_eq_getElem hk⟩
    have e : qs[k]! = q := by simp [hqj]
    rw [e]
    exact decide_eq_true (hx q hqj)) (fun j hj => by
    obtain ⟨q, hqj⟩ : ∃ q, qs[j]? = some q := ⟨_, List.getElem?_eq_getElem (Nat.lt_trans hj hk)⟩
    have e : qs[j]! = q := by simp [hqj]
    rw [e]
    exact decide_eq_false (hno j q hj hqj))] at hcon
  change Calls Tryz.prog 91 _ _ _ at hcon
  exact hcon.mono fun e w' h => h
/-- What stands in the queue's room when the requests behind k have moved up so far. -/
def mvQ (qs : List (Int × Int)) (k j : Nat) : List (Int × Int) := qs.take k ++ (qs.drop (k + 1)).take (j - 1 - k) ++ qs.drop (j - 1)
theorem mvQ_0 (qs : List (Int × Int)) (k : Nat) : mvQ qs k (k + 1) = qs := by
  unfold mvQ
  rw [show k + 1 - 1 - k = 0 by omega, List.take_zero, List.append_nil, Nat.add_sub_cancel, List.take_append_drop]
theorem mvQ_len {qs : List (Int × Int)} {k j : Nat} (h1 : k < j) (h2 : j ≤ qs.length) : (mvQ qs k j).length = qs.length := by
  unfold mvQ
  rw [List.length_append, List.length_append, List.length_take, List.length_take, List.length_drop, List.length_drop]
  omega
theorem mvQ_at {qs : List (Int × Int)} {k j i : Nat} (h1 : k < j) (h2 : j ≤ qs.length) (hi : j ≤ i + 1) : (mvQ qs k j)[i]? = qs[i]? := by
  unfold mvQ
  have hl : (qs.take k ++ (qs.drop (k + 1)).take (j - 1 - k)).length = j - 1 := by
    rw [List.length_append, List.length_take, List.length_take, List.length_drop]
    omega
  rw [List.getElem?_append_right (by omega), hl, List.getElem?_drop, show j - 1 + (i - (j - 1)) = i by omega]
theorem mvQ_step {qs : List (Int × Int)} {k j : Nat} {q : Int × Int} (h1 : k < j) (h2 : qs[j]? = some q) : (mvQ qs k j).set (j - 1) q = mvQ qs k (j + 1) := by
  have h3 : j < qs.length := (List.getElem?_eq_some_iff.1 h2).1
  have hl : (qs.take k ++ (qs.drop (k + 1)).take (j - 1 - k)).length = j - 1 := by
    rw [List.length_append, List.length_take, List.length_take, List.length_drop]
    omega
  have hd : qs.drop (j - 1) = qs[j - 1]'(by omega) :: qs.drop j := by
    rw [List.drop_eq_getElem_cons (by omega), show j - 1 + 1 = j by omega]
  have ht : (qs.drop (k + 1)).take (j + 1 - 1 - k) = (qs.drop (k + 1)).take (j - 1 - k) ++ [q] := by
    rw [show j + 1 - 1 - k = (j - 1 - k) + 1 by omega, List.take_add_one, List.getElem?_drop, show k + 1 + (j - 1 - k) = j by omega, h2]
    rfl
  unfold mvQ
  rw [List.set_append_right _ _ (by omega), hl, Nat.sub_self, hd, ht, Nat.add_sub_cancel]
  simp
theorem mvQ_end {qs : List (Int × Int)} {k : Nat} (h : k < qs.length) : mvQ qs k qs.length = cutQ qs k ++ qs.drop (qs.length - 1) := by
  have e : (qs.drop (k + 1)).take (qs.length - 1 - k) = qs.drop (k + 1) := List.take_of_length_le (by rw [List.length_drop]; omega)
  unfold mvQ cutQ
  rw [e]
theorem qc_set (qs : List (Int × Int)) (rest : List Value) : ∀ (i : Nat) (q : Int × Int), i < qs.length → (qc qs ++ rest).take (i * 2) ++ [I q.1, I q.2] ++ (qc qs ++ rest).drop (i * 2 + 2) = qc (qs.set i q) ++ rest := by
  induction qs with
  | nil => intro i q h; simp at h
  | cons p qs ih =>
    intro i q h
    cases i with
    | zero => rfl
    | succ i =>
      have := ih i q (by simpa using h)
      have e1 : qc (p :: qs) = I p.1 :: I p.2 :: qc qs := rfl
      have e2 : qc ((p :: qs).set (i + 1) q) = I p.1 :: I p.2 :: qc (qs.set i q) := rfl
      rw [e1, e2, show (i + 1) * 2 = i * 2 + 2 by omega]
      simpa using this
theorem ms_del {n i : Nat} (h : i + 1 < n) : n - ((i : Int) + 1 + 1).toNat < n - ((i : Int) + 1).toNat := by omega
theorem rl1 (i : Nat) : Value.int .i64 ((i : Int) + 1) = Value.int .i64 ((i + 1 : Nat) : Int) := by rw [Int.natCast_succ]
theorem rl2 (i : Nat) : Value.int .i64 ((i : Int) + 1 + 1) = Value.int .i64 (((i + 1 : Nat) : Int) + 1) := by rw [Int.natCast_succ]
theorem size_th : (Tryz.prog.info? 74).map (·.size) = some 2 := by kernel_rfl
theorem all_th (a b : Int) : (#[I a, I b] : Array Value).all (·.oneCell') = true := all_oneCell_toArray (cs := [I a, I b]) (fun v hv => by simp at hv; rcases hv with rfl | rfl <;> rfl)
set_option maxRecDepth 100000 in
set_option maxHeartbeats 400000 in
theorem del_one (qs : List (Int × Int)) (v : Value) (k : Nat) (x : Int) (B : Nat) (w : World) (hq : QSl w v qs) (hB : Blk w B 3 [I x]) (hk : k < qs.length) (hx : ∀ q, qs[k]? = some q → q.1 = x) (hno : ∀ j q, j ≠ k → qs[j]? = some q → q.1 ≠ x) (hlen : qs.length ≤ 17592186044416) :
    Calls Tryz.prog 59 #[v, .func (.func 60) #[] #[ptr B]] w fun e w' => ∃ v', e = .returned v' ∧ QSl w' v' (cutQ qs k) ∧ Chg (fun b => v.ownBlock = some b) w w' ∧ v'.ownBlock = v.ownBlock := by
  rcases hq with ⟨rfl, rfl⟩ | ⟨g, cap, rest, rfl, hb, hcap, hmax⟩
  · simp at hk
  have hmx : (17592186044416 : Nat) ≤ maxLen := of_decide_eq_true (by kernel_rfl)
  have hgB : g ≠ B := hb.ne hB (by decide)
  have hcl : qs.length ≤ cap := by omega
  have KI := hide (idx_at qs g cap k x B w (.inr ⟨g, cap, rest, rfl, hb, hcap, hmax⟩) hb.lt hB hk hx (fun j q hj => hno j q (by omega)) (by omega))
  have HB0 := hide hb
  have HBB := hide hB
  have HNO := hide hno
  have HN : Hid (qs.length ≤ 17592186044416) := hlen
  have HMX := hide hmax
  have HCP := hide hcap
  have HCL := hide hcl
  have HGB := hide hgB
  have HKL := hide hk
  have hkI : ¬ ((k : Int) = -1) := by omega
  have hw1 : wrap64 ((k : Int) + 1) = (k : Int) + 1 := by unfold wrap64; omega
  clear hb hB hx hno hmx hcap hmax hgB hcl hlen
  go_enter Tryz.func59, Tryz.ntmps59
  go_wp2_with (first | (go_at_call 91; with_reducible refine (KI.out).mono ?_; rintro e w1 ⟨rfl, hg1⟩; have HG1 := hide hg1; clear hg1) | fail)
  have hkB : ((k : Int) == -1) = false := beq_eq_false_iff_ne.2 hkI
  rw [hw1, hkB]
  go_loopw [5, 6, 7] (fun a c _ W => ∃ i : Nat, k ≤ i ∧ i + 1 ≤ qs.length ∧ a = .int .i64 (i : Int) ∧ c = .int .i64 ((i : Int) + 1) ∧ Blk W g 74 (qc (mvQ qs k (i + 1)) ++ rest) ∧ Chg (fun b => b = g) w W) (fun _ c _ _ => qs.length - (RowKit.intOf c).toNat)
  case atStart => exact ⟨k, Nat.le_refl _, HKL.out, rfl, rfl, by rw [mvQ_0]; exact HB0.out.G HG1.out, HG1.out.chg⟩
  case round =>
    obtain ⟨i, hki, hin, rfl, rfl, hbw, hcw⟩ := hrel
    have HKJ : Hid (k < i + 1) := Nat.lt_succ_of_le hki
    have HBW := hide hbw
    have HCW := hide hcw
    have HIN := hide hin
    clear hbw hcw HG1 KI hki
    by_cases hlt : i + 1 < qs.length
    · have hltI : (i : Int) + 1 < (qs.length : Int) := by omega
      obtain ⟨q, hqj⟩ : ∃ q, qs[i + 1]? = some q := ⟨_, List.getElem?_eq_getElem hlt⟩
      have hR : wr.rangeAt g ((i + 1) * 2) [I q.1, I q.2] := fun y u hi => by
        have hm := mvQ_at HKJ.out hin (i := i + 1) (by omega)
        rw [hqj] at hm
        have h2 := qc_at (mvQ qs k (i + 1)) rest (i + 1) q.1 q.2 hm
        rw [HBW.out.cell]
        match y, hi with
        | 0, hi => simp at hi; rw [← hi]; exact h2.1
        | 1, hi => simp at hi; rw [← hi]; exact h2.2
        | y + 2, hi => simp at hi
      have HRR := hide hR
      have HQJ := hide hqj
      have hgN := HBW.out.lt
      have hne : ¬ q.1 = x := HNO.out (i + 1) q (by have := HKJ.out; omega) hqj
      have gA : G wr (wr.alloc (.cells #[I q.1, I q.2] 74)) := (G.refl wr).alloc _
      have HBA := hide (HBW.out.G gA)
      have HCA := hide (HCW.out.trans (gA.chg (F := fun b => b = g)))
      have HBX := hide (Blk.new wr [I q.1, I q.2] 74)
      have hbb : Blk (wr.alloc (.cells #[I q.1, I q.2] 74)) B 3 [I x] := (HBB.out.chg HCW.out (Ne.symm HGB.out)).G gA
      have KP := hide (pred_call x B _ hbb q)
      rw [decide_eq_false hne] at KP
      have hnw : ¬ g = wr.heap.size := by omega
      have f1 : ((i : Int) + 1).toNat = i + 1 := by omega
      have f2 : (0 : Int) ≤ (i : Int) + 1 := by omega
      have f3 : wrap64 ((i : Int) + 1 + 1) = (i : Int) + 1 + 1 := by have := HN.out; unfold wrap64; omega
      have f4 : wrap64 ((i : Int) + 1) = (i : Int) + 1 := by have := HN.out; unfold wrap64; omega
      have f5 : (i : Int) < (qs.length : Int) := by omega
      clear gA hbb hR hne hqj
      go_wp2_with (first
        | (refine wpList_load_mid rfl 74 _ rfl g ((i + 1) * 2) rfl [I q.1, I q.2] _ HRR.out Tryz.underlying74 rfl size_th ?_)
        | (go_at_call 60; with_reducible refine (KP.out).mono ?_; rintro e w3 ⟨rfl, hg3⟩; have hx3 := (HBX.out.G hg3).cell; have HB3 := hide (HBA.out.G hg3); have HC3 := hide (HCA.out.trans (hg3.chg (F := fun b => b = g))); have HTH := hide (HB3.out.there (i * 2) 2 (by rw [List.length_append, qc_len, mvQ_len HKJ.out hin]; omega)); clear hg3)
        | (refine wpList_store_mid rfl 74 _ _ rfl g (i * 2) #[I q.1, I q.2] rfl rfl HTH.out size_th (all_th _ _) ?_)
        | fail)
      have hb4 := Blk.sets [I q.1, I q.2] HB3.out (i * 2) (by rw [List.length_append, qc_len, mvQ_len HKJ.out hin]; simp only [List.length_cons, List.length_nil]; omega)
      rw [show ([I q.1, I q.2] : List Value).length = 2 from rfl, qc_set (mvQ qs k (i + 1)) rest i q (by rw [mvQ_len HKJ.out hin]; omega)] at hb4
      have hst := mvQ_step HKJ.out HQJ.out
      rw [Nat.add_sub_cancel] at hst
      rw [hst] at hb4
      have HB4 := hide hb4
      clear hb4 hst
      have HC4 := hide (HC3.out.trans (chg_sets g [I q.1, I q.2] (i * 2) w3))
      have hki2 := Nat.le_of_lt HKJ.out
      refine ⟨⟨i + 1, hki2, hlt, ?_, ?_, HB4.out, HC4.out⟩, ?_⟩
      · rw [f4]; exact rl1 i
      · rw [f3]; exact rl2 i
      · rw [f3]
        exact ms_del hlt
    · have hltI : ¬ ((i : Int) + 1 < (qs.length : Int)) := by omega
      have hie : qs.length = i + 1 := by omega
      have hb1 := HBW.out
      rw [← hie, mvQ_end HKL.out, qc_app] at hb1
      have hd2 : (qc (qs.drop (qs.length - 1))).length = 2 := by rw [qc_len, List.length_drop]; omega
      have hcu : (qc (cutQ qs k)).length = i * 2 := by rw [qc_len, cutQ_len HKL.out]; omega
      have hl : i * 2 + 2 ≤ (qc (cutQ qs k) ++ qc (qs.drop (qs.length - 1)) ++ rest).length := by rw [List.length_append, List.length_append, hd2, hcu]; omega
      have cs : ∀ o, o < (qc (cutQ qs k) ++ qc (qs.drop (qs.length - 1)) ++ rest).length → (wr.cell? ⟨g, o, none⟩).isSome = true := fun o ho => by
        rw [hb1.cell, List.getElem?_eq_getElem ho]
        rfl
      have hclr : ∀ ty c, (Builtin.clear_ #[78] ty #[.slice (some ⟨g, i * 2, none⟩) 1 c]).run Tryz.prog wr = .ok (.tuple #[]) (wr.setCells g (i * 2) [I 0, I 0]) := fun ty c => run_clear_one wr ty g _ _ (cs _ (by omega)) (cs _ (by omega)) (hb1.frozen _) (hb1.frozen _)
      have hb2 := Blk.sets [I 0, I 0] hb1 (i * 2) (by simpa using hl)
      have e3 : (qc (cutQ qs k) ++ qc (qs.drop (qs.length - 1)) ++ rest).take (i * 2) ++ [I 0, I 0] ++ (qc (cutQ qs k) ++ qc (qs.drop (qs.length - 1)) ++ rest).drop (i * 2 + ([I 0, I 0] : List Value).length) = qc (cutQ qs k) ++ (I 0 :: I 0 :: rest) := by
        rw [List.append_assoc (qc (cutQ qs k)), ← hcu, List.take_append_of_le_length (Nat.le_refl _), List.take_length, List.drop_append, List.drop_of_length_le (by omega), List.drop_append, List.drop_of_length_le (by rw [hd2]; simp)]
        simp [hd2]
      rw [e3] at hb2
      have hQ : QSl (wr.setCells g (i * 2) [I 0, I 0]) (.slice (some ⟨g, 0, none⟩) i cap) (cutQ qs k) := .inr ⟨g, cap, I 0 :: I 0 :: rest, by rw [cutQ_len HKL.out, hie]; rfl, hb2, by rw [cutQ_len HKL.out]; have := HCP.out; simp only [List.length_cons]; omega, HMX.out⟩
      have HQ := hide hQ
      have HCC := hide (HCW.out.trans (chg_sets g [I 0, I 0] (i * 2) wr))
      have HCLR := hide hclr
      have f1 : ¬ (cap = i) := by have := HCL.out; omega
      have f2 : qs.length - i = 1 := by omega
      have f3 : (i : Int) ≤ (qs.length : Int) := by omega
      have f4 : ¬ ((cap : Int) < (i : Int)) := by have := HCL.out; omega
      clear hb1 hd2 hcu hl cs hclr hb2 e3 hQ hie
      go_wp2_with fail
      rw [HCLR.out]
      go_wp2
      go_ret
      exact ⟨_, rfl, HQ.out, HCC.out.mono (fun b hb => by rw [hb]; rfl), rfl⟩
end Go.Proofs.YtkbgifhhnnfgoaaGreatDoor
