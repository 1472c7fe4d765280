/- Locks: turn. -/
import Derived.Test.YtfeiocahlhklaaaDoorLk10
import Derived.Test.YtfeiocahlhklaaaDoorLk11
namespace Go.Proofs.YtfeiocahlhklaaaDoor
open Go.RowKit

theorem Blk.drewN {w : World} {g : Nat} {e : TypeId} {xs : List Value} (h : Blk w g e xs) (n : Nat) : Blk (w.drewN n) g e xs := ⟨h.h⟩
theorem QSl.drewN {w : World} {v : Value} {qs : List (Int × Int)} (h : QSl w v qs) (n : Nat) : QSl (w.drewN n) v qs := h.keep (fun _ _ => rfl)
/-- How many requests at the front are upgrades. -/
def upN (hf : Int → Int) : List (Int × Int) → Nat
  | [] => 0
  | q :: qs => if hf q.1 = 0 then 0 else upN hf qs + 1
theorem upN_le (hf : Int → Int) : ∀ qs, upN hf qs ≤ qs.length
  | [] => Nat.le_refl _
  | q :: qs => by
    unfold upN
    split
    · exact Nat.zero_le _
    · have := upN_le hf qs; simp; omega
theorem upN_eq (hf : Int → Int) : ∀ (qs : List (Int × Int)) (k : Nat), k ≤ qs.length → (∀ j q, j < k → qs[j]? = some q → hf q.1 ≠ 0) → (∀ q, qs[k]? = some q → hf q.1 = 0) → upN hf qs = k
  | [], k, hk, _, _ => by simp at hk; subst hk; rfl
  | a :: qs, 0, _, _, h2 => by simp [upN, h2 a (by simp)]
  | a :: qs, k + 1, hk, h1, h2 => by
    have ha := h1 0 a (by omega) (by simp)
    unfold upN
    rw [if_neg ha, upN_eq hf qs k (by simpa using hk) (fun j q hj hq => h1 (j + 1) q (by omega) (by simpa using hq)) (fun q hq => h2 q (by simpa using hq))]
def turnN (p : Pl) (x : Int) : Nat := if p.hf x = 0 then p.qs.length else upN p.hf p.qs
set_option maxRecDepth 100000 in
set_option maxHeartbeats 1000000 in
theorem turn_any (p : Pl) (x : Int) (w : World) (hx : R64 x) (hq64 : ∀ q ∈ p.qs, R64 q.1) (hlq : p.qs.length ≤ maxLen) (hb : Blk w p.blk 72 [.map (some p.hb), p.q]) (hm : Mp (fun n : Int => I n) 3 w p.hb (fun x => nz (p.hf x))) (hq : QSl w p.q p.qs) : Calls Tryd.prog 22 #[ptr p.blk, I x] w fun e w' => e = .returned (I (turnN p x)) ∧ G w w' := by
  have hlk := hm.look kyI Tryd.underlying70 (Tryd.zeroValue3 w) (kyI_ok.2 hx)
  simp only [nz_get] at hlk
  have hc := hb.cell
  obtain ⟨qa, qcap, hqv⟩ : ∃ a c, p.q = .slice a p.qs.length c := by
    rcases hq with ⟨e, e2⟩ | ⟨g, cap, rest, e, _⟩
    · exact ⟨none, 0, by rw [e, e2]; rfl⟩
    · exact ⟨_, cap, e⟩
  rw [hqv] at hc
  have HB := hide hb
  have HM := hide hm
  have HQ := hide hq
  have HQV := hide hqv
  have H64 := hide hq64
  have HLQ := hide hlq
  clear hb hm hq hqv hq64 hlq
  by_cases h0 : p.hf x = 0
  · have e : turnN p x = p.qs.length := by simp [turnN, h0]
    rw [e]
    rw [h0] at hlk
    clear e h0
    go_enter Tryd.func22, Tryd.ntmps22
    go_wp2
    go_ret
    exact ⟨rfl, G.refl _⟩
  · have e : turnN p x = upN p.hf p.qs := by simp [turnN, h0]
    rw [e]
    clear e
    generalize p.hf x = m at hlk h0
    go_enter Tryd.func22, Tryd.ntmps22
    go_wp2
    go_loopw [5] (fun i wr => ∃ (k : Nat), i = I k ∧ k ≤ p.qs.length ∧ (∀ j q, j < k → p.qs[j]? = some q → p.hf q.1 ≠ 0) ∧ Blk wr p.blk 72 [.map (some p.hb), p.q] ∧ Mp (fun n : Int => I n) 3 wr p.hb (fun x => nz (p.hf x)) ∧ QSl wr p.q p.qs ∧ G w wr) (fun i _ => p.qs.length - (RowKit.intOf i).toNat)
    case atStart => exact ⟨0, rfl, Nat.zero_le _, fun j q hj _ => absurd hj (Nat.not_lt_zero j), HB.out, HM.out, HQ.out, G.refl _⟩
    case round =>
      obtain ⟨k, rfl, hk, hall, hb, hm, hq, hg⟩ := hrel
      have hc := hb.cell
      rw [HQV.out] at hc
      have HA := hide hall; have HB2 := hide hb; have HM2 := hide hm; have HQ2 := hide hq; have HG := hide hg
      clear hlk h0 hb hall hg
      by_cases hlt : k < p.qs.length
      · obtain ⟨q, hqk⟩ : ∃ q, p.qs[k]? = some q := ⟨_, List.getElem?_eq_getElem hlt⟩
        have hqa' : ∃ g, qa = some ⟨g, 0, none⟩ := by
          rcases hq with ⟨e, e2⟩ | ⟨g, cap, rest, e, _⟩
          · rw [e2] at hlt; simp at hlt
          · rw [HQV.out] at e; cases e; exact ⟨g, rfl⟩
        obtain ⟨g, rfl⟩ := hqa'
        have hqat := (HQV.out ▸ HQ2.out : QSl _ _ _).at hqk
        have hqa1 := hqat.1
        have hl := hm.lookN kyI Tryd.underlying70 Tryd.zeroValue3 (kyI_ok.2 (H64.out q (List.mem_of_getElem? hqk)))
        simp only [nz_get] at hl
        have hkI : (k : Int) < (p.qs.length : Int) := by omega
        have HK := hide hqk
        obtain ⟨q1, q2⟩ := q
        simp only at hl hqa1
        clear hqat hqk hm hq
        by_cases h1 : p.hf q1 = 0
        · have H1 := hide h1
          rw [h1] at hl
          clear h1
          go_wp2
          go_quiet (fail)
          go_wp2
          go_ret
          refine ⟨?_, HG.out.drewN _⟩
          rw [upN_eq p.hf p.qs k hk HA.out (fun q' hq' => by rw [HK.out] at hq'; cases hq'; exact H1.out)]
          rfl
        · have H1 := hide h1
          have h1f : (p.hf q1 == 0) = false := by simp [h1]
          go_wp2
          go_quiet (fail)
          go_wp2
          have hkb : (k : Int) + 1 ≤ 9223372036854775807 := by
            have := HLQ.out
            have hm : maxLen ≤ 9223372036854775807 := of_decide_eq_true (by kernel_rfl)
            omega
          have hwr : wrap64 ((k : Int) + 1) = (k : Int) + 1 := by unfold wrap64; omega
          go_roundw
          case rel =>
            refine ⟨k + 1, by rw [hwr]; rfl, by omega, fun j q' hj hq' => ?_, HB2.out.drewN _, HM2.out.drewN _, HQ2.out.drewN _, HG.out.drewN _⟩
            by_cases e : j = k
            · subst e
              rw [HK.out] at hq'
              cases hq'
              exact H1.out
            · exact HA.out j q' (by omega) hq'
          case measure => rw [hwr]; simp [RowKit.intOf]; omega
      · have hkI : ¬ ((k : Int) < (p.qs.length : Int)) := by omega
        clear hm hq
        go_wp2
        go_quiet (fail)
        go_wp2
        go_ret
        refine ⟨?_, HG.out.drewN _⟩
        rw [upN_eq p.hf p.qs k hk HA.out (fun q' hq' => by rw [List.getElem?_eq_none (by omega)] at hq'; cases hq')]
        rfl
end Go.Proofs.YtfeiocahlhklaaaDoor
