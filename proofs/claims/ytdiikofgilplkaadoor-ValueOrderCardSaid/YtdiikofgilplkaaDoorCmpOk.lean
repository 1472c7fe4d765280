/- Compare of two values is how their bytes stand. -/
import Derived.Test.YtdiikofgilplkaaDoorCompare
import Derived.Test.YtdiikofgilplkaaDoorLst
namespace Go.Proofs.YtdiikofgilplkaaDoor
open Go.RowKit

theorem lx_trans : ∀ us bs cs : List Nat, lx us bs ≤ 0 → lx bs cs ≤ 0 → lx us cs ≤ 0
  | [], _, [], _, _ => by simp [lx]
  | [], _, _ :: _, _, _ => by simp [lx]
  | _ :: _, [], _, h, _ => by simp [lx] at h
  | _ :: _, _ :: _, [], _, h => by simp [lx] at h
  | a :: us, b :: bs, c :: cs, h1, h2 => by
    have ih := lx_trans us bs cs
    simp only [lx] at h1 h2 ⊢
    by_cases hab : a < b
    · by_cases hbc : b < c
      · rw [if_pos (by omega)]; decide
      · rw [if_neg hbc] at h2
        by_cases hcb : c < b
        · rw [if_pos hcb] at h2; omega
        · rw [if_pos (by omega)]; decide
    · rw [if_neg hab] at h1
      by_cases hba : b < a
      · rw [if_pos hba] at h1; omega
      · rw [if_neg hba] at h1
        by_cases hbc : b < c
        · rw [if_pos (by omega)]; decide
        · rw [if_neg hbc] at h2
          by_cases hcb : c < b
          · rw [if_pos hcb] at h2; omega
          · rw [if_neg hcb] at h2
            rw [if_neg (by omega), if_neg (by omega)]
            exact ih h1 h2
theorem cmp_lx (k a b k' a' b' : Int) (s s' : ByteArray) (ok : okV k a b s = true) (ok' : okV k' a' b' s' = true) (ha : R64 a) (hb : R64 b) (ha' : R64 a') (hb' : R64 b') :
    (∀ w, Tabs w → Rks w → Calls Tryd.prog 7 #[V k a b s, V k' a' b' s'] w fun e w' => e = .returned (.int .i64 (lx (encV k a b s) (encV k' a' b' s'))) ∧ G w w') ∧
    ((lx (encV k a b s) (encV k' a' b' s') = -1 ∧ ¬ encV k a b s <+: encV k' a' b' s' ∧ ((k == k') && (a == a') && (b == b') && (s.toList == s'.toList)) = false) ∨ (lx (encV k a b s) (encV k' a' b' s') = 1 ∧ ¬ encV k a b s <+: encV k' a' b' s' ∧ ((k == k') && (a == a') && (b == b') && (s.toList == s'.toList)) = false) ∨ (lx (encV k a b s) (encV k' a' b' s') = 0 ∧ ((k == k') && (a == a') && (b == b') && (s.toList == s'.toList)) = true)) := by
  have h1 := okV_kind k a b s ok
  have h2 := okV_kind k' a' b' s' ok'
  obtain ⟨n, rfl⟩ : ∃ n : Nat, k = n := ⟨k.toNat, by omega⟩
  obtain ⟨n', rfl⟩ : ∃ n : Nat, k' = n := ⟨k'.toNat, by omega⟩
  have hc : ∀ w, Tabs w → Rks w → Calls Tryd.prog 7 #[V n a b s, V n' a' b' s'] w fun e w' => e = .returned (.int .i64 (ord n n' a b a' b' s s')) ∧ G w w' := fun w hT hR => Compare_any n a b n' a' b' s s' n n' a b a' b' s s' ⟨by omega, ok, .inl ⟨ok, rfl, rfl, rfl, rfl⟩⟩ ⟨by omega, ok', .inl ⟨ok', rfl, rfl, rfl, rfl⟩⟩ w hT hR
  have hq : ∀ us bs : List Nat, us = encV n a b s → bs = encV n' a' b' s' → Ls us bs ∨ Ls bs us → (((n : Int) == n') && (a == a') && (b == b') && (s.toList == s'.toList)) = false := fun us bs e1 e2 h => by
    rcases Bool.eq_false_or_eq_true (((n : Int) == n') && (a == a') && (b == b') && (s.toList == s'.toList)) with hb | hb
    · exfalso
      simp only [Bool.and_eq_true, beq_iff_eq] at hb
      obtain ⟨⟨⟨e3, rfl⟩, rfl⟩, e4⟩ := hb
      have e5 : s = s' := by
        have : s.data.toList = s'.data.toList := by simpa [ByteArray.toList_eq] using e4
        cases s; cases s'; simp at this; rw [this]
      rw [e5, e3] at e1
      subst e1 e2
      rcases h with h | h <;> exact h.noBegin.1 (List.prefix_refl _)
    · exact hb
  rcases ord_cases (by omega) (by omega) ok ok' ha hb ha' hb' with ⟨h, hl⟩ | ⟨h, hl⟩ | ⟨h, he, rfl, rfl, rfl⟩
  · refine ⟨fun w hT hR => by have := hc w hT hR; rwa [h, ← hl.lt.1] at this, .inl ⟨hl.lt.1, hl.noBegin.1, hq _ _ rfl rfl (.inl hl)⟩⟩
  · refine ⟨fun w hT hR => by have := hc w hT hR; rwa [h, ← hl.lt.2] at this, .inr (.inl ⟨hl.lt.2, hl.noBegin.2, hq _ _ rfl rfl (.inr hl)⟩)⟩
  · subst he
    refine ⟨fun w hT hR => by have := hc w hT hR; rwa [h, ← lx_self (encV n a b s)] at this, .inr (.inr ⟨lx_self _, by simp⟩)⟩
end Go.Proofs.YtdiikofgilplkaaDoor
