/- Locks: resources. -/
import Derived.Test.YtfeiocahlhklaaaDoorLk5
import Derived.Test.YtfeiocahlhklaaaDoorLkNm
import Derived.Shelf.SlicesQ.Index
namespace Go.Proofs.YtfeiocahlhklaaaDoor
open Go.RowKit Go.Shelf

theorem toList_inj {a b : ByteArray} (h : a.toList = b.toList) : a = b := by
  have := beq_toListBytes a b
  rw [h, beq_self_eq_true] at this
  cases a with | mk a => cases b with | mk b =>
    have h2 : (a == b) = true := this
    rw [eq_of_beq h2]
theorem res_eq (a b : Rs) (w : World) : (binOp .eql 23 (.agg #[I a.lv, .string a.lb, I a.id]) (.agg #[I b.lv, .string b.lb, I b.id])).run Tryd.prog w = .ok (.bool (decide (a = b))) w := by
  have u3 := Tryd.underlying3
  have a3 := Tryd.isAgg3
  have z3 := Tryd.sizeOf3
  have u9 := Tryd.underlying9
  have a9 := Tryd.isAgg9
  have z9 := Tryd.sizeOf9
  have u2 := Tryd.underlying2
  have a2 := Tryd.isAgg2
  have z2 := Tryd.sizeOf2
  have hS : Tryd.prog.underlying 23 = some (.struct (Tryd.prog.fieldsOf 23)) := by kernel_rfl
  have hp : Tryd.prog.stoodInHeld 23 = false := by kernel_rfl
  rw [run_eql_struct, show (10000 : Nat) = 9999 + 1 from rfl, run_equalIn_agg w 9999 23 _ _ hS hp]
  simp only [Program.fieldsOf, Tryd.underlying23]
  go_simp
  obtain ⟨a1, a2, a3⟩ := a
  obtain ⟨b1, b2, b3⟩ := b
  by_cases h1 : a1 = b1 <;> by_cases h2 : a2 = b2 <;> by_cases h3 : a3 = b3 <;> simp [h1, h2, h3]
  all_goals exact fun e => h2 (toList_inj e)
theorem toList_nil {b : ByteArray} : b.toList = [] ↔ b = ByteArray.empty := ⟨fun h => toList_inj (h.trans (by first | (simp; done) | kernel_rfl)), fun h => by rw [h]; first | (simp; done) | kernel_rfl⟩
/-- It is a resource. -/
def ResP (r : Rs) : Prop := (r.lv = 1 ∧ r.lb = ByteArray.empty ∧ r.id = 0) ∨ (r.lv = 2 ∧ NameP r.lb ∧ r.id = 0) ∨ (r.lv = 3 ∧ r.lb = ByteArray.empty ∧ 1 ≤ r.id)
noncomputable def resB (r : Rs) : Bool := @decide (ResP r) (Classical.propDecidable _)
theorem resB_yes {r : Rs} (h : ResP r) : Ending.returned (.bool true) = .returned (.bool (resB r)) := by
  have : resB r = true := @decide_eq_true _ (Classical.propDecidable _) h
  rw [this]
theorem resB_no {r : Rs} (h : ¬ ResP r) : Ending.returned (.bool false) = .returned (.bool (resB r)) := by
  have : resB r = false := @decide_eq_false _ (Classical.propDecidable _) h
  rw [this]
theorem resB_iff (r : Rs) : resB r = true ↔ ResP r := ⟨fun h => @of_decide_eq_true _ (Classical.propDecidable _) h, @decide_eq_true _ (Classical.propDecidable _)⟩
set_option maxRecDepth 100000 in
set_option maxHeartbeats 1000000 in
theorem isRes_any (r : Rs) (w : World) : Calls Tryd.prog 13 #[r.v] w fun e w' => e = .returned (.bool (resB r)) ∧ w' = w.alloc (.cells #[I r.lv, .string r.lb, I r.id] 23) := by
  simp only [Rs.v]
  obtain ⟨a, b, c⟩ := r
  simp only
  obtain ⟨q, hq⟩ : ∃ q, resB ⟨a, b, c⟩ = q := ⟨_, rfl⟩
  have HQ := hide hq
  rw [hq]
  clear hq
  by_cases h1 : a = 1
  · subst h1
    by_cases hb : b = ByteArray.empty
    · subst hb
      by_cases hc : c = 0
      · subst hc
        go_enter Tryd.func13, Tryd.ntmps13
        go_wp2
        go_ret
        exact ⟨by rw [← HQ.out]; exact resB_yes (.inl ⟨rfl, rfl, rfl⟩), rfl⟩
      · go_enter Tryd.func13, Tryd.ntmps13
        go_wp2
        go_ret
        exact ⟨by rw [← HQ.out]; exact resB_no (by simp [ResP, hc]), rfl⟩
    · have hl : ¬ b.toList = [] := fun e => hb (toList_nil.1 e)
      go_enter Tryd.func13, Tryd.ntmps13
      go_wp2
      go_ret
      exact ⟨by rw [← HQ.out]; exact resB_no (by simp [ResP, hb]), rfl⟩
  · by_cases h2 : a = 2
    · subst h2
      by_cases hn : NameP b
      · have HN := hide (fun w => Name_any b w)
        rw [(nameB_iff b).2 hn] at HN
        have HH := hide hn
        clear hn
        by_cases hc : c = 0
        · subst hc
          go_enter Tryd.func13, Tryd.ntmps13
          go_wp2_with (first | (go_at_call 20; refine (HN.out _).mono ?_; rintro e w' ⟨rfl, rfl⟩) | fail)
          go_ret
          exact ⟨by rw [← HQ.out]; exact resB_yes (.inr (.inl ⟨rfl, HH.out, rfl⟩)), rfl⟩
        · go_enter Tryd.func13, Tryd.ntmps13
          go_wp2_with (first | (go_at_call 20; refine (HN.out _).mono ?_; rintro e w' ⟨rfl, rfl⟩) | fail)
          go_ret
          exact ⟨by rw [← HQ.out]; exact resB_no (by simp [ResP, hc]), rfl⟩
      · have HN := hide (fun w => Name_any b w)
        have e : nameB b = false := by
          cases h : nameB b
          · rfl
          · exact absurd ((nameB_iff b).1 h) hn
        rw [e] at HN
        have HH := hide hn
        clear hn e
        go_enter Tryd.func13, Tryd.ntmps13
        go_wp2_with (first | (go_at_call 20; refine (HN.out _).mono ?_; rintro e w' ⟨rfl, rfl⟩) | fail)
        go_ret
        exact ⟨by rw [← HQ.out]; exact resB_no (by simp [ResP, HH.out]), rfl⟩
    · by_cases h3 : a = 3
      · subst h3
        by_cases hc : 1 ≤ c
        · by_cases hb : b = ByteArray.empty
          · subst hb
            go_enter Tryd.func13, Tryd.ntmps13
            go_wp2
            go_ret
            exact ⟨by rw [← HQ.out]; exact resB_yes (.inr (.inr ⟨rfl, rfl, hc⟩)), rfl⟩
          · have hl : ¬ b.toList = [] := fun e => hb (toList_nil.1 e)
            go_enter Tryd.func13, Tryd.ntmps13
            go_wp2
            go_ret
            exact ⟨by rw [← HQ.out]; exact resB_no (by simp [ResP, hb]), rfl⟩
        · go_enter Tryd.func13, Tryd.ntmps13
          go_wp2
          go_ret
          exact ⟨by rw [← HQ.out]; exact resB_no (by simp [ResP]; omega), rfl⟩
      · go_enter Tryd.func13, Tryd.ntmps13
        go_wp2
        go_ret
        exact ⟨by rw [← HQ.out]; exact resB_no (by simp [ResP, h1, h2, h3]), rfl⟩
end Go.Proofs.YtfeiocahlhklaaaDoor
