/- Locks: placeOf. -/
import Derived.Test.YtkbgifhhnnfgoaaGreatDoorLk0
import Derived.PlainAid
import Derived.LoopTactic
import Derived.Test.YtkbgifhhnnfgoaaGreatDoorLk5
import Derived.Shelf.SlicesQ.Index
import Derived.Deep.QuietTactic
import Derived.Test.YtkbgifhhnnfgoaaGreatDoorLkL
namespace Go.Proofs.YtkbgifhhnnfgoaaGreatDoor
section
section
section
open Go.RowKit Go.PlainAid

/-- A byte of a name. -/
def chP (x : Int) : Prop := (97 ≤ x ∧ x ≤ 122) ∨ (48 ≤ x ∧ x ≤ 57)
def NameP (s : ByteArray) : Prop := 1 ≤ s.size ∧ s.size ≤ 8 ∧ 97 ≤ bt s 0 ∧ ∀ j, j < s.size → chP (bt s j)
noncomputable def nameB (s : ByteArray) : Bool := @decide (NameP s) (Classical.propDecidable _)
theorem nameB_yes {s : ByteArray} (h : NameP s) : Ending.returned (.bool true) = .returned (.bool (nameB s)) := by
  have : nameB s = true := @decide_eq_true _ (Classical.propDecidable _) h
  rw [this]
theorem nameB_no {s : ByteArray} (h : ¬ NameP s) : Ending.returned (.bool false) = .returned (.bool (nameB s)) := by
  have : nameB s = false := @decide_eq_false _ (Classical.propDecidable _) h
  rw [this]
theorem nameB_true {s : ByteArray} (h : nameB s = true) : NameP s := @of_decide_eq_true _ (Classical.propDecidable _) h
theorem nameB_iff (s : ByteArray) : nameB s = true ↔ NameP s := ⟨nameB_true, @decide_eq_true _ (Classical.propDecidable _)⟩
set_option maxRecDepth 100000 in
set_option maxHeartbeats 400000 in
theorem isLetter_yes (n : Int) (h1 : 97 ≤ n) (h2 : n ≤ 122) (w : World) : Calls Tryz.prog 79 #[.int .u8 n] w fun e w' => e = .returned (.bool true) ∧ w' = w := by
  go_enter Tryz.func79, Tryz.ntmps79
  go_wp2
  go_ret
  exact ⟨rfl, rfl⟩
set_option maxRecDepth 100000 in
set_option maxHeartbeats 400000 in
theorem isLetter_no (n : Int) (h0 : 0 ≤ n) (h255 : n ≤ 255) (h : n < 97 ∨ 122 < n) (w : World) : Calls Tryz.prog 79 #[.int .u8 n] w fun e w' => e = .returned (.bool false) ∧ w' = w := by
  by_cases h1 : 97 ≤ n
  · have h2 : ¬ n ≤ 122 := by omega
    clear h
    go_enter Tryz.func79, Tryz.ntmps79
    go_wp2
    go_ret
    exact ⟨rfl, rfl⟩
  · clear h
    go_enter Tryz.func79, Tryz.ntmps79
    go_wp2
    go_ret
    exact ⟨rfl, rfl⟩
set_option maxRecDepth 100000 in
set_option maxHeartbeats 400000 in
theorem isDigit_yes (n : Int) (h1 : 48 ≤ n) (h2 : n ≤ 57) (w : World) : Calls Tryz.prog 80 #[.int .u8 n] w fun e w' => e = .returned (.bool true) ∧ w' = w := by
  go_enter Tryz.func80, Tryz.ntmps80
  go_wp2
  go_ret
  exact ⟨rfl, rfl⟩
set_option maxRecDepth 100000 in
set_option maxHeartbeats 400000 in
theorem isDigit_no (n : Int) (h0 : 0 ≤ n) (h255 : n ≤ 255) (h : n < 48 ∨ 57 < n) (w : World) : Calls Tryz.prog 80 #[.int .u8 n] w fun e w' => e = .returned (.bool false) ∧ w' = w := by
  by_cases h1 : 48 ≤ n
  · have h2 : ¬ n ≤ 57 := by omega
    clear h
    go_enter Tryz.func80, Tryz.ntmps80
    go_wp2
    go_ret
    exact ⟨rfl, rfl⟩
  · clear h
    go_enter Tryz.func80, Tryz.ntmps80
    go_wp2
    go_ret
    exact ⟨rfl, rfl⟩
set_option maxRecDepth 100000 in
set_option maxHeartbeats 1000000 in
theorem Name_any (s : ByteArray) (w : World) : Calls Tryz.prog 49 #[.string s] w fun e w' => e = .returned (.bool (nameB s)) ∧ w' = w := by
  have hb := get_bt s
  by_cases h : 1 ≤ s.size ∧ s.size ≤ 8
  · obtain ⟨h1, h2⟩ := h
    have h0 := bt_nonneg s 0
    have h00 := bt_le s 0
    by_cases h3 : 97 ≤ bt s 0 ∧ bt s 0 ≤ 122
    · have HL : Hid _ := isLetter_yes (bt s 0) h3.1 h3.2
      obtain ⟨h3, _⟩ := h3
      go_enter Tryz.func49, Tryz.ntmps49
      go_wp2_with fail
      refine (HL.out _).mono ?_
      rintro e w1 ⟨rfl, rfl⟩
      go_wp2
      go_loop [3, 20] (fun _ i => ∃ n : Nat, n ≤ s.size ∧ i = .int .i64 n ∧ ∀ j, j < n → chP (bt s j)) (fun _ i => s.size - (RowKit.intOf i).toNat)
      case atStart => exact ⟨0, Nat.zero_le _, rfl, fun j hj => absurd hj (Nat.not_lt_zero j)⟩
      case round =>
        obtain ⟨n, hn, rfl, hv⟩ := hrel
        have HV : Hid (∀ j, j < n → chP (bt s j)) := hv
        clear hv
        by_cases hlt : n < s.size
        · have hI : (n : Int) < (s.size : Int) := by omega
          have x0 := bt_nonneg s n
          have x1 := bt_le s n
          by_cases c1 : 97 ≤ bt s n ∧ bt s n ≤ 122
          · have HC : Hid (chP (bt s n)) := Or.inl c1
            have HX : Hid _ := isLetter_yes (bt s n) c1.1 c1.2
            clear c1
            go_wp2_with fail
            refine (HX.out _).mono ?_
            rintro e w1 ⟨rfl, rfl⟩
            go_wp2
            go_round
            case rel => exact ⟨n + 1, by omega, by go_num, fun j hj => by
              rcases Nat.lt_succ_iff_lt_or_eq.1 hj with h | h
              · exact HV.out j h
              · rw [h]; exact HC.out⟩
            case measure => simp [RowKit.intOf]; omega
          · have HX : Hid _ := isLetter_no (bt s n) x0 x1 (by omega)
            by_cases c2 : 48 ≤ bt s n ∧ bt s n ≤ 57
            · have HC : Hid (chP (bt s n)) := Or.inr c2
              have HY : Hid _ := isDigit_yes (bt s n) c2.1 c2.2
              clear c1 c2
              go_wp2_with fail
              refine (HX.out _).mono ?_
              rintro e w1 ⟨rfl, rfl⟩
              go_wp2_with fail
              refine (HY.out _).mono ?_
              rintro e w1 ⟨rfl, rfl⟩
              go_wp2
              go_round
              case rel => exact ⟨n + 1, by omega, by go_num, fun j hj => by
                rcases Nat.lt_succ_iff_lt_or_eq.1 hj with h | h
                · exact HV.out j h
                · rw [h]; exact HC.out⟩
              case measure => simp [RowKit.intOf]; omega
            · have HC : Hid (¬ chP (bt s n)) := fun h => h.elim c1 c2
              have HY : Hid _ := isDigit_no (bt s n) x0 x1 (by omega)
              clear c1 c2
              go_wp2_with fail
              refine (HX.out _).mono ?_
              rintro e w1 ⟨rfl, rfl⟩
              go_wp2_with fail
              refine (HY.out _).mono ?_
              rintro e w1 ⟨rfl, rfl⟩
              go_wp2
              go_ret
              exact ⟨nameB_no (fun h => HC.out (h.2.2.2 n hlt)), rfl⟩
        · have hI : ¬ (n : Int) < (s.size : Int) := by omega
          go_wp2
          go_ret
          exact ⟨nameB_yes ⟨h1, h2, h3, fun j hj => HV.out j (by omega)⟩, rfl⟩
    · have HL : Hid _ := isLetter_no (bt s 0) h0 h00 (by omega)
      have HN : Hid (¬ NameP s) := fun hh => by
        have := hh.2.2.2 0 (by omega)
        have := hh.2.2.1
        unfold chP at *
        omega
      clear h3
      go_enter Tryz.func49, Tryz.ntmps49
      go_wp2_with fail
      refine (HL.out _).mono ?_
      rintro e w1 ⟨rfl, rfl⟩
      go_wp2
      go_ret
      exact ⟨nameB_no HN.out, rfl⟩
  · have HN : Hid (¬ NameP s) := fun hh => h ⟨hh.1, hh.2.1⟩
    by_cases h1 : 1 ≤ s.size
    · have h2 : ¬ s.size ≤ 8 := fun h2 => h ⟨h1, h2⟩
      clear h
      go_enter Tryz.func49, Tryz.ntmps49
      go_wp2
      go_ret
      exact ⟨nameB_no HN.out, rfl⟩
    · clear h
      go_enter Tryz.func49, Tryz.ntmps49
      go_wp2
      go_ret
      exact ⟨nameB_no HN.out, rfl⟩
end
open Go.RowKit Go.Shelf

theorem toList_inj {a b : ByteArray} (h : a.toList = b.toList) : a = b := by
  have := beq_toListBytes a b
  rw [h, beq_self_eq_true] at this
  cases a with | mk a => cases b with | mk b =>
    have h2 : (a == b) = true := this
    rw [eq_of_beq h2]
theorem res_eq (a b : Rs) (w : World) : (binOp .eql 24 (.agg #[I a.lv, .string a.lb, I a.id]) (.agg #[I b.lv, .string b.lb, I b.id])).run Tryz.prog w = .ok (.bool (decide (a = b))) w := by
  have u3 := Tryz.underlying3
  have a3 := Tryz.isAgg3
  have z3 := Tryz.sizeOf3
  have u9 := Tryz.underlying9
  have a9 := Tryz.isAgg9
  have z9 := Tryz.sizeOf9
  have u2 := Tryz.underlying2
  have a2 := Tryz.isAgg2
  have z2 := Tryz.sizeOf2
  have hS : Tryz.prog.underlying 24 = some (.struct (Tryz.prog.fieldsOf 24)) := by kernel_rfl
  have hp : Tryz.prog.stoodInHeld 24 = false := by kernel_rfl
  rw [run_eql_struct, show (10000 : Nat) = 9999 + 1 from rfl, run_equalIn_agg w 9999 24 _ _ hS hp]
  simp only [Program.fieldsOf, Tryz.underlying24]
  go_simp
  obtain ⟨a1, a2, a3⟩ := a
  obtain ⟨b1, b2, b3⟩ := b
  by_cases h1 : a1 = b1 <;> by_cases h2 : a2 = b2 <;> by_cases h3 : a3 = b3 <;> simp [h1, h2, h3]
  all_goals exact fun e => h2 (toList_inj e)
theorem toList_nil {b : ByteArray} : b.toList = [] ↔ b = ByteArray.empty := ⟨fun h => toList_inj (h.trans (by first | (simp; done) | kernel_rfl)), fun h => by rw [h]; first | (simp; done) | kernel_rfl⟩
/-- It is a resource. -/
def ResP (r : Rs) : Prop := (r.lv = 1 ∧ r.lb = ByteArray.empty ∧ r.id = 0) ∨ (r.lv = 2 ∧ NameP r.lb ∧ r.id = 0) ∨ (r.lv = 3 ∧ r.lb = ByteArray.empty ∧ 1 ≤ r.id)
noncomputable def resB (r : Rs) : Bool := @decide (ResP r) (Classical.propDecidable _)
theorem resB_yes {r : Rs} (h : ResP r) : Ending.returned (.bool true) = .returned (.bool (resB r)) := by
  have : resB r = true := @decide_eq_true _ (Classical.propDecidable _) h
  rw [this]
theorem resB_no {r : Rs} (h : ¬ ResP r) : Ending.returned (.bool false) = .returned (.bool (resB r)) := by
  have : resB r = false := @decide_eq_false _ (Classical.propDecidable _) h
  rw [this]
theorem resB_iff (r : Rs) : resB r = true ↔ ResP r := ⟨fun h => @of_decide_eq_true _ (Classical.propDecidable _) h, @decide_eq_true _ (Classical.propDecidable _)⟩
set_option maxRecDepth 100000 in
set_option maxHeartbeats 1000000 in
theorem isRes_any (r : Rs) (w : World) : Calls Tryz.prog 31 #[r.v] w fun e w' => e = .returned (.bool (resB r)) ∧ w' = w.alloc (.cells #[I r.lv, .string r.lb, I r.id] 24) := by
  simp only [Rs.v]
  obtain ⟨a, b, c⟩ := r
  simp only
  obtain ⟨q, hq⟩ : ∃ q, resB ⟨a, b, c⟩ = q := ⟨_, rfl⟩
  have HQ := hide hq
  rw [hq]
  clear hq
  by_cases h1 : a = 1
  · subst h1
    by_cases hb : b = ByteArray.empty
    · subst hb
      by_cases hc : c = 0
      · subst hc
        go_enter Tryz.func31, Tryz.ntmps31
        go_wp2
        go_ret
        exact ⟨by rw [← HQ.out]; exact resB_yes (.inl ⟨rfl, rfl, rfl⟩), rfl⟩
      · go_enter Tryz.func31, Tryz.ntmps31
        go_wp2
        go_ret
        exact ⟨by rw [← HQ.out]; exact resB_no (by simp [ResP, hc]), rfl⟩
    · have hl : ¬ b.toList = [] := fun e => hb (toList_nil.1 e)
      go_enter Tryz.func31, Tryz.ntmps31
      go_wp2
      go_ret
      exact ⟨by rw [← HQ.out]; exact resB_no (by simp [ResP, hb]), rfl⟩
  · by_cases h2 : a = 2
    · subst h2
      by_cases hn : NameP b
      · have HN := hide (fun w => Name_any b w)
        rw [(nameB_iff b).2 hn] at HN
        have HH := hide hn
        clear hn
        by_cases hc : c = 0
        · subst hc
          go_enter Tryz.func31, Tryz.ntmps31
          go_wp2_with (first | (go_at_call 49; refine (HN.out _).mono ?_; rintro e w' ⟨rfl, rfl⟩) | fail)
          go_ret
          exact ⟨by rw [← HQ.out]; exact resB_yes (.inr (.inl ⟨rfl, HH.out, rfl⟩)), rfl⟩
        · go_enter Tryz.func31, Tryz.ntmps31
          go_wp2_with (first | (go_at_call 49; refine (HN.out _).mono ?_; rintro e w' ⟨rfl, rfl⟩) | fail)
          go_ret
          exact ⟨by rw [← HQ.out]; exact resB_no (by simp [ResP, hc]), rfl⟩
      · have HN := hide (fun w => Name_any b w)
        have e : nameB b = false := by
          cases h : nameB b
          · rfl
          · exact absurd ((nameB_iff b).1 h) hn
        rw [e] at HN
        have HH := hide hn
        clear hn e
        go_enter Tryz.func31, Tryz.ntmps31
        go_wp2_with (first | (go_at_call 49; refine (HN.out _).mono ?_; rintro e w' ⟨rfl, rfl⟩) | fail)
        go_ret
        exact ⟨by rw [← HQ.out]; exact resB_no (by simp [ResP, HH.out]), rfl⟩
    · by_cases h3 : a = 3
      · subst h3
        by_cases hc : 1 ≤ c
        · by_cases hb : b = ByteArray.empty
          · subst hb
            go_enter Tryz.func31, Tryz.ntmps31
            go_wp2
            go_ret
            exact ⟨by rw [← HQ.out]; exact resB_yes (.inr (.inr ⟨rfl, rfl, hc⟩)), rfl⟩
          · have hl : ¬ b.toList = [] := fun e => hb (toList_nil.1 e)
            go_enter Tryz.func31, Tryz.ntmps31
            go_wp2
            go_ret
            exact ⟨by rw [← HQ.out]; exact resB_no (by simp [ResP, hb]), rfl⟩
        · go_enter Tryz.func31, Tryz.ntmps31
          go_wp2
          go_ret
          exact ⟨by rw [← HQ.out]; exact resB_no (by simp [ResP]; omega), rfl⟩
      · go_enter Tryz.func31, Tryz.ntmps31
        go_wp2
        go_ret
        exact ⟨by rw [← HQ.out]; exact resB_no (by simp [ResP, h1, h2, h3]), rfl⟩
end
open Go.RowKit

theorem drewN_heap (w : World) (n : Nat) : (w.drewN n).heap = w.heap := rfl
theorem G.drewN {a w : World} (h : G a w) (n : Nat) : G a (w.drewN n) := h.trans ⟨rfl, rfl, rfl, Nat.le_refl _, fun _ _ => rfl⟩
theorem Chg.drewN {F : Nat → Prop} {a w : World} (h : Chg F a w) (n : Nat) : Chg F a (w.drewN n) := h.trans ⟨rfl, rfl, rfl, Nat.le_refl _, fun _ _ _ => rfl⟩
theorem Mp.drewN {α : Type} {enc : α → Value} {k : TypeId} {w : World} {b : Nat} {g : α → Option Value} (h : Mp enc k w b g) (n : Nat) : Mp enc k (w.drewN n) b g := h.keep (by rw [drewN_heap])
theorem Mp.lookN {α : Type} {enc : α → Value} {k : TypeId} {w : World} {b : Nat} {g : α → Option Value} (h : Mp enc k w b g) (Y : Ky enc k) {t e : TypeId} (ht : Tryz.prog.underlying t = some (.map k e)) {z : Value} (hz : ∀ w, (zeroValue e).run Tryz.prog w = .ok z w) {a : α} (ha : KyOk enc k a) :
    ∀ n, (Instr.lookup t (.map (some b)) (enc a) false).run Tryz.prog (w.drewN n) = .ok ((g a).getD z) (w.drewN n) := fun n => (h.drewN n).look Y ht (hz _) ha
theorem nz_get (n : Int) : (nz n).getD (I 0) = I n := by unfold nz; split <;> simp_all
set_option maxRecDepth 100000 in
set_option maxHeartbeats 1000000 in
theorem mode_none (t : Nat) (s : Gs) (x : Int) (r : Rs) (w : World) (h : TT w t s) (hx : R64 x) (hn : s.lv x = none) : Calls Tryz.prog 43 #[ptr t, I x, r.v] w fun e w' => e = .returned (.tuple #[I 0, I 80]) ∧ G w w' := by
  have g1 := (G.refl w).alloc (.cells #[I r.lv, .string r.lb, I r.id] 24)
  have KP := hide (partyOf_any t s x _ (h.G g1) hx)
  rw [hn] at KP
  have HG := hide g1
  clear g1 hn
  simp only [Rs.v]
  go_enter Tryz.func43, Tryz.ntmps43
  go_wp2_with (first | (go_at_call 29; refine KP.out.mono ?_; rintro e w' ⟨rfl, rfl⟩) | fail)
  go_ret2
  exact ⟨rfl, HG.out⟩
set_option maxRecDepth 100000 in
set_option maxHeartbeats 1000000 in
theorem mode_any (t : Nat) (s : Gs) (x : Int) (r : Rs) (w : World) (p : Pt) (h : TT w t s) (hx : R64 x) (hr : r.ok) (hp : s.lv x = some p) : Calls Tryz.prog 43 #[ptr t, I x, r.v] w fun e w' => e = .returned (.tuple #[I (if resB r then p.hf r else 0), I (if resB r then 0 else 82)]) ∧ G w w' := by
  have g1 := (G.refl w).alloc (.cells #[I r.lv, .string r.lb, I r.id] 24)
  have KP := hide (partyOf_any t s x _ (h.G g1) hx)
  rw [hp] at KP
  simp only [ptv, Option.isSome_some, if_true] at KP
  have KR := hide (isRes_any r (w.alloc (.cells #[I r.lv, .string r.lb, I r.id] 24)))
  have g2 := g1.alloc (.cells #[I r.lv, .string r.lb, I r.id] 24)
  have hpo := (h.pt x p hp)
  have hcell := (hpo.blk.G g2).cell
  have hl := (hpo.hm.G g2).lookN kyR Tryz.underlying64 Tryz.zeroValue3 (kyR_ok.2 hr)
  simp only [nz_get] at hl
  simp only [Pt.cells] at hcell
  have hrc := (Blk.new w [I r.lv, .string r.lb, I r.id] 24).G ((G.refl _).alloc (.cells #[I r.lv, .string r.lb, I r.id] 24))
  have hrc' := hrc.cell
  have HG := hide g2
  clear hpo g1 g2 hp h hrc
  generalize p.hf r = m at *
  cases hb : resB r with
  | true =>
    rw [hb] at KR
    clear hb
    simp only [Rs.v] at hl ⊢
    go_enter Tryz.func43, Tryz.ntmps43
    go_wp2_with (first | (go_at_call 29; refine KP.out.mono ?_; rintro e w' ⟨rfl, rfl⟩) | (go_at_call 31; refine KR.out.mono ?_; rintro e w' ⟨rfl, rfl⟩) | fail)
    go_quiet (fail)
    go_wp2
    go_ret2
    exact ⟨rfl, HG.out.drewN _⟩
  | false =>
    rw [hb] at KR
    clear hb hl
    simp only [Rs.v]
    go_enter Tryz.func43, Tryz.ntmps43
    go_wp2_with (first | (go_at_call 29; refine KP.out.mono ?_; rintro e w' ⟨rfl, rfl⟩) | (go_at_call 31; refine KR.out.mono ?_; rintro e w' ⟨rfl, rfl⟩) | fail)
    go_ret2
    exact ⟨rfl, HG.out⟩
end
open Go.RowKit

theorem wp_put {α : Type} [DecidableEq α] {enc : α → Value} {k : TypeId} {b : Nat} {g : α → Option Value} {w : World} {op : Oper} {a : Act} {K : Act → World → Prop} {Q : Exit → Act → World → Prop}
    (m x v : Operand) (t : TypeId) (hop : op.op = Op.mapUpdate t m x v) (h : Mp enc k w b g) (hm : a.eval m = .map (some b)) (Y : Ky enc k) (L : List α) (hL : ∀ a, KyOk enc k a → g a ≠ none → a ∈ L) (hl : L.length < maxLen)
    {e : TypeId} (ht : Tryz.prog.underlying t = some (.map k e)) (key : α) (hx : a.eval x = enc key) (ha : KyOk enc k key) (val : Value) (hv : a.eval v = val)
    (hK : ∀ w', Mp enc k w' b (upd g key (some val)) → Chg (fun k => k = b) w w' → w'.heap.size = w.heap.size → K (a.put op.dst undef) w') : op.wp Tryz.prog a w K Q := by
  obtain ⟨w', hrun, r1, r2, r3⟩ := h.put Y L hL hl ht ha val
  unfold Oper.wp
  simp [execOp, hop, hm, hx, hv, hrun, Result.andThen]
  exact hK w' r1 r2 r3
/-- A place where nothing is held and asked. -/
def Pl.isNew (p : Pl) : Prop := p.q = .slice none 0 0 ∧ (∀ x, p.hf x = 0) ∧ p.qs = []
set_option maxRecDepth 100000 in
set_option maxHeartbeats 1000000 in
theorem placeOf_there (t : Nat) (s : Gs) (r : Rs) (q : Pl) (w : World) (h : TT w t s) (hr : r.ok) (hq : s.pl r = some q) : Calls Tryz.prog 50 #[ptr t, r.v] w fun e w' => e = .returned (ptr q.blk) ∧ G w w' := by
  have g1 := (G.refl w).alloc (.cells #[I r.lv, .string r.lb, I r.id] 24)
  have hb := (Blk.new w [I r.lv, .string r.lb, I r.id] 24).cell
  have hc := (h.tb.G g1).cell
  have hl := (h.pm.G g1).lookN kyR Tryz.underlying59 Tryz.zeroValue76 (kyR_ok.2 hr)
  rw [hq] at hl
  simp only [Option.map_some, Option.getD_some] at hl
  have HG := hide g1
  clear g1 h hq
  simp only [Rs.v] at hl ⊢
  go_enter Tryz.func50, Tryz.ntmps50
  go_wp2
  go_quiet (fail)
  go_wp2
  go_ret
  exact ⟨rfl, HG.out.drewN _⟩
set_option maxRecDepth 100000 in
set_option maxHeartbeats 1000000 in
theorem placeOf_new (t : Nat) (s : Gs) (r : Rs) (w : World) (h : TT w t s) (hr : r.ok) (hq : s.pl r = none) (L : List Rs) (hL : ∀ r', s.pl r' ≠ none → r' ∈ L) (hll : L.length < maxLen) : Calls Tryz.prog 50 #[ptr t, r.v] w fun e w' => ∃ s' q, e = .returned (ptr q.blk) ∧ TT w' t s' ∧ q.isNew ∧ s'.pl = upd s.pl r (some q) ∧ s'.lv = s.lv ∧ Ext w w' s s' := by
  have g1 := (G.refl w).alloc (.cells #[I r.lv, .string r.lb, I r.id] 24)
  have hb0 := Blk.new w [I r.lv, .string r.lb, I r.id] 24
  have hb := hb0.cell
  have hc := (h.tb.G g1).cell
  have hl := (h.pm.G g1).lookN kyR Tryz.underlying59 Tryz.zeroValue76 (kyR_ok.2 hr)
  rw [hq] at hl
  simp only [Option.map_none, Option.getD_none] at hl
  have HB := hide hb0
  have HG := hide g1
  have HT := hide h
  have HQ := hide hq
  have HR := hide hr
  have HL := hide (show ∀ r', (s.pl r').map (fun p => ptr p.blk) ≠ none → r' ∈ L from fun r' hy => hL r' (fun e => hy (by rw [e]; rfl)))
  have HLL := hide hll
  clear g1 h hq hb0 hL hll hr
  have hmm := @run_makeMap Tryz.prog
  simp only [Rs.v] at hl ⊢
  go_enter Tryz.func50, Tryz.ntmps50
  go_wp2
  go_quiet (fail)
  go_wp2
  have HST : Hid ((fun W => TT W t s ∧ Blk W w.heap.size 24 [I r.lv, .string r.lb, I r.id] ∧ Ext w W s s ∧ Blk W (w.heap.size + 1 + 1) 105 [.map (some (w.heap.size + 1)), .slice none 0 0] ∧ Mp (fun n : Int => I n) 3 W (w.heap.size + 1) (fun _ => none) ∧ W.heap.size = w.heap.size + 1 + 2 ∧ w.heap.size < w.heap.size + 1) (((((w.alloc (.cells #[I r.lv, .string r.lb, I r.id] 24)).drewN nq).alloc (.map #[] 0)).alloc (.cells #[.map (some (w.heap.size + 1)), .slice none 0 0] 105)).drew)) := by
    have gq := (HG.out.drewN nq)
    have g2 := (gq.alloc (.map #[] 0)).alloc (.cells #[.map (some (w.heap.size + 1)), .slice none 0 0] 105)
    have m1 := (Mp.made ((w.alloc (.cells #[I r.lv, .string r.lb, I r.id] 24)).drewN nq) (fun n : Int => I n) 3).G ((G.refl _).alloc (.cells #[.map (some (w.heap.size + 1)), .slice none 0 0] 105))
    have b1 := Blk.new (((w.alloc (.cells #[I r.lv, .string r.lb, I r.id] 24)).drewN nq).alloc (.map #[] 0)) [.map (some (w.heap.size + 1)), .slice none 0 0] 105
    simp only [World.size_alloc, drewN_heap] at m1 b1
    refine ⟨HT.out.G g2.drew, (HB.out.G ((((G.refl _).drewN nq).alloc _).alloc _)).drew, g2.drew.ext s, b1.drew, m1.keep rfl, ?_, by omega⟩
    have e1 : ∀ W : World, W.drew.heap.size = W.heap.size := fun _ => rfl
    rw [e1, World.size_alloc, World.size_alloc, drewN_heap, World.size_alloc]
  obtain ⟨n, hn⟩ : ∃ n, n = w.heap.size + 1 := ⟨_, rfl⟩
  rw [← hn] at HST ⊢
  generalize ((((w.alloc (.cells #[I r.lv, .string r.lb, I r.id] 24)).drewN nq).alloc (.map #[] 0)).alloc (.cells #[.map (some n), .slice none 0 0] 105)) = W0 at HST ⊢
  clear hmm hl hc hb HB HG hn
  refine wp_region_noPanic ?_
  refine wp_region_L (S := (fun W => TT W t s ∧ Blk W w.heap.size 24 [I r.lv, .string r.lb, I r.id] ∧ Ext w W s s ∧ Blk W (n + 1) 105 [.map (some n), .slice none 0 0] ∧ Mp (fun n : Int => I n) 3 W n (fun _ => none) ∧ W.heap.size = n + 2 ∧ w.heap.size < n)) 6 (by kernel_rfl) (HST.out) (fun hHeld => ?_)
  refine wpAnyL_take (i := 0) (v := ?_) rfl (by kernel_rfl) (by kernel_rfl) (by kernel_rfl) (by kernel_rfl) (fun _ _ _ h => h) (Or.inl ⟨by rfl, ?_⟩) hHeld ?_
  rotate_left 1
  · (intro w hSw; obtain ⟨h1, h2, _⟩ := hSw; have hc := h1.tb.cell; have hb := h2.cell; go_simp; try with_reducible rfl)
  try simp only [Act.put, List.getElem_toArray, List.getElem_cons_zero, List.setIfInBounds_toArray, List.set_cons_zero, List.set_cons_succ]
  refine wpAnyL_take (i := 1) (v := ?_) rfl (by kernel_rfl) (by kernel_rfl) (by kernel_rfl) (by kernel_rfl) (fun _ _ _ h => h) (Or.inl ⟨by rfl, ?_⟩) hHeld ?_
  rotate_left 1
  · (intro w hSw; obtain ⟨h1, h2, _⟩ := hSw; have hc := h1.tb.cell; have hb := h2.cell; go_simp; try with_reducible rfl)
  try simp only [Act.put, List.getElem_toArray, List.getElem_cons_zero, List.getElem_cons_succ, List.setIfInBounds_toArray, List.set_cons_zero, List.set_cons_succ]
  refine wpAnyL_take (i := 2) (v := ?_) rfl (by kernel_rfl) (by kernel_rfl) (by kernel_rfl) (by kernel_rfl) (fun _ _ _ h => h) (Or.inl ⟨by rfl, ?_⟩) hHeld ?_
  rotate_left 1
  · (intro w hSw; obtain ⟨h1, h2, _⟩ := hSw; have hc := h1.tb.cell; have hb := h2.cell; go_simp; try with_reducible rfl)
  try simp only [Act.put, List.getElem_toArray, List.getElem_cons_zero, List.getElem_cons_succ, List.setIfInBounds_toArray, List.set_cons_zero, List.set_cons_succ]
  refine wpAnyL_take (i := 3) (v := ?_) rfl (by kernel_rfl) (by kernel_rfl) (by kernel_rfl) (by kernel_rfl) (fun _ _ _ h => h) (Or.inl ⟨by rfl, ?_⟩) hHeld ?_
  rotate_left 1
  · (intro w hSw; obtain ⟨h1, h2, _⟩ := hSw; have hc := h1.tb.cell; have hb := h2.cell; go_simp; try with_reducible rfl)
  try simp only [Act.put, List.getElem_toArray, List.getElem_cons_zero, List.getElem_cons_succ, List.setIfInBounds_toArray, List.set_cons_zero, List.set_cons_succ]
  refine wpAnyL_take (i := 4) (v := ?_) rfl (by kernel_rfl) (by kernel_rfl) (by kernel_rfl) (by kernel_rfl) (fun _ _ _ h => h) (Or.inl ⟨by rfl, ?_⟩) hHeld ?_
  rotate_left 1
  · (intro w hSw; obtain ⟨h1, h2, _⟩ := hSw; have hc := h1.tb.cell; have hb := h2.cell; go_simp; try with_reducible rfl)
  try simp only [Act.put, List.getElem_toArray, List.getElem_cons_zero, List.getElem_cons_succ, List.setIfInBounds_toArray, List.set_cons_zero, List.set_cons_succ]
  refine wpAnyL_take (i := 5) (v := ?_) rfl (by kernel_rfl) (by kernel_rfl) (by kernel_rfl) (by kernel_rfl) (fun _ _ _ h => h) (Or.inl ⟨by rfl, ?_⟩) hHeld ?_
  rotate_left 1
  · (intro w hSw; obtain ⟨h1, h2, _⟩ := hSw; have hc := h1.tb.cell; have hb := h2.cell; go_simp; try with_reducible rfl)
  try simp only [Act.put, List.getElem_toArray, List.getElem_cons_zero, List.getElem_cons_succ, List.setIfInBounds_toArray, List.set_cons_zero, List.set_cons_succ]
  refine wpAnyL_last (by kernel_rfl) rfl (by kernel_rfl) (fun K hK => ?_)
  obtain ⟨h1, h2, h3, h4, h5, h6, h7⟩ := hHeld
  refine wp_put _ _ _ 59 rfl h1.pm rfl kyR L (fun r' _ hy => HL.out r' hy) HLL.out Tryz.underlying59 r rfl (kyR_ok.2 HR.out) _ rfl (fun w9 hm9 hch9 hsz9 => ?_)
  refine hK.out _ _ ?_
  clear hK K
  refine NoPanic.normal ?_
  clear HST
  go_wp2
  go_ret
  have h := HT.out
  have hps := h1.lt _ _ h1.o3
  have hk : ∀ b tg, s.own b = some tg → tg ≠ .ps → w9.heap[b]? = _ := fun b tg o hne => hch9.block b (h1.lt b tg o) (h1.ne o h1.o3 hne)
  have hlt : ∀ b tg, s.own b = some tg → b < w.heap.size := h.lt
  have old : ∀ b tg, s.own b = some tg → own3 s.own (n + 1) n n (.pl r) (.lh r) (.lh r) b = some tg := fun b tg o => by
    have := hlt b tg o
    rw [own3_old (by omega) (by omega) (by omega)]
    exact o
  refine ⟨⟨s.lb, s.pb, s.lv, upd s.pl r (some ⟨n + 1, n, .slice none 0 0, fun _ => 0, []⟩), own3 s.own (n + 1) n n (.pl r) (.lh r) (.lh r)⟩, _, rfl, ?_, ⟨rfl, fun _ => rfl, rfl⟩, rfl, rfl, ?_⟩
  · refine ⟨h1.tb.keep (hk _ _ h1.o1 (by simp)), h1.lm.keep (hk _ _ h1.o2 (by simp)), hm9.congr (fun y => ?_), fun y q hy => ?_, fun r' q hr' => ?_, old _ _ h1.o1, old _ _ h1.o2, old _ _ h1.o3, fun b tg o => ?_⟩
    · simp only [upd]
      split <;> rfl
    · exact ((h1.pt y q hy).keep (fun b o => by rcases o with o | o | o <;> exact hk _ _ o (by simp))).more old
    · by_cases er : r' = r
      · subst er
        simp only [upd_same, Option.some.injEq] at hr'
        subst hr'
        have hpl := hlt _ _ h.o3
        exact ⟨h4.chg hch9 (by omega), (h5.chg hch9 (by omega)).congr (fun _ => rfl), .inl ⟨rfl, rfl⟩, by simp [own3], by simp [own3], fun b e => by simp [Value.ownBlock] at e⟩
      · replace hr' : upd s.pl r _ r' = some q := hr'
        rw [upd_other er] at hr'
        exact ((h1.pl r' q hr').keep (fun b o => by rcases o with o | o | o <;> exact hk _ _ o (by simp))).more old
    · rw [hsz9, h6]
      rcases own3_inv o with rfl | rfl | rfl | o <;> try omega
      have := hlt b tg o
      omega
  · refine ⟨h3.chg.trans (hch9.mono (fun b e => by rw [e, h1.o3]; simp)), old, fun b tg o => ?_⟩
    rcases own3_inv o with rfl | rfl | rfl | o
    · right; omega
    · right; omega
    · right; omega
    · exact .inl o
end Go.Proofs.YtkbgifhhnnfgoaaGreatDoor
