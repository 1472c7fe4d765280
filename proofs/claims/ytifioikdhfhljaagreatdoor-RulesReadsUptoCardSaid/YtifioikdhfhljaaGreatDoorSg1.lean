/- Graphs: ids that rise; keys. -/
import Derived.Test.YtifioikdhfhljaaGreatDoorSg0
namespace Go.Proofs.YtifioikdhfhljaaGreatDoor
open Go.RowKit

theorem srl (i : Nat) : Value.int .i64 ((i : Int) + 1) = Value.int .i64 ((i + 1 : Nat) : Int) := by rw [Int.natCast_succ]
theorem sms {N n : Nat} (h : n < N) : N - ((n : Int) + 1).toNat < N - (n : Int).toNat := by omega
abbrev eI : Enc Int := ⟨fun x => [I x], 1, fun _ => rfl, fun _ u hu => by simp at hu; subst hu; rfl⟩
/-- Above a, each above the one before it. -/
def riseB : Int → List Int → Bool
  | _, [] => true
  | a, x :: l => if x ≤ a then false else riseB x l
theorem riseB_step {a x : Int} {l : List Int} {i : Nat} (h : l[i]? = some x) : riseB a (l.drop i) = if x ≤ a then false else riseB x (l.drop (i + 1)) := by
  obtain ⟨hi, hx⟩ := List.getElem?_eq_some_iff.1 h
  rw [List.drop_eq_getElem_cons hi, hx]
  rfl
set_option maxRecDepth 100000 in
set_option maxHeartbeats 1000000 in
theorem rise_any (a0 : Int) (v : Value) (l : List Int) (w : World) (h : Row eI.rel w v l) (hl : l.length ≤ 4611686018427387904) : Calls Tryz.prog 80 #[I a0, v] w fun e w' => e = .returned (.bool (riseB a0 l)) ∧ w' = w := by
  obtain ⟨p, cap, hv⟩ := h.form
  subst hv
  have H := hide h; have HL := hide hl
  clear h hl
  go_enter Tryz.func80, Tryz.ntmps80
  go_wp2_with fail
  go_loopw [9, 0] (fun iv av wr => ∃ (i : Nat) (a : Int), i ≤ l.length ∧ iv = I (i : Int) ∧ av = I a ∧ riseB a0 l = riseB a (l.drop i) ∧ wr = w) (fun iv _ _ => l.length - (RowKit.intOf iv).toNat)
  case atStart => exact ⟨0, a0, Nat.zero_le _, rfl, rfl, rfl, rfl⟩
  case round =>
    obtain ⟨i, a, hi, rfl, rfl, hr, hwr⟩ := hrel
    subst wr
    have hll := HL.out
    by_cases hlt : i < l.length
    · obtain ⟨x, hx⟩ : ∃ x, l[i]? = some x := ⟨_, List.getElem?_eq_getElem hlt⟩
      obtain ⟨g, o, cap', hv⟩ := H.out.addr (by omega)
      injection hv with hp
      subst hp
      have hc : w.cell? ⟨g, o + i, none⟩ = some (I x) := by
        have := H.out.one hx 0 (u := I x) rfl
        simpa using this
      have iI : (i : Int) < (l.length : Int) := by omega
      have hwi : wrap64 ((i : Int) + 1) = (i : Int) + 1 := by unfold wrap64; omega
      have hstep := riseB_step (a := a) hx
      rw [hstep] at hr
      have HR := hide hr; have HLT := hide hlt; have HWI := hide hwi
      clear hr hstep hlt hi hll hwi hx
      by_cases hxa : x ≤ a
      · have HF : Hid (riseB a0 l = false) := by have := HR.out; rw [if_pos hxa] at this; exact this
        go_wp2_with fail
        go_ret
        exact ⟨by rw [HF.out] <;> rfl, rfl⟩
      · have HF : Hid (riseB a0 l = riseB x (l.drop (i + 1))) := by have := HR.out; rw [if_neg hxa] at this; exact this
        have d1 : decide (x ≤ a) = false := by simp [hxa]
        go_wp2_with fail
        exact ⟨⟨i + 1, x, HLT.out, by rw [HWI.out]; exact srl i, rfl, HF.out, trivial⟩, by rw [HWI.out]; exact sms HLT.out⟩
    · have iI : ¬ (i : Int) < (l.length : Int) := by omega
      have HF : Hid (riseB a0 l = true) := by rw [Hid, hr, List.drop_eq_nil_of_le (by omega)]; rfl
      clear hr hi hll hlt
      go_wp2_with fail
      go_ret
      exact ⟨by rw [HF.out] <;> rfl, rfl⟩
set_option maxRecDepth 100000 in
set_option maxHeartbeats 1000000 in
/-- The document's goodKeys, of a word on names. -/
theorem rkeys_any (nm : ByteArray → Bool) (hN : ∀ (t : ByteArray) (w : World), t.size ≤ maxLen → Calls Tryz.prog 37 #[.string t] w fun e w' => e = .returned (.bool (nm t)) ∧ w' = w) (v : Value) (l : List Pv) (w : World) (h : Row eP.rel w v l) (ho : ∀ p ∈ l, p.ok) (hl : l.length ≤ 4611686018427387904) : Calls Tryz.prog 38 #[v] w fun e w' => e = .returned (.bool (l.all fun p => nm p.key)) ∧ w' = w := by
  obtain ⟨p, cap, hv⟩ := h.form
  subst hv
  have H := hide h; have HL := hide hl; have HO := hide ho; have HN := hide hN
  clear h hl ho hN
  go_enter Tryz.func38, Tryz.ntmps38
  go_wp2_with fail
  go_loopw [3] (fun iv wr => ∃ i : Nat, i ≤ l.length ∧ iv = I (i : Int) ∧ ((l.take i).all fun p => nm p.key) = true ∧ wr = w) (fun iv _ => l.length - (RowKit.intOf iv).toNat)
  case atStart => exact ⟨0, Nat.zero_le _, rfl, rfl, rfl⟩
  case round =>
    obtain ⟨i, hi, rfl, hr, hwr⟩ := hrel
    subst wr
    have hll := HL.out
    by_cases hlt : i < l.length
    · obtain ⟨x, hx⟩ : ∃ x, l[i]? = some x := ⟨_, List.getElem?_eq_getElem hlt⟩
      obtain ⟨g, o, cap', hv⟩ := H.out.addr (by omega)
      injection hv with hp hl9 hc9
      subst hp
      subst hc9
      have hc : w.cell? ⟨g, o + i * 5, none⟩ = some (.string x.key) := by
        have := H.out.one hx 0 (u := .string x.key) rfl
        simpa using this
      have iI : (i : Int) < (l.length : Int) := by omega
      have hwi : wrap64 ((i : Int) + 1) = (i : Int) + 1 := by unfold wrap64; omega
      have HLT := hide hlt; have HWI := hide hwi; have HX := hide hx; have HR := hide hr
      have KN := hide (HN.out x.key w (HO.out x (List.mem_of_getElem? hx)).1)
      clear hlt hwi hx hr hi hll
      cases hn : nm x.key with
      | false =>
        rw [hn] at KN
        have HF : Hid ((l.all fun p => nm p.key) = false) := by
          rw [Hid, List.all_eq_false]
          exact ⟨x, List.mem_of_getElem? HX.out, by simp [hn]⟩
        clear hn
        go_wp2_with (first | (go_at_call 37; (with_reducible refine (KN.out).mono ?_); rintro e w' ⟨rfl, h9⟩; subst w') | fail)
        go_ret
        exact ⟨by rw [HF.out] <;> rfl, rfl⟩
      | true =>
        rw [hn] at KN
        have HF : Hid (((l.take (i + 1)).all fun p => nm p.key) = true) := by
          rw [Hid, List.take_add_one, HX.out, List.all_append, HR.out]
          simp [hn]
        clear hn
        go_wp2_with (first | (go_at_call 37; (with_reducible refine (KN.out).mono ?_); rintro e w' ⟨rfl, h9⟩; subst w') | fail)
        exact ⟨⟨i + 1, HLT.out, by rw [HWI.out]; exact srl i, HF.out, trivial⟩, by rw [HWI.out]; exact sms HLT.out⟩
    · have iI : ¬ (i : Int) < (l.length : Int) := by omega
      have HF : Hid ((l.all fun p => nm p.key) = true) := by rw [Hid, ← hr, List.take_of_length_le (by omega)]
      clear hr hi hll hlt
      go_wp2_with fail
      go_ret
      exact ⟨by rw [HF.out] <;> rfl, rfl⟩
end Go.Proofs.YtifioikdhfhljaaGreatDoor
