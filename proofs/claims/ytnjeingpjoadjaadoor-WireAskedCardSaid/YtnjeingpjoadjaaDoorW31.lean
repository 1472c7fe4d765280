/- Wire: the document's counts, read. -/
import Derived.Test.YtnjeingpjoadjaaDoorW30
namespace Go.Proofs.YtnjeingpjoadjaaDoor
open Go.RowKit

theorem pcG_big (n : Nat) (h : 144115188075855872 ≤ n) (l : List Nat) : pcG false n l = none := by
  cases l with
  | nil => rfl
  | cons x r => rw [pcG_cons, decide_eq_true h, Bool.or_true]; rfl
theorem p8_cons {s : Option (List Nat)} {x : Nat} {l' : List Nat} (hp : s.bind p8 = some (x, l')) : s = some (x :: l') := by
  cases s with
  | none => cases hp
  | some l =>
    cases l with
    | nil => cases hp
    | cons z r => have hp : some (z, r) = some (x, l') := hp; injection hp with hp; injection hp with a1 a2; rw [a1, a2]
/-- How great the number is, at least, behind i groups. -/
def lo (i : Nat) : Nat := if i = 0 then 0 else 128 ^ (i - 1)
theorem lo_step {i n x : Nat} (h : lo i ≤ n) (h0 : i = 0 → x ≠ 128) (hx : ¬ x < 128) (hx2 : x < 256) : lo (i + 1) ≤ n * 128 + x % 128 := by
  unfold lo at *
  rw [if_neg (by omega), Nat.add_sub_cancel]
  cases i with
  | zero => have := h0 rfl; show 1 ≤ _; omega
  | succ i =>
    rw [if_neg (by omega), Nat.add_sub_cancel] at h
    rw [Nat.pow_succ]
    generalize 128 ^ i = y at h ⊢
    omega
set_option maxRecDepth 100000 in
set_option maxHeartbeats 1000000 in
theorem count3_any (N : Nat) (w : World) (b : Nat) (s : Option (List Nat)) (h : Rc N w b s) :
    Calls Tryd.prog 59 #[ptr b] w (RetP N pc (fun _ v n => v = .int .u64 (n : Nat)) (fun _ v => v = .int .u64 0) b w s) := by
  have H0 := hide h
  clear h
  go_enter Tryd.func59, Tryd.ntmps59
  go_wp2_with fail
  go_loopw [3, 4] (fun nv iv wr => ∃ (n i : Nat) (s' : Option (List Nat)), nv = .int .u64 n ∧ iv = I i ∧ i ≤ 10 ∧ lo i ≤ n ∧ n < 18446744073709551616 ∧ Rc N wr b s' ∧ Cb b w wr ∧ s.bind pc = s'.bind (pcG (i == 0) n)) (fun _ iv _ => 10 - (RowKit.intOf iv).toNat)
  case atStart => exact ⟨0, 0, s, rfl, rfl, by decide, by decide, by decide, H0.out, Chg.refl _ _, rfl⟩
  case round =>
    obtain ⟨n, i, s', rfl, rfl, hi, hlo, hn, hs, hch, he⟩ := hrel
    clear H0
    by_cases hlt : i < 10
    · have i1 : (i : Int) < 10 := by omega
      have KO := hide (byte1_any N wr b s' hs)
      have HH := hide (And.intro hn (And.intro hch (And.intro he (And.intro hlo hlt))))
      clear hn hs hch he hi hlo hlt
      go_wp2_with fail
      refine KO.out.mono ?_
      rintro e w1 ⟨v1, rfl, hc1, ⟨x, l', hp, hs1, rfl, hx⟩ | ⟨hp, hs1, x, rfl, hx⟩⟩
      · obtain ⟨hn, hch, he, hlo, hlt⟩ := HH.out
        rw [p8_cons hp] at he
        have hpc : s.bind pc = pcG (i == 0) n (x :: l') := he
        rw [pcG_cons] at hpc
        have hcw := hch.trans hc1
        obtain ⟨p2, n2, c2, b1⟩ := hs1.bad
        have k1 := b1.cell
        have k2 := b1.frozen
        simp only [Option.isNone_some] at k1
        by_cases hbad : (((i == 0) && x == 128) || decide (144115188075855872 ≤ n)) = true
        · rw [if_pos hbad] at hpc
          have hsp := hs1.spoil
          have HF : Hid (RetP N pc (fun _ v n => v = .int .u64 (n : Nat)) (fun _ v => v = .int .u64 0) b w s (.returned (.int .u64 0)) (w1.setCell ⟨b, 1, none⟩ (.bool true))) := ⟨_, rfl, hcw.trans hsp.2, .inr ⟨hpc, hsp.1, rfl⟩⟩
          have hd : (((i : Int) == 0) = true ∧ (((x : Nat) : Int) == 128) = true) ∨ ((((i : Int) == 0) = false ∨ (((x : Nat) : Int) == 128) = false) ∧ decide ((144115188075855872 : Int) ≤ (n : Int)) = true) := by
            by_cases c1 : i = 0 ∧ x = 128
            · exact .inl ⟨beq_iff_eq.2 (by omega), beq_iff_eq.2 (by omega)⟩
            · have hn57 : 144115188075855872 ≤ n := by
                rcases Bool.or_eq_true_iff.1 hbad with q | q
                · rw [Bool.and_eq_true] at q
                  exact absurd ⟨beq_iff_eq.1 q.1, beq_iff_eq.1 q.2⟩ c1
                · exact of_decide_eq_true q
              refine .inr ⟨?_, decide_eq_true (by omega)⟩
              by_cases c2 : i = 0
              · exact .inr (beq_eq_false_iff_ne.2 (fun q => c1 ⟨c2, by omega⟩))
              · exact .inl (beq_eq_false_iff_ne.2 (by omega))
          clear hn hch he hpc hcw b1 hs1 hp hc1 KO HH hbad hsp hlo hlt hx
          rcases hd with ⟨d1, d2⟩ | ⟨d1 | d1, d2⟩
          · go_wp2_with fail
            go_ret
            exact HF.out
          · go_wp2_with fail
            go_ret
            exact HF.out
          · cases d3 : ((i : Int) == 0) with
            | true =>
              go_wp2_with fail
              go_ret
              exact HF.out
            | false =>
              go_wp2_with fail
              go_ret
              exact HF.out
        · rw [if_neg hbad] at hpc
          have hd : (((i : Int) == 0) = false ∨ (((x : Nat) : Int) == 128) = false) ∧ decide ((144115188075855872 : Int) ≤ (n : Int)) = false ∧ n < 144115188075855872 ∧ (i = 0 → x ≠ 128) := by
            have hb1 : ¬ (i = 0 ∧ x = 128) := fun q => hbad (by rw [q.1, q.2]; rfl)
            have hn57 : ¬ 144115188075855872 ≤ n := fun q => hbad (by rw [decide_eq_true q, Bool.or_true])
            refine ⟨?_, decide_eq_false (by omega), by omega, fun q1 q2 => hb1 ⟨q1, q2⟩⟩
            by_cases c2 : i = 0
            · exact .inr (beq_eq_false_iff_ne.2 (fun q => hb1 ⟨c2, by omega⟩))
            · exact .inl (beq_eq_false_iff_ne.2 (by omega))
          have u1 : IntKind.u64.wrap (IntKind.u64.wrap ((n : Int) * 128) + (x : Int) % 128) = ((n * 128 + x % 128 : Nat) : Int) := by rw [IntKind.wrap_u64, IntKind.wrap_u64]; omega
          have HU := hide u1
          have HC := hide hcw
          have HS1 := hide hs1
          have HN : Hid (n * 128 + x % 128 < 18446744073709551616) := by show _ < _; omega
          obtain ⟨hd1, hd2, _, hd4⟩ := hd
          by_cases hx2 : x < 128
          · rw [if_pos hx2] at hpc
            have HF : Hid (RetP N pc (fun _ v n => v = .int .u64 (n : Nat)) (fun _ v => v = .int .u64 0) b w s (.returned (.int .u64 ((n * 128 + x % 128 : Nat) : Int))) w1) := ⟨_, rfl, hcw, .inl ⟨_, l', hpc, hs1, rfl⟩⟩
            have x3 : (x : Int) < 128 := by omega
            clear hn hch he hpc hcw b1 hs1 hp hc1 KO HH hbad u1 hx hx2 hlo hlt hd4
            rcases hd1 with d1 | d1
            · go_wp2_with fail
              try rw [HU.out]
              go_ret
              exact HF.out
            · cases d3 : ((i : Int) == 0) with
              | true =>
                go_wp2_with fail
                try rw [HU.out]
                go_ret
                exact HF.out
              | false =>
                go_wp2_with fail
                try rw [HU.out]
                go_ret
                exact HF.out
          · rw [if_neg hx2] at hpc
            have HF : Hid (s.bind pc = pcG (i + 1 == 0) (n * 128 + x % 128) l' ∧ lo (i + 1) ≤ n * 128 + x % 128 ∧ i < 10) := ⟨hpc, lo_step hlo hd4 hx2 hx, hlt⟩
            have HW : Hid (wrap64 ((i : Int) + 1) = ((i + 1 : Nat) : Int)) := by show _ = _; unfold wrap64; omega
            have x3 : ¬ (x : Int) < 128 := by omega
            clear hn hch he hpc hcw b1 hs1 hp hc1 KO HH hbad u1 hx hx2 hlo hlt hd4
            have HE : Hid (∀ (t : Int), t = wrap64 ((i : Int) + 1) → I t = I ((i + 1 : Nat) : Int)) := fun t ht => by rw [ht, HW.out]
            rcases hd1 with d1 | d1
            · go_wp2_with fail
              try rw [HU.out]
              try rw [HW.out]
              exact ⟨⟨_, i + 1, some l', rfl, rfl, HF.out.2.2, HF.out.2.1, HN.out, HS1.out, HC.out, HF.out.1⟩, by simp only [RowKit.intOf]; have := HF.out.2.2; omega⟩
            · cases d3 : ((i : Int) == 0) with
              | true =>
                go_wp2_with fail
                try rw [HU.out]
                try rw [HW.out]
                exact ⟨⟨_, i + 1, some l', rfl, rfl, HF.out.2.2, HF.out.2.1, HN.out, HS1.out, HC.out, HF.out.1⟩, by simp only [RowKit.intOf]; have := HF.out.2.2; omega⟩
              | false =>
                go_wp2_with fail
                try rw [HU.out]
                try rw [HW.out]
                exact ⟨⟨_, i + 1, some l', rfl, rfl, HF.out.2.2, HF.out.2.1, HN.out, HS1.out, HC.out, HF.out.1⟩, by simp only [RowKit.intOf]; have := HF.out.2.2; omega⟩
      · obtain ⟨hn, hch, he, hlo, hlt⟩ := HH.out
        obtain ⟨p2, n2, c2, b1⟩ := hs1.bad
        have k1 := b1.cell
        have k2 := b1.frozen
        simp only [Option.isNone_none] at k1
        have hcw := hch.trans hc1
        have hnone : s.bind pc = none := by
          rw [he]
          cases s' with
          | none => rfl
          | some l =>
            cases l with
            | nil => rfl
            | cons z r => cases hp
        have hsp := hs1.spoil
        have HF1 : Hid (RetP N pc (fun _ v n => v = .int .u64 (n : Nat)) (fun _ v => v = .int .u64 0) b w s (.returned (.int .u64 0)) (w1.setCell ⟨b, 1, none⟩ (.bool true))) := ⟨_, rfl, hcw.trans hsp.2, .inr ⟨hnone, hsp.1, rfl⟩⟩
        clear hn hch he hcw b1 hs1 hp hc1 KO HH hnone hsp hlo hlt hx
        go_wp2_with fail
        go_ret
        exact HF1.out
    · have i1 : ¬ (i : Int) < 10 := by omega
      have ei : i = 10 := by omega
      subst ei
      have hnone : s.bind pc = none := by
        rw [he]
        cases s' with
        | none => rfl
        | some l => exact pcG_big n (Nat.le_trans (by decide) hlo) l
      have hsp := hs.spoil
      obtain ⟨p2, n2, c2, b1⟩ := hs.bad
      have k1 := b1.cell
      have k2 := b1.frozen
      have HF1 : Hid (RetP N pc (fun _ v n => v = .int .u64 (n : Nat)) (fun _ v => v = .int .u64 0) b w s (.returned (.int .u64 0)) (wr.setCell ⟨b, 1, none⟩ (.bool true))) := ⟨_, rfl, hch.trans hsp.2, .inr ⟨hnone, hsp.1, rfl⟩⟩
      clear hn hch he b1 hs hnone hsp hlo hlt hi i1
      go_wp2_with fail
      go_ret
      exact HF1.out
end Go.Proofs.YtnjeingpjoadjaaDoor
