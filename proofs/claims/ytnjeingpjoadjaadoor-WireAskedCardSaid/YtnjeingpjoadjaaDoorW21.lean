/- Wire: counts, numbers, texts, read. -/
import Derived.Test.YtnjeingpjoadjaaDoorW20
namespace Go.Proofs.YtnjeingpjoadjaaDoor
open Go.RowKit

/-- How long what is left is, in memory. -/
def scLen (b : Nat) (w : World) : Nat := match w.cell? ⟨b, 0, none⟩ with | some (.slice _ n _) => n | _ => 0
theorem scLen_of {N : Nat} {w : World} {b : Nat} {l : List Nat} (h : Sc N w b (some l)) : scLen b w = l.length := by
  obtain ⟨p, c, bad, l2, h1, _, _, _, h5, _⟩ := h.form
  have e : l2 = l := by rcases h5 with ⟨_, q⟩ | ⟨_, q⟩; cases q; exact (Option.some.inj q).symm
  subst e
  unfold scLen
  rw [h1.cell]
  rfl
theorem Sc.bad {N : Nat} {w : World} {b : Nat} {s : Option (List Nat)} (h : Sc N w b s) : ∃ p n c, Blk w b 62 [.slice p n c, .bool s.isNone] := by
  obtain ⟨p, c, bad, l, h1, _, _, _, h5, _⟩ := h.form
  rcases h5 with ⟨rfl, rfl⟩ | ⟨rfl, rfl⟩
  · exact ⟨p, l.length, c, h1⟩
  · exact ⟨p, l.length, c, h1⟩
theorem pcG_cons (f : Bool) (n x : Nat) (r : List Nat) : pcG f n (x :: r) = if (f && x == 128) || decide (144115188075855872 ≤ n) then none else if x < 128 then some (n * 128 + x % 128, r) else pcG false (n * 128 + x % 128) r := rfl
set_option maxRecDepth 100000 in
set_option maxHeartbeats 1000000 in
theorem count2_any (N : Nat) (w : World) (b : Nat) (s : Option (List Nat)) (h : Sc N w b s) :
    Calls Tryd.prog 77 #[ptr b] w (GetP N pc (fun _ v n => v = .int .u64 (n : Nat)) (fun _ v => v = .int .u64 0) b w s) := by
  have H0 := hide h
  clear h
  go_enter Tryd.func77, Tryd.ntmps77
  go_wp2_with fail
  go_loopw [3, 4] (fun nv fv wr => ∃ (n : Nat) (f : Bool) (s' : Option (List Nat)), nv = .int .u64 n ∧ fv = .bool f ∧ n < 18446744073709551616 ∧ Sc N wr b s' ∧ Cb b w wr ∧ s.bind pc = s'.bind (pcG f n)) (fun _ _ wr => scLen b wr)
  case atStart => exact ⟨0, true, s, rfl, rfl, by decide, H0.out, Chg.refl _ _, rfl⟩
  case round =>
    obtain ⟨n, f, s', rfl, rfl, hn, hs, hch, he⟩ := hrel
    clear H0
    have KO := hide (octet_any N wr b s' hs)
    have HH := hide (And.intro hn (And.intro hch he))
    have HS := hide hs
    clear hn hs hch he
    go_wp2_with fail
    refine KO.out.mono ?_
    rintro e w1 ⟨v1, rfl, hc1, ⟨x, l', hp, hs1, rfl, hx⟩ | ⟨hp, hs1, rfl⟩⟩
    · obtain ⟨hn, hch, he⟩ := HH.out
      obtain ⟨l, rfl⟩ : ∃ l, s' = some l := by cases s' with | none => cases hp | some l => exact ⟨l, rfl⟩
      obtain rfl : l = x :: l' := by
        cases l with
        | nil => cases hp
        | cons z r => have hp : some (z, r) = some (x, l') := hp; injection hp with hp; injection hp with a1 a2; rw [a1, a2]
      have hpc : s.bind pc = pcG f n (x :: l') := he
      rw [pcG_cons] at hpc
      have hcw := hch.trans hc1
      obtain ⟨p2, n2, c2, b1⟩ := hs1.bad
      have k1 := b1.cell
      have k2 := b1.frozen
      simp only [Option.isNone_some] at k1
      have hm := scLen_of HS.out
      have hm1 := scLen_of hs1
      by_cases hbad : ((f && x == 128) || decide (144115188075855872 ≤ n)) = true
      · rw [if_pos hbad] at hpc
        have hsp := hs1.spoil
        have HF : Hid (GetP N pc (fun _ v n => v = .int .u64 (n : Nat)) (fun _ v => v = .int .u64 0) b w s (.returned (.int .u64 0)) (w1.setCell ⟨b, 1, none⟩ (.bool true))) := ⟨_, rfl, hcw.trans hsp.2, .inr ⟨hpc, hsp.1, rfl⟩⟩
        have hd : (f = true ∧ (((x : Nat) : Int) == 128) = true) ∨ ((f = false ∨ (((x : Nat) : Int) == 128) = false) ∧ decide ((144115188075855871 : Int) < (n : Int)) = true) := by
          by_cases c1 : f = true ∧ x = 128
          · exact .inl ⟨c1.1, beq_iff_eq.2 (by omega)⟩
          · have hn57 : 144115188075855872 ≤ n := by
              rcases Bool.or_eq_true_iff.1 hbad with q | q
              · rw [Bool.and_eq_true] at q
                exact absurd ⟨q.1, beq_iff_eq.1 q.2⟩ c1
              · exact of_decide_eq_true q
            refine .inr ⟨?_, decide_eq_true (by omega)⟩
            by_cases c2 : f = true
            · exact .inr (beq_eq_false_iff_ne.2 (fun q => c1 ⟨c2, by omega⟩))
            · exact .inl (by simpa using c2)
        clear hn hch he hpc hcw b1 hs1 hp hc1 KO HH HS hbad hsp hm hm1
        rcases hd with ⟨rfl, d2⟩ | ⟨rfl | d1, d2⟩
        · skip
          go_wp2_with fail
          go_ret
          exact HF.out
        · skip
          go_wp2_with fail
          go_ret
          exact HF.out
        · cases f with
          | true =>
            skip
            go_wp2_with fail
            go_ret
            exact HF.out
          | false =>
            skip
            go_wp2_with fail
            go_ret
            exact HF.out
      · rw [if_neg hbad] at hpc
        have hd : (f = false ∨ (((x : Nat) : Int) == 128) = false) ∧ decide ((144115188075855871 : Int) < (n : Int)) = false ∧ n < 144115188075855872 := by
          have hb1 : (f && x == 128) = false := by
            cases e : (f && x == 128) with
            | false => rfl
            | true => rw [e] at hbad; exact absurd rfl hbad
          have hn57 : ¬ 144115188075855872 ≤ n := fun q => hbad (by rw [decide_eq_true q, Bool.or_true])
          refine ⟨?_, decide_eq_false (by omega), by omega⟩
          cases f with
          | false => exact .inl rfl
          | true =>
            refine .inr (beq_eq_false_iff_ne.2 (fun q => ?_))
            rw [Bool.true_and] at hb1
            exact beq_eq_false_iff_ne.1 hb1 (by omega)
        have u1 : IntKind.u64.wrap (IntKind.u64.wrap ((n : Int) * 128) + (x : Int) % 128) = ((n * 128 + x % 128 : Nat) : Int) := by rw [IntKind.wrap_u64, IntKind.wrap_u64]; omega
        have HU := hide u1
        have HC := hide hcw
        have HS1 := hide hs1
        have HM : Hid (scLen b w1 < scLen b wr) := by show _ < _; rw [hm, hm1]; simp
        have HN : Hid (n * 128 + x % 128 < 18446744073709551616) := by show _ < _; omega
        by_cases hx2 : x < 128
        · rw [if_pos hx2] at hpc
          have HF : Hid (GetP N pc (fun _ v n => v = .int .u64 (n : Nat)) (fun _ v => v = .int .u64 0) b w s (.returned (.int .u64 ((n * 128 + x % 128 : Nat) : Int))) w1) := ⟨_, rfl, hcw, .inl ⟨_, l', hpc, hs1, rfl⟩⟩
          have x3 : (x : Int) < 128 := by omega
          obtain ⟨hd1, hd2, _⟩ := hd
          clear hn hch he hpc hcw b1 hs1 hp hc1 KO HH HS hbad hm hm1 u1 hx hx2
          rcases hd1 with rfl | d1
          · go_wp2_with fail
            try rw [HU.out]
            go_ret
            exact HF.out
          · cases f with
            | true =>
              go_wp2_with fail
              try rw [HU.out]
              go_ret
              exact HF.out
            | false =>
              go_wp2_with fail
              try rw [HU.out]
              go_ret
              exact HF.out
        · rw [if_neg hx2] at hpc
          have HF : Hid (s.bind pc = pcG false (n * 128 + x % 128) l') := hpc
          have x3 : ¬ (x : Int) < 128 := by omega
          obtain ⟨hd1, hd2, _⟩ := hd
          clear hn hch he hpc hcw b1 hs1 hp hc1 KO HH HS hbad hm hm1 u1 hx hx2
          rcases hd1 with rfl | d1
          · go_wp2_with fail
            try rw [HU.out]
            exact ⟨⟨_, false, some l', rfl, rfl, HN.out, HS1.out, HC.out, HF.out⟩, HM.out⟩
          · cases f with
            | true =>
              go_wp2_with fail
              try rw [HU.out]
              exact ⟨⟨_, false, some l', rfl, rfl, HN.out, HS1.out, HC.out, HF.out⟩, HM.out⟩
            | false =>
              go_wp2_with fail
              try rw [HU.out]
              exact ⟨⟨_, false, some l', rfl, rfl, HN.out, HS1.out, HC.out, HF.out⟩, HM.out⟩
    · obtain ⟨hn, hch, he⟩ := HH.out
      obtain ⟨p2, n2, c2, b1⟩ := hs1.bad
      have k1 := b1.cell
      have k2 := b1.frozen
      simp only [Option.isNone_none] at k1
      have hcw := hch.trans hc1
      have hnone : s.bind pc = none := by
        rw [he]
        cases s' with
        | none => rfl
        | some l =>
          cases l with
          | nil => rfl
          | cons z r => cases hp
      have hsp := hs1.spoil
      have HF1 : Hid (GetP N pc (fun _ v n => v = .int .u64 (n : Nat)) (fun _ v => v = .int .u64 0) b w s (.returned (.int .u64 0)) (w1.setCell ⟨b, 1, none⟩ (.bool true))) := ⟨_, rfl, hcw.trans hsp.2, .inr ⟨hnone, hsp.1, rfl⟩⟩
      have HF2 : Hid (GetP N pc (fun _ v n => v = .int .u64 (n : Nat)) (fun _ v => v = .int .u64 0) b w s (.returned (.int .u64 0)) w1) := ⟨_, rfl, hcw, .inr ⟨hnone, hs1, rfl⟩⟩
      clear hn hch he hcw b1 hs1 hp hc1 KO HH HS hnone hsp
      by_cases c1 : (144115188075855871 : Int) < (n : Int)
      · have d2 := decide_eq_true c1
        cases f <;>
        · go_wp2_with fail
          go_ret
          exact HF1.out
      · have d2 := decide_eq_false c1
        cases f <;>
        · go_wp2_with fail
          go_ret
          exact HF2.out
end Go.Proofs.YtnjeingpjoadjaaDoor
