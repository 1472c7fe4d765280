/- Wire: the document's lists' counts, numbers, texts, read. -/
import Derived.Test.YtnjeingpjoadjaaDoorW31
namespace Go.Proofs.YtnjeingpjoadjaaDoor
open Go.RowKit

/-- A list's count, read. -/
def pn (l : List Nat) : Option (Nat × List Nat) := (pc l).bind fun x => if x.2.length < x.1 then none else some x
theorem pn_le {l r : List Nat} {n : Nat} (h : pn l = some (n, r)) : n ≤ r.length := by
  unfold pn at h
  cases e : pc l with
  | none => rw [e] at h; cases h
  | some x =>
    rw [e] at h
    have h : (if x.2.length < x.1 then none else some x) = some (n, r) := h
    split at h
    · cases h
    · rename_i hlt; cases h; exact Nat.not_lt.1 hlt
theorem pl_pn {α : Type} (p : List Nat → Option (α × List Nat)) (s : Option (List Nat)) : s.bind (pl p) = (s.bind pn).bind fun x => prep p x.1 x.2 := by
  cases s with
  | none => rfl
  | some l =>
    show pl p l = (pn l).bind _
    unfold pl pn
    cases pc l with
    | none => rfl
    | some x =>
      show (if x.2.length < x.1 then none else prep p x.1 x.2) = (if x.2.length < x.1 then none else some x).bind _
      split <;> rfl
theorem pt_pn (s : Option (List Nat)) : s.bind pt = (s.bind pn).bind fun x => some (strOf (x.2.take x.1), x.2.drop x.1) := by
  cases s with
  | none => rfl
  | some l =>
    show pt l = (pn l).bind _
    unfold pt px pn
    cases pc l with
    | none => rfl
    | some x =>
      show ((if x.1 ≤ x.2.length then some (x.2.take x.1, x.2.drop x.1) else none).map fun z => (strOf z.1, z.2)) = (if x.2.length < x.1 then none else some x).bind _
      by_cases c : x.1 ≤ x.2.length
      · rw [if_pos c, if_neg (by omega)]; rfl
      · rw [if_neg c, if_pos (by omega)]; rfl
set_option maxRecDepth 100000 in
set_option maxHeartbeats 1000000 in
theorem list3_any (N : Nat) (w : World) (b : Nat) (s : Option (List Nat)) (h : Rc N w b s) :
    Calls Tryd.prog 38 #[ptr b] w (RetP N pn (fun _ v n => v = I (n : Nat)) (fun _ v => v = I 0) b w s) := by
  have KC := hide (count3_any N w b s h)
  clear h
  go_enter Tryd.func38, Tryd.ntmps38
  go_wp2_with fail
  refine KC.out.mono ?_
  rintro e w1 ⟨v1, rfl, hc1, ⟨n, l', hp, hs1, rfl⟩ | ⟨hp, hs1, rfl⟩⟩
  · obtain ⟨p, c, bad, l, b1, _, _, hl, h5, _⟩ := hs1.form
    have eb : bad = false ∧ l' = l := by rcases h5 with ⟨_, q⟩ | ⟨q, q2⟩; cases q; exact ⟨q, Option.some.inj q2⟩
    obtain ⟨rfl, rfl⟩ := eb
    have k1 := b1.cell
    have k2 := b1.frozen
    have u1 : IntKind.u64.wrap (l'.length : Int) = (l'.length : Int) := by rw [IntKind.wrap_u64]; omega
    have hpn : s.bind pn = if l'.length < n then none else some (n, l') := by
      cases s with
      | none => cases hp
      | some l => show (pc l).bind _ = _; rw [show pc l = some (n, l') from hp]; rfl
    by_cases c : l'.length < n
    · have i1 : (l'.length : Int) < (n : Int) := by omega
      rw [if_pos c] at hpn
      have hsp := hs1.spoil
      have HF : Hid (RetP N pn (fun _ v n => v = I (n : Nat)) (fun _ v => v = I 0) b w s (.returned (I 0)) (w1.setCell ⟨b, 1, none⟩ (.bool true))) := ⟨_, rfl, hc1.trans hsp.2, .inr ⟨hpn, hsp.1, rfl⟩⟩
      clear hc1 hp hs1 b1 hl h5 hpn hsp c KC
      go_wp2_with fail
      go_ret
      exact HF.out
    · have i1 : ¬ (l'.length : Int) < (n : Int) := by omega
      rw [if_neg c] at hpn
      have HF : Hid (RetP N pn (fun _ v n => v = I (n : Nat)) (fun _ v => v = I 0) b w s (.returned (I n)) w1) := ⟨_, rfl, hc1, .inl ⟨n, l', hpn, hs1, rfl⟩⟩
      have HW : Hid (wrap64 (n : Int) = (n : Int)) := by show _ = _; unfold wrap64; omega
      clear hc1 hp hs1 b1 hl h5 hpn c KC
      go_wp2_with fail
      try rw [HW.out]
      go_ret
      exact HF.out
  · obtain ⟨p2, n2, c2, b1⟩ := hs1.bad
    have k1 := b1.cell
    have k2 := b1.frozen
    simp only [Option.isNone_none] at k1
    have hpn : s.bind pn = none := by
      cases s with
      | none => rfl
      | some l => show (pc l).bind _ = _; rw [show pc l = none from hp]; rfl
    have hsp := hs1.spoil
    have HF : Hid (RetP N pn (fun _ v n => v = I (n : Nat)) (fun _ v => v = I 0) b w s (.returned (I 0)) (w1.setCell ⟨b, 1, none⟩ (.bool true))) := ⟨_, rfl, hc1.trans hsp.2, .inr ⟨hpn, hsp.1, rfl⟩⟩
    clear hc1 hp hs1 b1 hpn hsp KC
    go_wp2_with fail
    go_ret
    exact HF.out
set_option maxRecDepth 100000 in
set_option maxHeartbeats 1000000 in
theorem signed3_any (N : Nat) (w : World) (b : Nat) (s : Option (List Nat)) (h : Rc N w b s) :
    Calls Tryd.prog 36 #[ptr b] w (RetP N pz (fun _ v n => v = I n ∧ R64 n) (fun _ v => ∃ n, v = I n) b w s) := by
  have KC := hide (count3_any N w b s h)
  clear h
  go_enter Tryd.func36, Tryd.ntmps36
  go_wp2_with fail
  refine KC.out.mono ?_
  rintro e w1 ⟨v1, rfl, hc1, ⟨n, l', hp, hs1, rfl⟩ | ⟨hp, hs1, rfl⟩⟩
  · have hn : n < 18446744073709551616 := by
      cases s with
      | none => cases hp
      | some l => exact pc_lt hp
    have HF : Hid (RetP N pz (fun _ v n => v = I n ∧ R64 n) (fun _ v => ∃ n, v = I n) b w s (.returned (I (zag n))) w1) := ⟨_, rfl, hc1, .inl ⟨zag n, l', by
      cases s with
      | none => cases hp
      | some l => show (pc l).map _ = _; rw [show pc l = some (n, l') from hp]; rfl, hs1, rfl, zag_R n hn⟩⟩
    by_cases c : n % 2 = 1
    · have i1 : ((n : Int) % 2 == 1) = true := beq_iff_eq.2 (by omega)
      have HZ : Hid (wrap64 (wrap64 (-wrap64 (IntKind.u64.wrap ((n : Int) / 2))) - 1) = zag n) := by show _ = _; rw [IntKind.wrap_u64]; unfold zag wrap64; rw [if_neg (by omega)]; omega
      clear hc1 hp hs1 KC hn c
      go_wp2_with fail
      rw [HZ.out]
      go_ret
      exact HF.out
    · have i1 : ((n : Int) % 2 == 1) = false := beq_eq_false_iff_ne.2 (by omega)
      have HZ : Hid (wrap64 (IntKind.u64.wrap ((n : Int) / 2)) = zag n) := by show _ = _; rw [IntKind.wrap_u64]; unfold zag wrap64; rw [if_pos (by omega)]; omega
      clear hc1 hp hs1 KC hn c
      go_wp2_with fail
      rw [HZ.out]
      go_ret
      exact HF.out
  · have HF : Hid (RetP N pz (fun _ v n => v = I n ∧ R64 n) (fun _ v => ∃ n, v = I n) b w s (.returned (I 0)) w1) := ⟨_, rfl, hc1, .inr ⟨pz_no s hp, hs1, 0, rfl⟩⟩
    clear hc1 hp hs1 KC
    go_wp2_with fail
    go_ret
    exact HF.out
set_option maxRecDepth 100000 in
set_option maxHeartbeats 1000000 in
theorem text3_any (N : Nat) (w : World) (b : Nat) (s : Option (List Nat)) (h : Rc N w b s) :
    Calls Tryd.prog 31 #[ptr b] w (RetP N pt (fun _ v t => v = .string t) (fun _ v => ∃ t, v = .string t) b w s) := by
  have KC := hide (list3_any N w b s h)
  clear h
  go_enter Tryd.func31, Tryd.ntmps31
  go_wp2_with fail
  refine KC.out.mono ?_
  rintro e w1 ⟨v1, rfl, hc1, hcase⟩
  obtain ⟨n, s1, rfl, hs1, hrel⟩ : ∃ (n : Nat) (s1 : Option (List Nat)), v1 = I n ∧ Rc N w1 b s1 ∧ ((s1 = none ∧ n = 0 ∧ s.bind pt = none) ∨ (∃ l', s1 = some l' ∧ n ≤ l'.length ∧ s.bind pt = some (strOf (l'.take n), l'.drop n))) := by
    rcases hcase with ⟨n, l', hp, hs1, rfl⟩ | ⟨hp, hs1, rfl⟩
    · refine ⟨n, some l', rfl, hs1, .inr ⟨l', rfl, ?_, by rw [pt_pn, hp]; rfl⟩⟩
      cases s with
      | none => cases hp
      | some l => exact pn_le hp
    · exact ⟨0, none, rfl, hs1, .inl ⟨rfl, rfl, by rw [pt_pn, hp]; rfl⟩⟩
  obtain ⟨p, c, bad, l, h1, h2, h3, h4, h5, h6⟩ := hs1.form
  have hnl : n ≤ l.length := by
    rcases hrel with ⟨_, q, _⟩ | ⟨l', q, q2, _⟩
    · omega
    · rcases h5 with ⟨_, q3⟩ | ⟨_, q3⟩
      · rw [q] at q3; cases q3
      · rw [q] at q3; cases q3; exact q2
  have hcut := row_cut (n := n) h2 h6 hnl
  have hcap := h2.cap.1
  have hr1 : Rb w1 (.slice p n c) (l.take n) := Row.pre h2 n hnl
  have hcv := row_str hr1
  have hfin : ∀ (p' : Option Addr) (n' c' : Nat), Rb w1 (.slice p' n' c') (l.drop n) ∧ Low N (.slice p' n' c') (l.drop n) → RetP N pt (fun _ v t => v = .string t) (fun _ v => ∃ t, v = .string t) b w s (.returned (.string (strOf (l.take n)))) (w1.setCell ⟨b, 0, none⟩ (.slice p' n' c')) := fun p' n' c' hr => by
    obtain ⟨q1, q2⟩ := Rc.put h1 hr.1 (fun x hx => h3 x (List.mem_of_mem_drop hx)) (by rw [List.length_drop]; omega) hr.2
    refine ⟨_, rfl, hc1.trans q2, ?_⟩
    rcases hrel with ⟨q, _, q4⟩ | ⟨l', q, _, q4⟩
    · rcases h5 with ⟨rfl, q3⟩ | ⟨rfl, q3⟩
      · exact .inr ⟨q4, q1, _, rfl⟩
      · rw [q] at q3; cases q3
    · rcases h5 with ⟨rfl, q3⟩ | ⟨rfl, q3⟩
      · rw [q] at q3; cases q3
      · rw [q] at q3; cases q3; exact .inl ⟨_, _, q4, q1, rfl⟩
  have k1 := h1.cell
  have k2 := h1.frozen
  have i1 : ¬ (n : Int) < 0 := by omega
  have i2 : (n : Int) ≤ (l.length : Int) := by omega
  have i3 : n ≤ c := by omega
  have i4 : (n : Int) ≤ (c : Int) := by omega
  have i5 : n ≤ l.length := hnl
  by_cases hnc : c = n
  · have HF := hide (hfin _ _ _ (hcut.1 hnc))
    clear hc1 hcase hs1 hrel h1 h2 h3 h4 h5 h6 hnl hcut hcap hr1 hfin KC
    subst hnc
    rw [Nat.sub_self] at HF
    go_wp2_with fail
    go_ret
    exact HF.out
  · have HF := hide (hfin _ _ _ (hcut.2 hnc))
    clear hc1 hcase hs1 hrel h1 h2 h3 h4 h5 h6 hnl hcut hcap hr1 hfin KC
    go_wp2_with fail
    go_ret
    exact HF.out
end Go.Proofs.YtnjeingpjoadjaaDoor
