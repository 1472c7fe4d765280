/- Wire: the document's lists' counts, numbers, texts, read. -/
import Derived.Test.YtcdjjmjhdoanlaaDoorW26
namespace Go.Proofs.YtcdjjmjhdoanlaaDoor
section
section
open Go.RowKit

theorem Rb.chgr {w w' : World} {b : Nat} {v u : Value} {l : List Nat} {z : Bool} (h : Rb w v l) (hb : Blk w b 49 [u, .bool z]) (hu : ∀ n, u ≠ bv n) (hc : Cb b w w') : Rb w' v l := by
  obtain ⟨p, cap, rfl, h1, h2, hr⟩ := h
  refine ⟨p, cap, rfl, h1, h2, fun i x hx => ?_⟩
  obtain ⟨g, o, cs, q, e, h3⟩ := hr i x hx
  refine ⟨g, o, cs, q, e, fun j y hj => ?_⟩
  have hcell := h3 j y hj
  have hne : g ≠ b := fun eg => by
    subst eg
    rw [hb.cell] at hcell
    have ey : y = bv x := by
      rw [show cs = [bv x] from e] at hj
      cases j with
      | zero => simpa using hj.symm
      | succ j => simp at hj
    subst ey
    generalize o + i * eB.rel.s + j = k at hcell
    match k, hcell with
    | 0, hcell => simp at hcell; exact hu _ hcell
    | 1, hcell => simp at hcell
    | k + 2, hcell => simp at hcell
  have hl := cell_lt hcell
  unfold World.cell? at hcell ⊢
  rw [hc.block g hl hne]
  exact hcell
def Rc (N : Nat) (w : World) (b : Nat) (s : Option (List Nat)) : Prop := ∃ v bad l, Blk w b 49 [v, .bool bad] ∧ Rb w v l ∧ By l ∧ l.length ≤ 2097152 ∧ (bad = true ∧ s = none ∨ bad = false ∧ s = some l) ∧ Low N v l
theorem Rc.form {N : Nat} {w : World} {b : Nat} {s : Option (List Nat)} (h : Rc N w b s) : ∃ p c bad l, Blk w b 49 [.slice p l.length c, .bool bad] ∧ Rb w (.slice p l.length c) l ∧ By l ∧ l.length ≤ 2097152 ∧ (bad = true ∧ s = none ∨ bad = false ∧ s = some l) ∧ Low N (.slice p l.length c) l := by
  obtain ⟨v, bad, l, h1, h2, h3⟩ := h
  obtain ⟨p, c, rfl⟩ := h2.form
  exact ⟨p, c, bad, l, h1, h2, h3⟩
theorem Rc.G {N : Nat} {w w' : World} {b : Nat} {s : Option (List Nat)} (h : Rc N w b s) (k : Go.Proofs.YtcdjjmjhdoanlaaDoor.G w w') : Rc N w' b s := by
  obtain ⟨v, bad, l, h1, h2, h3⟩ := h
  exact ⟨v, bad, l, h1.G k, h2.G k, h3⟩
theorem Rc.spoil {N : Nat} {w : World} {b : Nat} {s : Option (List Nat)} (h : Rc N w b s) : Rc N (w.setCell ⟨b, 1, none⟩ (.bool true)) b none ∧ Cb b w (w.setCell ⟨b, 1, none⟩ (.bool true)) := by
  obtain ⟨p, c, bad, l, h1, h2, h3, h4, _, h6⟩ := h.form
  have hc : Cb b w (w.setCell ⟨b, 1, none⟩ (.bool true)) := chg_setCell w _ (.inl rfl)
  exact ⟨⟨_, true, l, h1.set 1 _, h2.chgr h1 (sl_ne _ _ _) hc, h3, h4, .inl ⟨rfl, rfl⟩, h6⟩, hc⟩
theorem Rc.own {N : Nat} {W w w' : World} {b : Nat} {s : Option (List Nat)} {v : Value} (h : Rc N w b s) (hv : ∀ k, v.ownBlock = some k → W.heap.size ≤ k ∧ k ≠ b) (hN : N ≤ W.heap.size) (hc : Chg (fun k => v.ownBlock = some k) w w') : Rc N w' b s := by
  obtain ⟨p, c, bad, l, h1, h2, h3, h4, h5, h6⟩ := h.form
  refine ⟨_, bad, l, h1.chg hc (fun q => (hv b q).2 rfl), ?_, h3, h4, h5, h6⟩
  obtain ⟨p0, c0, e, q1, q2, hr⟩ := h2
  cases e
  refine ⟨p, c, rfl, q1, q2, fun i x hx => ?_⟩
  obtain ⟨g, o, cs, e1, e2, e3⟩ := hr i x hx
  subst e1
  have hg := h6 g o _ _ rfl (fun e0 => by rw [e0] at hx; simp at hx)
  refine ⟨g, o, cs, rfl, e2, fun j u hj => ?_⟩
  have h7 := e3 j u hj
  have h8 := cell_lt h7
  unfold World.cell? at h7 ⊢
  rw [hc.block g h8 (fun q => by have := (hv g q).1; omega)]
  exact h7
def RetP {α : Type} (N : Nat) (p : List Nat → Option (α × List Nat)) (R : World → Value → α → Prop) (J : World → Value → Prop) (b : Nat) (w : World) (s : Option (List Nat)) (e : Ending) (w' : World) : Prop :=
  ∃ v', e = .returned v' ∧ Cb b w w' ∧ ((∃ x l', s.bind p = some (x, l') ∧ Rc N w' b (some l') ∧ R w' v' x) ∨ (s.bind p = none ∧ Rc N w' b none ∧ J w' v'))
theorem Rc.bad {N : Nat} {w : World} {b : Nat} {s : Option (List Nat)} (h : Rc N w b s) : ∃ p n c, Blk w b 49 [.slice p n c, .bool s.isNone] := by
  obtain ⟨p, c, bad, l, h1, _, _, _, h5, _⟩ := h.form
  rcases h5 with ⟨rfl, rfl⟩ | ⟨rfl, rfl⟩
  · exact ⟨p, l.length, c, h1⟩
  · exact ⟨p, l.length, c, h1⟩
theorem RetP.sc {α : Type} {N : Nat} {p : List Nat → Option (α × List Nat)} {R : World → Value → α → Prop} {J : World → Value → Prop} {b : Nat} {w w' : World} {s : Option (List Nat)} {e : Ending} (h : RetP N p R J b w s e w') :
    ∃ v', e = .returned v' ∧ Cb b w w' ∧ Rc N w' b ((s.bind p).map (·.2)) ∧ (∀ x l', s.bind p = some (x, l') → R w' v' x) ∧ (s.bind p = none → J w' v') := by
  obtain ⟨v', h1, h2, ⟨x, l', hp, hs, hr⟩ | ⟨hp, hs, hj⟩⟩ := h
  · exact ⟨v', h1, h2, by rw [hp]; exact hs, (fun y m e => by rw [hp] at e; cases e; exact hr), (fun e => by rw [hp] at e; cases e)⟩
  · exact ⟨v', h1, h2, by rw [hp]; exact hs, (fun y m e => by rw [hp] at e; cases e), fun _ => hj⟩
theorem Rc.far {N : Nat} {F : Nat → Prop} {w w' : World} {b : Nat} {s : Option (List Nat)} (h : Rc N w b s) (hF : ∀ k, F k → N ≤ k ∧ k ≠ b) (hc : Chg F w w') : Rc N w' b s := by
  obtain ⟨p, c, bad, l, h1, h2, h3, h4, h5, h6⟩ := h.form
  refine ⟨_, bad, l, h1.chg hc (fun q => (hF b q).2 rfl), ?_, h3, h4, h5, h6⟩
  obtain ⟨p0, c0, e, q1, q2, hr⟩ := h2
  cases e
  refine ⟨p, c, rfl, q1, q2, fun i x hx => ?_⟩
  obtain ⟨g, o, cs, e1, e2, e3⟩ := hr i x hx
  subst e1
  have hg := h6 g o _ _ rfl (fun e0 => by rw [e0] at hx; simp at hx)
  refine ⟨g, o, cs, rfl, e2, fun j u hj => ?_⟩
  have h7 := e3 j u hj
  have h8 := cell_lt h7
  unfold World.cell? at h7 ⊢
  rw [hc.block g h8 (fun q => by have := (hF g q).1; omega)]
  exact h7
theorem rc_len {N : Nat} {w : World} {b : Nat} {l : List Nat} (h : Rc N w b (some l)) : l.length ≤ 2097152 := by
  obtain ⟨_, _, _, l2, _, _, _, h4, h5, _⟩ := h.form
  rcases h5 with ⟨_, q⟩ | ⟨_, q⟩
  · cases q
  · cases q; exact h4
theorem Sw.cr {α : Type} {E : Enc α} {ty : TypeId} {w w' : World} {b : Nat} {v : Value} {l : List α} {xs : List Value} (h : Sw E ty w v l) (hb : Blk w b 49 xs) (ht : ty ≠ 49) (hc : Cb b w w') : Sw E ty w' v l := h.chg hc (fun k hk e => by subst e; exact h.ne hb ht hk)
theorem Rc.put {N : Nat} {w : World} {b : Nat} {p p' : Option Addr} {c n' c' : Nat} {l l' : List Nat} {bad : Bool} (h1 : Blk w b 49 [.slice p l.length c, .bool bad]) (h2 : Rb w (.slice p' n' c') l') (h3 : By l') (h4 : l'.length ≤ 2097152) (h6 : Low N (.slice p' n' c') l') : Rc N (w.setCell ⟨b, 0, none⟩ (.slice p' n' c')) b (if bad then none else some l') ∧ Cb b w (w.setCell ⟨b, 0, none⟩ (.slice p' n' c')) := by
  have hc : Cb b w (w.setCell ⟨b, 0, none⟩ (.slice p' n' c')) := chg_setCell w _ (.inl rfl)
  refine ⟨⟨_, bad, l', h1.set 0 _, h2.chgr h1 (sl_ne _ _ _) hc, h3, h4, ?_, h6⟩, hc⟩
  cases bad
  · exact .inr ⟨rfl, rfl⟩
  · exact .inl ⟨rfl, rfl⟩
/-- What is left behind the first n, as the slice that the program makes. -/
theorem row_cut {N : Nat} {w : World} {p : Option Addr} {c n : Nat} {l : List Nat} (h2 : Rb w (.slice p l.length c) l) (h6 : Low N (.slice p l.length c) l) (hl : n ≤ l.length) :
    (c = n → Rb w (.slice p (l.length - n) (c - n)) (l.drop n) ∧ Low N (.slice p (l.length - n) (c - n)) (l.drop n)) ∧ (c ≠ n → Rb w (.slice (p.map fun x => x.add n) (l.length - n) (c - n)) (l.drop n) ∧ Low N (.slice (p.map fun x => x.add n) (l.length - n) (c - n)) (l.drop n)) := by
  have hcap := h2.cap.1
  have hl2 : (l.drop n).length = l.length - n := List.length_drop
  constructor
  · intro hnc
    have hl0 : l.drop n = [] := List.drop_of_length_le (by omega)
    exact ⟨⟨p, c - n, by rw [hl2], by rw [hl2]; omega, fun _ => by omega, fun i x hx => by rw [hl0] at hx; simp at hx⟩, fun g o n2 c2 _ q => absurd hl0 q⟩
  · intro hnc
    constructor
    · refine ⟨p.map fun x => x.add n, c - n, by rw [hl2], by rw [hl2]; omega, fun q => ?_, fun i x hx => ?_⟩
      · cases p with
        | some a => cases q
        | none =>
          obtain ⟨p0, c0, ee, _, q0, _⟩ := h2
          cases ee
          have := q0 rfl
          omega
      · rw [List.getElem?_drop] at hx
        obtain ⟨p0, c0, ee, _, q0, hr⟩ := h2
        cases ee
        obtain ⟨g, o, cs, q1, q2, q3⟩ := hr (n + i) x hx
        subst q1
        refine ⟨g, o + n, cs, by simp [Addr.add_mid], q2, ?_⟩
        have e1 : o + (n + i) * eB.rel.s = o + n + i * eB.rel.s := by show o + (n + i) * 1 = o + n + i * 1; omega
        rw [e1] at q3
        exact q3
    · intro g o n2 c2 e q
      cases p with
      | none => cases e
      | some a =>
        have hlne : l ≠ [] := fun e0 => q (by rw [e0]; simp)
        obtain ⟨g0, o0, c0, e0⟩ := h2.addr (List.length_pos_iff.2 hlne)
        cases e0
        have hg := h6 g0 o0 _ _ rfl hlne
        simp [Addr.add_mid] at e
        obtain ⟨⟨e1, _⟩, _⟩ := e
        omega
set_option maxRecDepth 100000 in
set_option maxHeartbeats 1000000 in
theorem byte1_any (N : Nat) (w : World) (b : Nat) (s : Option (List Nat)) (h : Rc N w b s) :
    Calls Tryd.prog 49 #[ptr b] w (RetP N p8 (fun _ v x => v = bv x ∧ x < 256) (fun _ v => ∃ x : Nat, v = bv x ∧ x < 256) b w s) := by
  have hsp := h.spoil
  obtain ⟨p, c, bad, l, h1, h2, h3, h4, h5, h6⟩ := h.form
  have hc := h1.cell
  have hf := h1.frozen
  cases l with
  | nil =>
    have HF : Hid (RetP N p8 (fun _ v x => v = bv x ∧ x < 256) (fun _ v => ∃ x : Nat, v = bv x ∧ x < 256) b w s (.returned (bv 0)) (w.setCell ⟨b, 1, none⟩ (.bool true))) := ⟨_, rfl, hsp.2, .inr ⟨by rcases h5 with ⟨_, q⟩ | ⟨_, q⟩ <;> rw [q] <;> rfl, hsp.1, 0, rfl, by decide⟩⟩
    clear h hsp h1 h2 h3 h4 h5 h6
    go_enter Tryd.func49, Tryd.ntmps49
    go_wp2_with fail
    go_ret
    exact HF.out
  | cons x r =>
    have hcut := row_cut (n := 1) h2 h6 (by simp)
    have hx : x < 256 := h3 x (by simp)
    have hbr : By r := fun y hy => h3 y (by simp [hy])
    have hln : (x :: r).length = r.length + 1 := rfl
    have hfin : ∀ (p' : Option Addr) (n' c' : Nat), Rb w (.slice p' n' c') r ∧ Low N (.slice p' n' c') r → (RetP N p8 (fun _ v x => v = bv x ∧ x < 256) (fun _ v => ∃ x : Nat, v = bv x ∧ x < 256) b w s (.returned (bv x)) (w.setCell ⟨b, 0, none⟩ (.slice p' n' c'))) := fun p' n' c' hr => by
      obtain ⟨q1, q2⟩ := Rc.put h1 hr.1 hbr (by rw [hln] at h4; omega) hr.2
      refine ⟨_, rfl, q2, ?_⟩
      rcases h5 with ⟨rfl, rfl⟩ | ⟨rfl, rfl⟩
      · exact .inr ⟨rfl, q1, x, rfl, hx⟩
      · exact .inl ⟨x, r, rfl, q1, rfl, hx⟩
    obtain ⟨g, o, cc, ee⟩ := h2.addr (by simp)
    cases ee
    have x1 : w.cell? ⟨g, o, none⟩ = some (bv x) := Rb.at h2 (i := 0) (x := x) rfl
    have hcap := h2.cap.1
    rw [hln] at hc hcut hcap
    generalize hm : r.length = m at hc hcut hcap
    have i0 : ((m : Int) + 1 == 0) = false := beq_eq_false_iff_ne.2 (by omega)
    have i1 : (1 : Int) ≤ (m : Int) + 1 := by omega
    have i2 : (0 : Int) < (m : Int) + 1 := by omega
    have i3 : 1 ≤ m + 1 := by omega
    have i4 : m + 1 ≤ c := hcap
    by_cases hc1 : c = 1
    · have HF := hide (hfin _ _ _ (hcut.1 hc1))
      subst hc1
      rw [show m + 1 - 1 = 0 by omega] at HF
      clear h hsp h1 h2 h3 h4 h5 h6 hcut hfin hbr hx hcap hln
      go_enter Tryd.func49, Tryd.ntmps49
      go_wp2_with fail
      go_ret
      exact HF.out
    · have HF := hide (hfin _ _ _ (hcut.2 hc1))
      have i5 : 1 < c := by omega
      have i6 : (1 : Int) ≤ (c : Int) := by omega
      clear h hsp h1 h2 h3 h4 h5 h6 hcut hfin hbr hx hcap hln
      go_enter Tryd.func49, Tryd.ntmps49
      go_wp2_with fail
      go_ret
      exact HF.out
end
open Go.RowKit

theorem pcG_big (n : Nat) (h : 144115188075855872 ≤ n) (l : List Nat) : pcG false n l = none := by
  cases l with
  | nil => rfl
  | cons x r => rw [pcG_cons, decide_eq_true h, Bool.or_true]; rfl
theorem p8_cons {s : Option (List Nat)} {x : Nat} {l' : List Nat} (hp : s.bind p8 = some (x, l')) : s = some (x :: l') := by
  cases s with
  | none => cases hp
  | some l =>
    cases l with
    | nil => cases hp
    | cons z r => have hp : some (z, r) = some (x, l') := hp; injection hp with hp; injection hp with a1 a2; rw [a1, a2]
/-- How great the number is, at least, behind i groups. -/
def lo (i : Nat) : Nat := if i = 0 then 0 else 128 ^ (i - 1)
theorem lo_step {i n x : Nat} (h : lo i ≤ n) (h0 : i = 0 → x ≠ 128) (hx : ¬ x < 128) (hx2 : x < 256) : lo (i + 1) ≤ n * 128 + x % 128 := by
  unfold lo at *
  rw [if_neg (by omega), Nat.add_sub_cancel]
  cases i with
  | zero => have := h0 rfl; show 1 ≤ _; omega
  | succ i =>
    rw [if_neg (by omega), Nat.add_sub_cancel] at h
    rw [Nat.pow_succ]
    generalize 128 ^ i = y at h ⊢
    omega
set_option maxRecDepth 100000 in
set_option maxHeartbeats 1000000 in
theorem count3_any (N : Nat) (w : World) (b : Nat) (s : Option (List Nat)) (h : Rc N w b s) :
    Calls Tryd.prog 36 #[ptr b] w (RetP N pc (fun _ v n => v = .int .u64 (n : Nat)) (fun _ v => v = .int .u64 0) b w s) := by
  have H0 := hide h
  clear h
  go_enter Tryd.func36, Tryd.ntmps36
  go_wp2_with fail
  go_loopw [3, 4] (fun nv iv wr => ∃ (n i : Nat) (s' : Option (List Nat)), nv = .int .u64 n ∧ iv = I i ∧ i ≤ 10 ∧ lo i ≤ n ∧ n < 18446744073709551616 ∧ Rc N wr b s' ∧ Cb b w wr ∧ s.bind pc = s'.bind (pcG (i == 0) n)) (fun _ iv _ => 10 - (RowKit.intOf iv).toNat)
  case atStart => exact ⟨0, 0, s, rfl, rfl, by decide, by decide, by decide, H0.out, Chg.refl _ _, rfl⟩
  case round =>
    obtain ⟨n, i, s', rfl, rfl, hi, hlo, hn, hs, hch, he⟩ := hrel
    clear H0
    by_cases hlt : i < 10
    · have i1 : (i : Int) < 10 := by omega
      have KO := hide (byte1_any N wr b s' hs)
      have HH := hide (And.intro hn (And.intro hch (And.intro he (And.intro hlo hlt))))
      clear hn hs hch he hi hlo hlt
      go_wp2_with fail
      refine KO.out.mono ?_
      rintro e w1 ⟨v1, rfl, hc1, ⟨x, l', hp, hs1, rfl, hx⟩ | ⟨hp, hs1, x, rfl, hx⟩⟩
      · obtain ⟨hn, hch, he, hlo, hlt⟩ := HH.out
        rw [p8_cons hp] at he
        have hpc : s.bind pc = pcG (i == 0) n (x :: l') := he
        rw [pcG_cons] at hpc
        have hcw := hch.trans hc1
        obtain ⟨p2, n2, c2, b1⟩ := hs1.bad
        have k1 := b1.cell
        have k2 := b1.frozen
        simp only [Option.isNone_some] at k1
        by_cases hbad : (((i == 0) && x == 128) || decide (144115188075855872 ≤ n)) = true
        · rw [if_pos hbad] at hpc
          have hsp := hs1.spoil
          have HF : Hid (RetP N pc (fun _ v n => v = .int .u64 (n : Nat)) (fun _ v => v = .int .u64 0) b w s (.returned (.int .u64 0)) (w1.setCell ⟨b, 1, none⟩ (.bool true))) := ⟨_, rfl, hcw.trans hsp.2, .inr ⟨hpc, hsp.1, rfl⟩⟩
          have hd : (((i : Int) == 0) = true ∧ (((x : Nat) : Int) == 128) = true) ∨ ((((i : Int) == 0) = false ∨ (((x : Nat) : Int) == 128) = false) ∧ decide ((144115188075855872 : Int) ≤ (n : Int)) = true) := by
            by_cases c1 : i = 0 ∧ x = 128
            · exact .inl ⟨beq_iff_eq.2 (by omega), beq_iff_eq.2 (by omega)⟩
            · have hn57 : 144115188075855872 ≤ n := by
                rcases Bool.or_eq_true_iff.1 hbad with q | q
                · rw [Bool.and_eq_true] at q
                  exact absurd ⟨beq_iff_eq.1 q.1, beq_iff_eq.1 q.2⟩ c1
                · exact of_decide_eq_true q
              refine .inr ⟨?_, decide_eq_true (by omega)⟩
              by_cases c2 : i = 0
              · exact .inr (beq_eq_false_iff_ne.2 (fun q => c1 ⟨c2, by omega⟩))
              · exact .inl (beq_eq_false_iff_ne.2 (by omega))
          clear hn hch he hpc hcw b1 hs1 hp hc1 KO HH hbad hsp hlo hlt hx
          rcases hd with ⟨d1, d2⟩ | ⟨d1 | d1, d2⟩
          · go_wp2_with fail
            go_ret
            exact HF.out
          · go_wp2_with fail
            go_ret
            exact HF.out
          · cases d3 : ((i : Int) == 0) with
            | true =>
              go_wp2_with fail
              go_ret
              exact HF.out
            | false =>
              go_wp2_with fail
              go_ret
              exact HF.out
        · rw [if_neg hbad] at hpc
          have hd : (((i : Int) == 0) = false ∨ (((x : Nat) : Int) == 128) = false) ∧ decide ((144115188075855872 : Int) ≤ (n : Int)) = false ∧ n < 144115188075855872 ∧ (i = 0 → x ≠ 128) := by
            have hb1 : ¬ (i = 0 ∧ x = 128) := fun q => hbad (by rw [q.1, q.2]; rfl)
            have hn57 : ¬ 144115188075855872 ≤ n := fun q => hbad (by rw [decide_eq_true q, Bool.or_true])
            refine ⟨?_, decide_eq_false (by omega), by omega, fun q1 q2 => hb1 ⟨q1, q2⟩⟩
            by_cases c2 : i = 0
            · exact .inr (beq_eq_false_iff_ne.2 (fun q => hb1 ⟨c2, by omega⟩))
            · exact .inl (beq_eq_false_iff_ne.2 (by omega))
          have u1 : IntKind.u64.wrap (IntKind.u64.wrap ((n : Int) * 128) + (x : Int) % 128) = ((n * 128 + x % 128 : Nat) : Int) := by rw [IntKind.wrap_u64, IntKind.wrap_u64]; omega
          have HU := hide u1
          have HC := hide hcw
          have HS1 := hide hs1
          have HN : Hid (n * 128 + x % 128 < 18446744073709551616) := by show _ < _; omega
          obtain ⟨hd1, hd2, _, hd4⟩ := hd
          by_cases hx2 : x < 128
          · rw [if_pos hx2] at hpc
            have HF : Hid (RetP N pc (fun _ v n => v = .int .u64 (n : Nat)) (fun _ v => v = .int .u64 0) b w s (.returned (.int .u64 ((n * 128 + x % 128 : Nat) : Int))) w1) := ⟨_, rfl, hcw, .inl ⟨_, l', hpc, hs1, rfl⟩⟩
            have x3 : (x : Int) < 128 := by omega
            clear hn hch he hpc hcw b1 hs1 hp hc1 KO HH hbad u1 hx hx2 hlo hlt hd4
            rcases hd1 with d1 | d1
            · go_wp2_with fail
              try rw [HU.out]
              go_ret
              exact HF.out
            · cases d3 : ((i : Int) == 0) with
              | true =>
                go_wp2_with fail
                try rw [HU.out]
                go_ret
                exact HF.out
              | false =>
                go_wp2_with fail
                try rw [HU.out]
                go_ret
                exact HF.out
          · rw [if_neg hx2] at hpc
            have HF : Hid (s.bind pc = pcG (i + 1 == 0) (n * 128 + x % 128) l' ∧ lo (i + 1) ≤ n * 128 + x % 128 ∧ i < 10) := ⟨hpc, lo_step hlo hd4 hx2 hx, hlt⟩
            have HW : Hid (wrap64 ((i : Int) + 1) = ((i + 1 : Nat) : Int)) := by show _ = _; unfold wrap64; omega
            have x3 : ¬ (x : Int) < 128 := by omega
            clear hn hch he hpc hcw b1 hs1 hp hc1 KO HH hbad u1 hx hx2 hlo hlt hd4
            have HE : Hid (∀ (t : Int), t = wrap64 ((i : Int) + 1) → I t = I ((i + 1 : Nat) : Int)) := fun t ht => by rw [ht, HW.out]
            rcases hd1 with d1 | d1
            · go_wp2_with fail
              try rw [HU.out]
              try rw [HW.out]
              exact ⟨⟨_, i + 1, some l', rfl, rfl, HF.out.2.2, HF.out.2.1, HN.out, HS1.out, HC.out, HF.out.1⟩, by simp only [RowKit.intOf]; have := HF.out.2.2; omega⟩
            · cases d3 : ((i : Int) == 0) with
              | true =>
                go_wp2_with fail
                try rw [HU.out]
                try rw [HW.out]
                exact ⟨⟨_, i + 1, some l', rfl, rfl, HF.out.2.2, HF.out.2.1, HN.out, HS1.out, HC.out, HF.out.1⟩, by simp only [RowKit.intOf]; have := HF.out.2.2; omega⟩
              | false =>
                go_wp2_with fail
                try rw [HU.out]
                try rw [HW.out]
                exact ⟨⟨_, i + 1, some l', rfl, rfl, HF.out.2.2, HF.out.2.1, HN.out, HS1.out, HC.out, HF.out.1⟩, by simp only [RowKit.intOf]; have := HF.out.2.2; omega⟩
      · obtain ⟨hn, hch, he, hlo, hlt⟩ := HH.out
        obtain ⟨p2, n2, c2, b1⟩ := hs1.bad
        have k1 := b1.cell
        have k2 := b1.frozen
        simp only [Option.isNone_none] at k1
        have hcw := hch.trans hc1
        have hnone : s.bind pc = none := by
          rw [he]
          cases s' with
          | none => rfl
          | some l =>
            cases l with
            | nil => rfl
            | cons z r => cases hp
        have hsp := hs1.spoil
        have HF1 : Hid (RetP N pc (fun _ v n => v = .int .u64 (n : Nat)) (fun _ v => v = .int .u64 0) b w s (.returned (.int .u64 0)) (w1.setCell ⟨b, 1, none⟩ (.bool true))) := ⟨_, rfl, hcw.trans hsp.2, .inr ⟨hnone, hsp.1, rfl⟩⟩
        clear hn hch he hcw b1 hs1 hp hc1 KO HH hnone hsp hlo hlt hx
        go_wp2_with fail
        go_ret
        exact HF1.out
    · have i1 : ¬ (i : Int) < 10 := by omega
      have ei : i = 10 := by omega
      subst ei
      have hnone : s.bind pc = none := by
        rw [he]
        cases s' with
        | none => rfl
        | some l => exact pcG_big n (Nat.le_trans (by decide) hlo) l
      have hsp := hs.spoil
      obtain ⟨p2, n2, c2, b1⟩ := hs.bad
      have k1 := b1.cell
      have k2 := b1.frozen
      have HF1 : Hid (RetP N pc (fun _ v n => v = .int .u64 (n : Nat)) (fun _ v => v = .int .u64 0) b w s (.returned (.int .u64 0)) (wr.setCell ⟨b, 1, none⟩ (.bool true))) := ⟨_, rfl, hch.trans hsp.2, .inr ⟨hnone, hsp.1, rfl⟩⟩
      clear hn hch he b1 hs hnone hsp hlo hlt hi i1
      go_wp2_with fail
      go_ret
      exact HF1.out
end
open Go.RowKit

/-- A list's count, read. -/
def pn (l : List Nat) : Option (Nat × List Nat) := (pc l).bind fun x => if x.2.length < x.1 then none else some x
theorem pn_le {l r : List Nat} {n : Nat} (h : pn l = some (n, r)) : n ≤ r.length := by
  unfold pn at h
  cases e : pc l with
  | none => rw [e] at h; cases h
  | some x =>
    rw [e] at h
    have h : (if x.2.length < x.1 then none else some x) = some (n, r) := h
    split at h
    · cases h
    · rename_i hlt; cases h; exact Nat.not_lt.1 hlt
theorem pl_pn {α : Type} (p : List Nat → Option (α × List Nat)) (s : Option (List Nat)) : s.bind (pl p) = (s.bind pn).bind fun x => prep p x.1 x.2 := by
  cases s with
  | none => rfl
  | some l =>
    show pl p l = (pn l).bind _
    unfold pl pn
    cases pc l with
    | none => rfl
    | some x =>
      show (if x.2.length < x.1 then none else prep p x.1 x.2) = (if x.2.length < x.1 then none else some x).bind _
      split <;> rfl
theorem pt_pn (s : Option (List Nat)) : s.bind pt = (s.bind pn).bind fun x => some (strOf (x.2.take x.1), x.2.drop x.1) := by
  cases s with
  | none => rfl
  | some l =>
    show pt l = (pn l).bind _
    unfold pt px pn
    cases pc l with
    | none => rfl
    | some x =>
      show ((if x.1 ≤ x.2.length then some (x.2.take x.1, x.2.drop x.1) else none).map fun z => (strOf z.1, z.2)) = (if x.2.length < x.1 then none else some x).bind _
      by_cases c : x.1 ≤ x.2.length
      · rw [if_pos c, if_neg (by omega)]; rfl
      · rw [if_neg c, if_pos (by omega)]; rfl
set_option maxRecDepth 100000 in
set_option maxHeartbeats 1000000 in
theorem list3_any (N : Nat) (w : World) (b : Nat) (s : Option (List Nat)) (h : Rc N w b s) :
    Calls Tryd.prog 16 #[ptr b] w (RetP N pn (fun _ v n => v = I (n : Nat)) (fun _ v => v = I 0) b w s) := by
  have KC := hide (count3_any N w b s h)
  clear h
  go_enter Tryd.func16, Tryd.ntmps16
  go_wp2_with fail
  refine KC.out.mono ?_
  rintro e w1 ⟨v1, rfl, hc1, ⟨n, l', hp, hs1, rfl⟩ | ⟨hp, hs1, rfl⟩⟩
  · obtain ⟨p, c, bad, l, b1, _, _, hl, h5, _⟩ := hs1.form
    have eb : bad = false ∧ l' = l := by rcases h5 with ⟨_, q⟩ | ⟨q, q2⟩; cases q; exact ⟨q, Option.some.inj q2⟩
    obtain ⟨rfl, rfl⟩ := eb
    have k1 := b1.cell
    have k2 := b1.frozen
    have u1 : IntKind.u64.wrap (l'.length : Int) = (l'.length : Int) := by rw [IntKind.wrap_u64]; omega
    have hpn : s.bind pn = if l'.length < n then none else some (n, l') := by
      cases s with
      | none => cases hp
      | some l => show (pc l).bind _ = _; rw [show pc l = some (n, l') from hp]; rfl
    by_cases c : l'.length < n
    · have i1 : (l'.length : Int) < (n : Int) := by omega
      rw [if_pos c] at hpn
      have hsp := hs1.spoil
      have HF : Hid (RetP N pn (fun _ v n => v = I (n : Nat)) (fun _ v => v = I 0) b w s (.returned (I 0)) (w1.setCell ⟨b, 1, none⟩ (.bool true))) := ⟨_, rfl, hc1.trans hsp.2, .inr ⟨hpn, hsp.1, rfl⟩⟩
      clear hc1 hp hs1 b1 hl h5 hpn hsp c KC
      go_wp2_with fail
      go_ret
      exact HF.out
    · have i1 : ¬ (l'.length : Int) < (n : Int) := by omega
      rw [if_neg c] at hpn
      have HF : Hid (RetP N pn (fun _ v n => v = I (n : Nat)) (fun _ v => v = I 0) b w s (.returned (I n)) w1) := ⟨_, rfl, hc1, .inl ⟨n, l', hpn, hs1, rfl⟩⟩
      have HW : Hid (wrap64 (n : Int) = (n : Int)) := by show _ = _; unfold wrap64; omega
      clear hc1 hp hs1 b1 hl h5 hpn c KC
      go_wp2_with fail
      try rw [HW.out]
      go_ret
      exact HF.out
  · obtain ⟨p2, n2, c2, b1⟩ := hs1.bad
    have k1 := b1.cell
    have k2 := b1.frozen
    simp only [Option.isNone_none] at k1
    have hpn : s.bind pn = none := by
      cases s with
      | none => rfl
      | some l => show (pc l).bind _ = _; rw [show pc l = none from hp]; rfl
    have hsp := hs1.spoil
    have HF : Hid (RetP N pn (fun _ v n => v = I (n : Nat)) (fun _ v => v = I 0) b w s (.returned (I 0)) (w1.setCell ⟨b, 1, none⟩ (.bool true))) := ⟨_, rfl, hc1.trans hsp.2, .inr ⟨hpn, hsp.1, rfl⟩⟩
    clear hc1 hp hs1 b1 hpn hsp KC
    go_wp2_with fail
    go_ret
    exact HF.out
set_option maxRecDepth 100000 in
set_option maxHeartbeats 1000000 in
theorem signed3_any (N : Nat) (w : World) (b : Nat) (s : Option (List Nat)) (h : Rc N w b s) :
    Calls Tryd.prog 13 #[ptr b] w (RetP N pz (fun _ v n => v = I n ∧ R64 n) (fun _ v => ∃ n, v = I n) b w s) := by
  have KC := hide (count3_any N w b s h)
  clear h
  go_enter Tryd.func13, Tryd.ntmps13
  go_wp2_with fail
  refine KC.out.mono ?_
  rintro e w1 ⟨v1, rfl, hc1, ⟨n, l', hp, hs1, rfl⟩ | ⟨hp, hs1, rfl⟩⟩
  · have hn : n < 18446744073709551616 := by
      cases s with
      | none => cases hp
      | some l => exact pc_lt hp
    have HF : Hid (RetP N pz (fun _ v n => v = I n ∧ R64 n) (fun _ v => ∃ n, v = I n) b w s (.returned (I (zag n))) w1) := ⟨_, rfl, hc1, .inl ⟨zag n, l', by
      cases s with
      | none => cases hp
      | some l => show (pc l).map _ = _; rw [show pc l = some (n, l') from hp]; rfl, hs1, rfl, zag_R n hn⟩⟩
    by_cases c : n % 2 = 1
    · have i1 : ((n : Int) % 2 == 1) = true := beq_iff_eq.2 (by omega)
      have HZ : Hid (wrap64 (wrap64 (-wrap64 (IntKind.u64.wrap ((n : Int) / 2))) - 1) = zag n) := by show _ = _; rw [IntKind.wrap_u64]; unfold zag wrap64; rw [if_neg (by omega)]; omega
      clear hc1 hp hs1 KC hn c
      go_wp2_with fail
      rw [HZ.out]
      go_ret
      exact HF.out
    · have i1 : ((n : Int) % 2 == 1) = false := beq_eq_false_iff_ne.2 (by omega)
      have HZ : Hid (wrap64 (IntKind.u64.wrap ((n : Int) / 2)) = zag n) := by show _ = _; rw [IntKind.wrap_u64]; unfold zag wrap64; rw [if_pos (by omega)]; omega
      clear hc1 hp hs1 KC hn c
      go_wp2_with fail
      rw [HZ.out]
      go_ret
      exact HF.out
  · have HF : Hid (RetP N pz (fun _ v n => v = I n ∧ R64 n) (fun _ v => ∃ n, v = I n) b w s (.returned (I 0)) w1) := ⟨_, rfl, hc1, .inr ⟨pz_no s hp, hs1, 0, rfl⟩⟩
    clear hc1 hp hs1 KC
    go_wp2_with fail
    go_ret
    exact HF.out
set_option maxRecDepth 100000 in
set_option maxHeartbeats 1000000 in
theorem text3s_any (N : Nat) (w : World) (b : Nat) (s : Option (List Nat)) (h : Rc N w b s) :
    Calls Tryd.prog 37 #[ptr b] w (RetP N pt (fun _ v t => v = .string t) (fun _ v => v = .string { data := #[] }) b w s) := by
  have KC := hide (list3_any N w b s h)
  clear h
  go_enter Tryd.func37, Tryd.ntmps37
  go_wp2_with fail
  refine KC.out.mono ?_
  rintro e w1 ⟨v1, rfl, hc1, hcase⟩
  obtain ⟨n, s1, rfl, hs1, hrel⟩ : ∃ (n : Nat) (s1 : Option (List Nat)), v1 = I n ∧ Rc N w1 b s1 ∧ ((s1 = none ∧ n = 0 ∧ s.bind pt = none) ∨ (∃ l', s1 = some l' ∧ n ≤ l'.length ∧ s.bind pt = some (strOf (l'.take n), l'.drop n))) := by
    rcases hcase with ⟨n, l', hp, hs1, rfl⟩ | ⟨hp, hs1, rfl⟩
    · refine ⟨n, some l', rfl, hs1, .inr ⟨l', rfl, ?_, by rw [pt_pn, hp]; rfl⟩⟩
      cases s with
      | none => cases hp
      | some l => exact pn_le hp
    · exact ⟨0, none, rfl, hs1, .inl ⟨rfl, rfl, by rw [pt_pn, hp]; rfl⟩⟩
  obtain ⟨p, c, bad, l, h1, h2, h3, h4, h5, h6⟩ := hs1.form
  have hnl : n ≤ l.length := by
    rcases hrel with ⟨_, q, _⟩ | ⟨l', q, q2, _⟩
    · omega
    · rcases h5 with ⟨_, q3⟩ | ⟨_, q3⟩
      · rw [q] at q3; cases q3
      · rw [q] at q3; cases q3; exact q2
  have hcut := row_cut (n := n) h2 h6 hnl
  have hcap := h2.cap.1
  have hr1 : Rb w1 (.slice p n c) (l.take n) := Row.pre h2 n hnl
  have hcv := row_str hr1
  have hfin : ∀ (p' : Option Addr) (n' c' : Nat), Rb w1 (.slice p' n' c') (l.drop n) ∧ Low N (.slice p' n' c') (l.drop n) → RetP N pt (fun _ v t => v = .string t) (fun _ v => v = .string { data := #[] }) b w s (.returned (.string (strOf (l.take n)))) (w1.setCell ⟨b, 0, none⟩ (.slice p' n' c')) := fun p' n' c' hr => by
    obtain ⟨q1, q2⟩ := Rc.put h1 hr.1 (fun x hx => h3 x (List.mem_of_mem_drop hx)) (by rw [List.length_drop]; omega) hr.2
    refine ⟨_, rfl, hc1.trans q2, ?_⟩
    rcases hrel with ⟨q, q0, q4⟩ | ⟨l', q, _, q4⟩
    · rcases h5 with ⟨rfl, q3⟩ | ⟨rfl, q3⟩
      · exact .inr ⟨q4, q1, by rw [q0]; rfl⟩
      · rw [q] at q3; cases q3
    · rcases h5 with ⟨rfl, q3⟩ | ⟨rfl, q3⟩
      · rw [q] at q3; cases q3
      · rw [q] at q3; cases q3; exact .inl ⟨_, _, q4, q1, rfl⟩
  have k1 := h1.cell
  have k2 := h1.frozen
  have i1 : ¬ (n : Int) < 0 := by omega
  have i2 : (n : Int) ≤ (l.length : Int) := by omega
  have i3 : n ≤ c := by omega
  have i4 : (n : Int) ≤ (c : Int) := by omega
  have i5 : n ≤ l.length := hnl
  by_cases hnc : c = n
  · have HF := hide (hfin _ _ _ (hcut.1 hnc))
    clear hc1 hcase hs1 hrel h1 h2 h3 h4 h5 h6 hnl hcut hcap hr1 hfin KC
    subst hnc
    rw [Nat.sub_self] at HF
    go_wp2_with fail
    go_ret
    exact HF.out
  · have HF := hide (hfin _ _ _ (hcut.2 hnc))
    clear hc1 hcase hs1 hrel h1 h2 h3 h4 h5 h6 hnl hcut hcap hr1 hfin KC
    go_wp2_with fail
    go_ret
    exact HF.out
theorem text3_any (N : Nat) (w : World) (b : Nat) (s : Option (List Nat)) (h : Rc N w b s) :
    Calls Tryd.prog 37 #[ptr b] w (RetP N pt (fun _ v t => v = .string t) (fun _ v => ∃ t, v = .string t) b w s) :=
  (text3s_any N w b s h).mono fun _ _ ⟨v, h1, h2, h3⟩ => ⟨v, h1, h2, h3.imp id (fun ⟨a, c, d⟩ => ⟨a, c, _, d⟩)⟩
end Go.Proofs.YtcdjjmjhdoanlaaDoor
