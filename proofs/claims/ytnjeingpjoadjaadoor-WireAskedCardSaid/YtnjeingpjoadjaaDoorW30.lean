/- Wire: the document's body that is being read. -/
import Derived.Test.YtnjeingpjoadjaaDoorW26
namespace Go.Proofs.YtnjeingpjoadjaaDoor
open Go.RowKit

theorem Rb.chgr {w w' : World} {b : Nat} {v u : Value} {l : List Nat} {z : Bool} (h : Rb w v l) (hb : Blk w b 67 [u, .bool z]) (hu : ∀ n, u ≠ bv n) (hc : Cb b w w') : Rb w' v l := by
  obtain ⟨p, cap, rfl, h1, h2, hr⟩ := h
  refine ⟨p, cap, rfl, h1, h2, fun i x hx => ?_⟩
  obtain ⟨g, o, cs, q, e, h3⟩ := hr i x hx
  refine ⟨g, o, cs, q, e, fun j y hj => ?_⟩
  have hcell := h3 j y hj
  have hne : g ≠ b := fun eg => by
    subst eg
    rw [hb.cell] at hcell
    have ey : y = bv x := by
      rw [show cs = [bv x] from e] at hj
      cases j with
      | zero => simpa using hj.symm
      | succ j => simp at hj
    subst ey
    generalize o + i * eB.rel.s + j = k at hcell
    match k, hcell with
    | 0, hcell => simp at hcell; exact hu _ hcell
    | 1, hcell => simp at hcell
    | k + 2, hcell => simp at hcell
  have hl := cell_lt hcell
  unfold World.cell? at hcell ⊢
  rw [hc.block g hl hne]
  exact hcell
def Rc (N : Nat) (w : World) (b : Nat) (s : Option (List Nat)) : Prop := ∃ v bad l, Blk w b 67 [v, .bool bad] ∧ Rb w v l ∧ By l ∧ l.length ≤ 2097152 ∧ (bad = true ∧ s = none ∨ bad = false ∧ s = some l) ∧ Low N v l
theorem Rc.form {N : Nat} {w : World} {b : Nat} {s : Option (List Nat)} (h : Rc N w b s) : ∃ p c bad l, Blk w b 67 [.slice p l.length c, .bool bad] ∧ Rb w (.slice p l.length c) l ∧ By l ∧ l.length ≤ 2097152 ∧ (bad = true ∧ s = none ∨ bad = false ∧ s = some l) ∧ Low N (.slice p l.length c) l := by
  obtain ⟨v, bad, l, h1, h2, h3⟩ := h
  obtain ⟨p, c, rfl⟩ := h2.form
  exact ⟨p, c, bad, l, h1, h2, h3⟩
theorem Rc.G {N : Nat} {w w' : World} {b : Nat} {s : Option (List Nat)} (h : Rc N w b s) (k : Go.Proofs.YtnjeingpjoadjaaDoor.G w w') : Rc N w' b s := by
  obtain ⟨v, bad, l, h1, h2, h3⟩ := h
  exact ⟨v, bad, l, h1.G k, h2.G k, h3⟩
theorem Rc.spoil {N : Nat} {w : World} {b : Nat} {s : Option (List Nat)} (h : Rc N w b s) : Rc N (w.setCell ⟨b, 1, none⟩ (.bool true)) b none ∧ Cb b w (w.setCell ⟨b, 1, none⟩ (.bool true)) := by
  obtain ⟨p, c, bad, l, h1, h2, h3, h4, _, h6⟩ := h.form
  have hc : Cb b w (w.setCell ⟨b, 1, none⟩ (.bool true)) := chg_setCell w _ (.inl rfl)
  exact ⟨⟨_, true, l, h1.set 1 _, h2.chgr h1 (sl_ne _ _ _) hc, h3, h4, .inl ⟨rfl, rfl⟩, h6⟩, hc⟩
theorem Rc.own {N : Nat} {W w w' : World} {b : Nat} {s : Option (List Nat)} {v : Value} (h : Rc N w b s) (hv : ∀ k, v.ownBlock = some k → W.heap.size ≤ k ∧ k ≠ b) (hN : N ≤ W.heap.size) (hc : Chg (fun k => v.ownBlock = some k) w w') : Rc N w' b s := by
  obtain ⟨p, c, bad, l, h1, h2, h3, h4, h5, h6⟩ := h.form
  refine ⟨_, bad, l, h1.chg hc (fun q => (hv b q).2 rfl), ?_, h3, h4, h5, h6⟩
  obtain ⟨p0, c0, e, q1, q2, hr⟩ := h2
  cases e
  refine ⟨p, c, rfl, q1, q2, fun i x hx => ?_⟩
  obtain ⟨g, o, cs, e1, e2, e3⟩ := hr i x hx
  subst e1
  have hg := h6 g o _ _ rfl (fun e0 => by rw [e0] at hx; simp at hx)
  refine ⟨g, o, cs, rfl, e2, fun j u hj => ?_⟩
  have h7 := e3 j u hj
  have h8 := cell_lt h7
  unfold World.cell? at h7 ⊢
  rw [hc.block g h8 (fun q => by have := (hv g q).1; omega)]
  exact h7
def RetP {α : Type} (N : Nat) (p : List Nat → Option (α × List Nat)) (R : World → Value → α → Prop) (J : World → Value → Prop) (b : Nat) (w : World) (s : Option (List Nat)) (e : Ending) (w' : World) : Prop :=
  ∃ v', e = .returned v' ∧ Cb b w w' ∧ ((∃ x l', s.bind p = some (x, l') ∧ Rc N w' b (some l') ∧ R w' v' x) ∨ (s.bind p = none ∧ Rc N w' b none ∧ J w' v'))
theorem Rc.bad {N : Nat} {w : World} {b : Nat} {s : Option (List Nat)} (h : Rc N w b s) : ∃ p n c, Blk w b 67 [.slice p n c, .bool s.isNone] := by
  obtain ⟨p, c, bad, l, h1, _, _, _, h5, _⟩ := h.form
  rcases h5 with ⟨rfl, rfl⟩ | ⟨rfl, rfl⟩
  · exact ⟨p, l.length, c, h1⟩
  · exact ⟨p, l.length, c, h1⟩
theorem RetP.sc {α : Type} {N : Nat} {p : List Nat → Option (α × List Nat)} {R : World → Value → α → Prop} {J : World → Value → Prop} {b : Nat} {w w' : World} {s : Option (List Nat)} {e : Ending} (h : RetP N p R J b w s e w') :
    ∃ v', e = .returned v' ∧ Cb b w w' ∧ Rc N w' b ((s.bind p).map (·.2)) ∧ (∀ x l', s.bind p = some (x, l') → R w' v' x) ∧ (s.bind p = none → J w' v') := by
  obtain ⟨v', h1, h2, ⟨x, l', hp, hs, hr⟩ | ⟨hp, hs, hj⟩⟩ := h
  · exact ⟨v', h1, h2, by rw [hp]; exact hs, (fun y m e => by rw [hp] at e; cases e; exact hr), (fun e => by rw [hp] at e; cases e)⟩
  · exact ⟨v', h1, h2, by rw [hp]; exact hs, (fun y m e => by rw [hp] at e; cases e), fun _ => hj⟩
theorem Rc.far {N : Nat} {F : Nat → Prop} {w w' : World} {b : Nat} {s : Option (List Nat)} (h : Rc N w b s) (hF : ∀ k, F k → N ≤ k ∧ k ≠ b) (hc : Chg F w w') : Rc N w' b s := by
  obtain ⟨p, c, bad, l, h1, h2, h3, h4, h5, h6⟩ := h.form
  refine ⟨_, bad, l, h1.chg hc (fun q => (hF b q).2 rfl), ?_, h3, h4, h5, h6⟩
  obtain ⟨p0, c0, e, q1, q2, hr⟩ := h2
  cases e
  refine ⟨p, c, rfl, q1, q2, fun i x hx => ?_⟩
  obtain ⟨g, o, cs, e1, e2, e3⟩ := hr i x hx
  subst e1
  have hg := h6 g o _ _ rfl (fun e0 => by rw [e0] at hx; simp at hx)
  refine ⟨g, o, cs, rfl, e2, fun j u hj => ?_⟩
  have h7 := e3 j u hj
  have h8 := cell_lt h7
  unfold World.cell? at h7 ⊢
  rw [hc.block g h8 (fun q => by have := (hF g q).1; omega)]
  exact h7
theorem rc_len {N : Nat} {w : World} {b : Nat} {l : List Nat} (h : Rc N w b (some l)) : l.length ≤ 2097152 := by
  obtain ⟨_, _, _, l2, _, _, _, h4, h5, _⟩ := h.form
  rcases h5 with ⟨_, q⟩ | ⟨_, q⟩
  · cases q
  · cases q; exact h4
theorem Sw.cr {α : Type} {E : Enc α} {ty : TypeId} {w w' : World} {b : Nat} {v : Value} {l : List α} {xs : List Value} (h : Sw E ty w v l) (hb : Blk w b 67 xs) (ht : ty ≠ 67) (hc : Cb b w w') : Sw E ty w' v l := h.chg hc (fun k hk e => by subst e; exact h.ne hb ht hk)
theorem Rc.put {N : Nat} {w : World} {b : Nat} {p p' : Option Addr} {c n' c' : Nat} {l l' : List Nat} {bad : Bool} (h1 : Blk w b 67 [.slice p l.length c, .bool bad]) (h2 : Rb w (.slice p' n' c') l') (h3 : By l') (h4 : l'.length ≤ 2097152) (h6 : Low N (.slice p' n' c') l') : Rc N (w.setCell ⟨b, 0, none⟩ (.slice p' n' c')) b (if bad then none else some l') ∧ Cb b w (w.setCell ⟨b, 0, none⟩ (.slice p' n' c')) := by
  have hc : Cb b w (w.setCell ⟨b, 0, none⟩ (.slice p' n' c')) := chg_setCell w _ (.inl rfl)
  refine ⟨⟨_, bad, l', h1.set 0 _, h2.chgr h1 (sl_ne _ _ _) hc, h3, h4, ?_, h6⟩, hc⟩
  cases bad
  · exact .inr ⟨rfl, rfl⟩
  · exact .inl ⟨rfl, rfl⟩
/-- What is left behind the first n, as the slice that the program makes. -/
theorem row_cut {N : Nat} {w : World} {p : Option Addr} {c n : Nat} {l : List Nat} (h2 : Rb w (.slice p l.length c) l) (h6 : Low N (.slice p l.length c) l) (hl : n ≤ l.length) :
    (c = n → Rb w (.slice p (l.length - n) (c - n)) (l.drop n) ∧ Low N (.slice p (l.length - n) (c - n)) (l.drop n)) ∧ (c ≠ n → Rb w (.slice (p.map fun x => x.add n) (l.length - n) (c - n)) (l.drop n) ∧ Low N (.slice (p.map fun x => x.add n) (l.length - n) (c - n)) (l.drop n)) := by
  have hcap := h2.cap.1
  have hl2 : (l.drop n).length = l.length - n := List.length_drop
  constructor
  · intro hnc
    have hl0 : l.drop n = [] := List.drop_of_length_le (by omega)
    exact ⟨⟨p, c - n, by rw [hl2], by rw [hl2]; omega, fun _ => by omega, fun i x hx => by rw [hl0] at hx; simp at hx⟩, fun g o n2 c2 _ q => absurd hl0 q⟩
  · intro hnc
    constructor
    · refine ⟨p.map fun x => x.add n, c - n, by rw [hl2], by rw [hl2]; omega, fun q => ?_, fun i x hx => ?_⟩
      · cases p with
        | some a => cases q
        | none =>
          obtain ⟨p0, c0, ee, _, q0, _⟩ := h2
          cases ee
          have := q0 rfl
          omega
      · rw [List.getElem?_drop] at hx
        obtain ⟨p0, c0, ee, _, q0, hr⟩ := h2
        cases ee
        obtain ⟨g, o, cs, q1, q2, q3⟩ := hr (n + i) x hx
        subst q1
        refine ⟨g, o + n, cs, by simp [Addr.add_mid], q2, ?_⟩
        have e1 : o + (n + i) * eB.rel.s = o + n + i * eB.rel.s := by show o + (n + i) * 1 = o + n + i * 1; omega
        rw [e1] at q3
        exact q3
    · intro g o n2 c2 e q
      cases p with
      | none => cases e
      | some a =>
        have hlne : l ≠ [] := fun e0 => q (by rw [e0]; simp)
        obtain ⟨g0, o0, c0, e0⟩ := h2.addr (List.length_pos_iff.2 hlne)
        cases e0
        have hg := h6 g0 o0 _ _ rfl hlne
        simp [Addr.add_mid] at e
        obtain ⟨⟨e1, _⟩, _⟩ := e
        omega
set_option maxRecDepth 100000 in
set_option maxHeartbeats 1000000 in
theorem byte1_any (N : Nat) (w : World) (b : Nat) (s : Option (List Nat)) (h : Rc N w b s) :
    Calls Tryd.prog 60 #[ptr b] w (RetP N p8 (fun _ v x => v = bv x ∧ x < 256) (fun _ v => ∃ x : Nat, v = bv x ∧ x < 256) b w s) := by
  have hsp := h.spoil
  obtain ⟨p, c, bad, l, h1, h2, h3, h4, h5, h6⟩ := h.form
  have hc := h1.cell
  have hf := h1.frozen
  cases l with
  | nil =>
    have HF : Hid (RetP N p8 (fun _ v x => v = bv x ∧ x < 256) (fun _ v => ∃ x : Nat, v = bv x ∧ x < 256) b w s (.returned (bv 0)) (w.setCell ⟨b, 1, none⟩ (.bool true))) := ⟨_, rfl, hsp.2, .inr ⟨by rcases h5 with ⟨_, q⟩ | ⟨_, q⟩ <;> rw [q] <;> rfl, hsp.1, 0, rfl, by decide⟩⟩
    clear h hsp h1 h2 h3 h4 h5 h6
    go_enter Tryd.func60, Tryd.ntmps60
    go_wp2_with fail
    go_ret
    exact HF.out
  | cons x r =>
    have hcut := row_cut (n := 1) h2 h6 (by simp)
    have hx : x < 256 := h3 x (by simp)
    have hbr : By r := fun y hy => h3 y (by simp [hy])
    have hln : (x :: r).length = r.length + 1 := rfl
    have hfin : ∀ (p' : Option Addr) (n' c' : Nat), Rb w (.slice p' n' c') r ∧ Low N (.slice p' n' c') r → (RetP N p8 (fun _ v x => v = bv x ∧ x < 256) (fun _ v => ∃ x : Nat, v = bv x ∧ x < 256) b w s (.returned (bv x)) (w.setCell ⟨b, 0, none⟩ (.slice p' n' c'))) := fun p' n' c' hr => by
      obtain ⟨q1, q2⟩ := Rc.put h1 hr.1 hbr (by rw [hln] at h4; omega) hr.2
      refine ⟨_, rfl, q2, ?_⟩
      rcases h5 with ⟨rfl, rfl⟩ | ⟨rfl, rfl⟩
      · exact .inr ⟨rfl, q1, x, rfl, hx⟩
      · exact .inl ⟨x, r, rfl, q1, rfl, hx⟩
    obtain ⟨g, o, cc, ee⟩ := h2.addr (by simp)
    cases ee
    have x1 : w.cell? ⟨g, o, none⟩ = some (bv x) := Rb.at h2 (i := 0) (x := x) rfl
    have hcap := h2.cap.1
    rw [hln] at hc hcut hcap
    generalize hm : r.length = m at hc hcut hcap
    have i0 : ((m : Int) + 1 == 0) = false := beq_eq_false_iff_ne.2 (by omega)
    have i1 : (1 : Int) ≤ (m : Int) + 1 := by omega
    have i2 : (0 : Int) < (m : Int) + 1 := by omega
    have i3 : 1 ≤ m + 1 := by omega
    have i4 : m + 1 ≤ c := hcap
    by_cases hc1 : c = 1
    · have HF := hide (hfin _ _ _ (hcut.1 hc1))
      subst hc1
      rw [show m + 1 - 1 = 0 by omega] at HF
      clear h hsp h1 h2 h3 h4 h5 h6 hcut hfin hbr hx hcap hln
      go_enter Tryd.func60, Tryd.ntmps60
      go_wp2_with fail
      go_ret
      exact HF.out
    · have HF := hide (hfin _ _ _ (hcut.2 hc1))
      have i5 : 1 < c := by omega
      have i6 : (1 : Int) ≤ (c : Int) := by omega
      clear h hsp h1 h2 h3 h4 h5 h6 hcut hfin hbr hx hcap hln
      go_enter Tryd.func60, Tryd.ntmps60
      go_wp2_with fail
      go_ret
      exact HF.out
end Go.Proofs.YtnjeingpjoadjaaDoor
