/- Wire: counts, numbers, texts, read. -/
import Derived.Test.YtcdjjmjhdoanlaaGreatDoorW10
namespace Go.Proofs.YtcdjjmjhdoanlaaGreatDoor
section
open Go.RowKit

/-- A count, read. -/
def pcG (fst : Bool) (n : Nat) : List Nat → Option (Nat × List Nat)
  | [] => none
  | x :: r => if (fst && x == 128) || decide (144115188075855872 ≤ n) then none else if x < 128 then some (n * 128 + x % 128, r) else pcG false (n * 128 + x % 128) r
def pc (l : List Nat) : Option (Nat × List Nat) := pcG true 0 l
theorem pcG_lt : ∀ (l : List Nat) (f : Bool) (n m : Nat) (r : List Nat), pcG f n l = some (m, r) → m < 18446744073709551616 ∧ ∃ a, l = a ++ r ∧ a ≠ []
  | [], f, n, m, r, h => by simp [pcG] at h
  | x :: l, f, n, m, r, h => by
    unfold pcG at h
    split at h
    · cases h
    · rename_i hc
      split at h
      · injection h with h
        injection h with h1 h2
        subst h1 h2
        simp at hc
        exact ⟨by omega, [x], rfl, by simp⟩
      · obtain ⟨h1, a, h2, _⟩ := pcG_lt l false _ m r h
        exact ⟨h1, x :: a, by rw [h2]; rfl, by simp⟩
theorem pc_lt {l r : List Nat} {m : Nat} (h : pc l = some (m, r)) : m < 18446744073709551616 := (pcG_lt l true 0 m r h).1
theorem pc_suf {l r : List Nat} {m : Nat} (h : pc l = some (m, r)) : ∃ a, l = a ++ r ∧ a ≠ [] := (pcG_lt l true 0 m r h).2
/-- One byte. -/
def p8 (l : List Nat) : Option (Nat × List Nat) := match l with | [] => none | x :: r => some (x, r)
/-- The first so many bytes. -/
def ptk (n : Nat) (l : List Nat) : Option (List Nat × List Nat) := if n ≤ l.length then some (l.take n, l.drop n) else none
/-- What it holds lies below N. -/
def Low (N : Nat) (v : Value) (l : List Nat) : Prop := ∀ g o n c, v = .slice (some ⟨g, o, none⟩) n c → l ≠ [] → g < N
/-- A source at block b: what is left, unless it is bad. -/
def Sc (N : Nat) (w : World) (b : Nat) (s : Option (List Nat)) : Prop := ∃ v bad l, Blk w b 62 [v, .bool bad] ∧ Rb w v l ∧ By l ∧ l.length ≤ 2097152 ∧ (bad = true ∧ s = none ∨ bad = false ∧ s = some l) ∧ Low N v l
abbrev Cb (b : Nat) := Chg (fun k => k = b)
theorem Rb.chgb {w w' : World} {b : Nat} {v u : Value} {l : List Nat} {z : Bool} (h : Rb w v l) (hb : Blk w b 62 [u, .bool z]) (hu : ∀ n, u ≠ bv n) (hc : Cb b w w') : Rb w' v l := by
  obtain ⟨p, cap, rfl, h1, h2, hr⟩ := h
  refine ⟨p, cap, rfl, h1, h2, fun i x hx => ?_⟩
  obtain ⟨g, o, cs, q, e, h3⟩ := hr i x hx
  refine ⟨g, o, cs, q, e, fun j y hj => ?_⟩
  have hcell := h3 j y hj
  have hne : g ≠ b := fun eg => by
    subst eg
    rw [hb.cell] at hcell
    have ey : y = bv x := by
      rw [show cs = [bv x] from e] at hj
      cases j with
      | zero => simpa using hj.symm
      | succ j => simp at hj
    subst ey
    generalize o + i * eB.rel.s + j = k at hcell
    match k, hcell with
    | 0, hcell => simp at hcell; exact hu _ hcell
    | 1, hcell => simp at hcell
    | k + 2, hcell => simp at hcell
  have hl := cell_lt hcell
  unfold World.cell? at hcell ⊢
  rw [hc.block g hl hne]
  exact hcell
theorem Sc.form {N : Nat} {w : World} {b : Nat} {s : Option (List Nat)} (h : Sc N w b s) : ∃ p c bad l, Blk w b 62 [.slice p l.length c, .bool bad] ∧ Rb w (.slice p l.length c) l ∧ By l ∧ l.length ≤ 2097152 ∧ (bad = true ∧ s = none ∨ bad = false ∧ s = some l) ∧ Low N (.slice p l.length c) l := by
  obtain ⟨v, bad, l, h1, h2, h3⟩ := h
  obtain ⟨p, c, rfl⟩ := h2.form
  exact ⟨p, c, bad, l, h1, h2, h3⟩
theorem sl_ne (p : Option Addr) (n c m : Nat) : Value.slice p n c ≠ bv m := fun h => by cases h
theorem Sc.G {N : Nat} {w w' : World} {b : Nat} {s : Option (List Nat)} (h : Sc N w b s) (k : Go.Proofs.YtcdjjmjhdoanlaaGreatDoor.G w w') : Sc N w' b s := by
  obtain ⟨v, bad, l, h1, h2, h3⟩ := h
  exact ⟨v, bad, l, h1.G k, h2.G k, h3⟩
/-- It becomes bad. -/
theorem Sc.spoil {N : Nat} {w : World} {b : Nat} {s : Option (List Nat)} (h : Sc N w b s) : Sc N (w.setCell ⟨b, 1, none⟩ (.bool true)) b none ∧ Cb b w (w.setCell ⟨b, 1, none⟩ (.bool true)) := by
  obtain ⟨p, c, bad, l, h1, h2, h3, h4, _, h6⟩ := h.form
  have hc : Cb b w (w.setCell ⟨b, 1, none⟩ (.bool true)) := chg_setCell w _ (.inl rfl)
  exact ⟨⟨_, true, l, h1.set 1 _, h2.chgb h1 (sl_ne _ _ _) hc, h3, h4, .inl ⟨rfl, rfl⟩, h6⟩, hc⟩
theorem Sc.put {N : Nat} {w : World} {b : Nat} {p p' : Option Addr} {c n' c' : Nat} {l l' : List Nat} (h1 : Blk w b 62 [.slice p l.length c, .bool false]) (h2 : Rb w (.slice p' n' c') l') (h3 : By l') (h4 : l'.length ≤ 2097152) (h6 : Low N (.slice p' n' c') l') : Sc N (w.setCell ⟨b, 0, none⟩ (.slice p' n' c')) b (some l') ∧ Cb b w (w.setCell ⟨b, 0, none⟩ (.slice p' n' c')) := by
  have hc : Cb b w (w.setCell ⟨b, 0, none⟩ (.slice p' n' c')) := chg_setCell w _ (.inl rfl)
  exact ⟨⟨_, false, l', h1.set 0 _, h2.chgb h1 (sl_ne _ _ _) hc, h3, h4, .inr ⟨rfl, rfl⟩, h6⟩, hc⟩
theorem Sc.own {N : Nat} {W w w' : World} {b : Nat} {s : Option (List Nat)} {v : Value} (h : Sc N w b s) (hv : ∀ k, v.ownBlock = some k → W.heap.size ≤ k ∧ k ≠ b) (hN : N ≤ W.heap.size) (hc : Chg (fun k => v.ownBlock = some k) w w') : Sc N w' b s := by
  obtain ⟨p, c, bad, l, h1, h2, h3, h4, h5, h6⟩ := h.form
  refine ⟨_, bad, l, h1.chg hc (fun q => (hv b q).2 rfl), ?_, h3, h4, h5, h6⟩
  obtain ⟨p0, c0, e, q1, q2, hr⟩ := h2
  cases e
  refine ⟨p, c, rfl, q1, q2, fun i x hx => ?_⟩
  obtain ⟨g, o, cs, e1, e2, e3⟩ := hr i x hx
  subst e1
  have hg := h6 g o _ _ rfl (fun e0 => by rw [e0] at hx; simp at hx)
  refine ⟨g, o, cs, rfl, e2, fun j u hj => ?_⟩
  have h7 := e3 j u hj
  have h8 := cell_lt h7
  unfold World.cell? at h7 ⊢
  rw [hc.block g h8 (fun q => by have := (hv g q).1; omega)]
  exact h7
/-- Bytes in a row. -/
def RbB (w : World) (v : Value) (l : List Nat) : Prop := Rb w v l ∧ By l
/-- A call that reads: p: what it reads; R: how the value tells it; J: what is known of the value where it is bad. -/
def GetP {α : Type} (N : Nat) (p : List Nat → Option (α × List Nat)) (R : World → Value → α → Prop) (J : World → Value → Prop) (b : Nat) (w : World) (s : Option (List Nat)) (e : Ending) (w' : World) : Prop :=
  ∃ v', e = .returned v' ∧ Cb b w w' ∧ ((∃ x l', s.bind p = some (x, l') ∧ Sc N w' b (some l') ∧ R w' v' x) ∨ (s.bind p = none ∧ Sc N w' b none ∧ J w' v'))
set_option maxRecDepth 100000 in
set_option maxHeartbeats 1000000 in
theorem take_any (N : Nat) (w : World) (b : Nat) (s : Option (List Nat)) (n : Nat) (h : Sc N w b s) (hn : n < 18446744073709551616) :
    Calls Tryz.prog 77 #[ptr b, .int .u64 n] w (GetP N (ptk n) RbB (fun _ v => v = .slice none 0 0) b w s) := by
  have hsp := h.spoil
  obtain ⟨p, c, bad, l, h1, h2, h3, h4, h5, h6⟩ := h.form
  have hc := h1.cell
  have hf := h1.frozen
  cases bad with
  | true =>
    have es : s = none := by rcases h5 with ⟨_, q⟩ | ⟨q, _⟩; exact q; cases q
    have HF : Hid (GetP N (ptk n) RbB (fun _ v => v = .slice none 0 0) b w s (.returned (.slice none 0 0)) (w.setCell ⟨b, 1, none⟩ (.bool true))) := ⟨_, rfl, hsp.2, .inr ⟨by rw [es]; rfl, hsp.1, rfl⟩⟩
    clear h hsp h1 h2 h3 h4 h5 es hn h6
    go_enter Tryz.func77, Tryz.ntmps77
    go_wp2_with fail
    go_ret
    exact HF.out
  | false =>
    have es : s = some l := by rcases h5 with ⟨q, _⟩ | ⟨_, q⟩; cases q; exact q
    have uw : IntKind.u64.wrap (l.length : Int) = (l.length : Int) := by rw [IntKind.wrap_u64]; omega
    by_cases hl : n ≤ l.length
    · have i1 : ¬ (l.length : Int) < (n : Int) := by omega
      have i2 : (n : Int) ≤ (l.length : Int) := by omega
      have hcap := h2.cap.1
      have i3 : n ≤ c := by omega
      have i4 : (n : Int) ≤ (c : Int) := by omega
      have i5 : n ≤ l.length := hl
      have hbt : By (l.take n) := fun x hx => h3 x (List.mem_of_mem_take hx)
      have hbd : By (l.drop n) := fun x hx => h3 x (List.mem_of_mem_drop hx)
      have hr1 : Rb w (.slice p n c) (l.take n) := Row.pre h2 n hl
      have hw : ∀ (p' : Option Addr) (n' c' : Nat), Rb w (.slice p' n' c') (l.drop n) → Low N (.slice p' n' c') (l.drop n) → GetP N (ptk n) RbB (fun _ v => v = .slice none 0 0) b w s (.returned (.slice p n c)) (w.setCell ⟨b, 0, none⟩ (.slice p' n' c')) := fun p' n' c' hr hlow => by
        obtain ⟨q1, q2⟩ := Sc.put h1 hr hbd (by rw [List.length_drop]; omega) hlow
        refine ⟨_, rfl, q2, .inl ⟨l.take n, l.drop n, ?_, q1, hr1.chgb h1 (sl_ne _ _ _) q2, hbt⟩⟩
        rw [es]
        show (if n ≤ l.length then some (l.take n, l.drop n) else none) = _
        rw [if_pos hl]
      have i6 : ¬ (n : Int) < 0 := by omega
      have hl2 : (l.drop n).length = l.length - n := List.length_drop
      by_cases hnc : c = n
      · have hl0 : l.drop n = [] := List.drop_of_length_le (by omega)
        have hr0 : Rb w (.slice p (l.length - n) (c - n)) (l.drop n) := ⟨p, c - n, by rw [hl2], by rw [hl2]; omega, fun _ => by omega, fun i x hx => by rw [hl0] at hx; simp at hx⟩
        have HF := hide (hw _ _ _ hr0 (fun g o n2 c2 _ q => absurd hl0 q))
        clear h hsp h1 h2 h3 h4 h5 es hn hl hcap hbt hbd hr1 hw hl0 hr0 hl2 h6
        subst hnc
        rw [Nat.sub_self] at HF
        go_enter Tryz.func77, Tryz.ntmps77
        go_wp2_with fail
        go_ret
        exact HF.out
      · have hr0 : Rb w (.slice (p.map fun x => x.add n) (l.length - n) (c - n)) (l.drop n) := by
          refine ⟨p.map fun x => x.add n, c - n, by rw [hl2], by rw [hl2]; omega, fun q => ?_, fun i x hx => ?_⟩
          · cases p with
            | some a => cases q
            | none =>
              obtain ⟨p0, c0, ee, _, q0, _⟩ := h2
              cases ee
              have := q0 rfl
              omega
          · rw [List.getElem?_drop] at hx
            obtain ⟨p0, c0, ee, _, q0, hr⟩ := h2
            cases ee
            obtain ⟨g, o, cs, q1, q2, q3⟩ := hr (n + i) x hx
            subst q1
            refine ⟨g, o + n, cs, by simp [Addr.add_mid], q2, ?_⟩
            have e1 : o + (n + i) * eB.rel.s = o + n + i * eB.rel.s := by show o + (n + i) * 1 = o + n + i * 1; omega
            rw [e1] at q3
            exact q3
        have HF := hide (hw _ _ _ hr0 (fun g o n2 c2 e q => by
          cases p with
          | none => cases e
          | some a =>
            have hlne : l ≠ [] := fun e0 => q (by rw [e0]; simp)
            obtain ⟨g0, o0, c0, e0⟩ := h2.addr (List.length_pos_iff.2 hlne)
            cases e0
            have hg := h6 g0 o0 _ _ rfl hlne
            simp [Addr.add_mid] at e
            obtain ⟨⟨e1, _⟩, _⟩ := e
            omega))
        clear h hsp h1 h2 h3 h4 h5 es hn hl hcap hbt hbd hr1 hw hr0 hl2 h6
        go_enter Tryz.func77, Tryz.ntmps77
        go_wp2_with fail
        go_ret
        exact HF.out
    · have i1 : (l.length : Int) < (n : Int) := by omega
      have HF : Hid (GetP N (ptk n) RbB (fun _ v => v = .slice none 0 0) b w s (.returned (.slice none 0 0)) (w.setCell ⟨b, 1, none⟩ (.bool true))) := ⟨_, rfl, hsp.2, .inr ⟨by rw [es]; show (if n ≤ l.length then some (l.take n, l.drop n) else none) = _; rw [if_neg hl], hsp.1, rfl⟩⟩
      clear h hsp h1 h2 h3 h4 h5 es hn hl h6
      go_enter Tryz.func77, Tryz.ntmps77
      go_wp2_with fail
      go_ret
      exact HF.out
theorem oct_no (s : Option (List Nat)) (hp : s.bind (ptk 1) = none) : (s.bind p8) = none := by
  cases s with
  | none => rfl
  | some l =>
    cases l with
    | nil => rfl
    | cons z r =>
      exfalso
      have hp : (if 1 ≤ (z :: r).length then some ((z :: r).take 1, (z :: r).drop 1) else none) = none := hp
      rw [if_pos (by simp)] at hp
      cases hp
set_option maxRecDepth 100000 in
set_option maxHeartbeats 1000000 in
theorem octet_any (N : Nat) (w : World) (b : Nat) (s : Option (List Nat)) (h : Sc N w b s) :
    Calls Tryz.prog 93 #[ptr b] w (GetP N p8 (fun _ v x => v = bv x ∧ x < 256) (fun _ v => v = bv 0) b w s) := by
  have KT := hide (take_any N w b s 1 h (by decide))
  clear h
  go_enter Tryz.func93, Tryz.ntmps93
  go_wp2_with fail
  refine KT.out.mono ?_
  rintro e w1 ⟨v1, rfl, hc1, ⟨x, l', hp, hs, hr, hrb⟩ | ⟨hp, hs, rfl⟩⟩
  · obtain ⟨l, rfl⟩ : ∃ l, s = some l := by cases s with | none => cases hp | some l => exact ⟨l, rfl⟩
    have hp : (if 1 ≤ l.length then some (l.take 1, l.drop 1) else none) = some (x, l') := hp
    obtain ⟨z, r, rfl⟩ : ∃ z r, l = z :: r := by
      cases l with
      | nil => simp at hp
      | cons z r => exact ⟨z, r, rfl⟩
    rw [if_pos (by simp)] at hp
    injection hp with hp
    injection hp with hp1 hp2
    have hx : x = [z] := by rw [← hp1]; rfl
    have hl' : l' = r := by rw [← hp2]; rfl
    subst hx hl'
    obtain ⟨g, o, c, ee⟩ := hr.addr (by simp)
    subst ee
    have x1 : w1.cell? ⟨g, o, none⟩ = some (bv z) := by have := Rb.at hr (i := 0) (x := z) rfl; simpa using this
    obtain ⟨p2, c2, bad, l2, b1, _, _, _, b5, _⟩ := hs.form
    have eb : bad = false := by rcases b5 with ⟨_, q⟩ | ⟨q, _⟩; cases q; exact q
    subst eb
    have k1 := b1.cell
    have hz : z < 256 := hrb z (by simp)
    have HF : Hid (GetP N p8 (fun _ v x => v = bv x ∧ x < 256) (fun _ v => v = bv 0) b w (some (z :: l')) (.returned (bv z)) w1) := ⟨_, rfl, hc1, .inl ⟨z, l', rfl, hs, rfl, hz⟩⟩
    clear hc1 hs hr b1 b5 hp1 hp2 KT hz hrb
    go_wp2_with fail
    go_ret
    exact HF.out
  · obtain ⟨p2, c2, bad, l2, b1, _, _, _, b5, _⟩ := hs.form
    have eb : bad = true := by rcases b5 with ⟨q, _⟩ | ⟨_, q⟩; exact q; cases q
    subst eb
    have k1 := b1.cell
    have HF : Hid (GetP N p8 (fun _ v x => v = bv x ∧ x < 256) (fun _ v => v = bv 0) b w s (.returned (bv 0)) w1) := ⟨_, rfl, hc1, .inr ⟨oct_no s hp, hs, rfl⟩⟩
    clear hc1 hs b1 b5 hp KT
    go_wp2_with fail
    go_ret
    exact HF.out
end
open Go.RowKit

/-- How long what is left is, in memory. -/
def scLen (b : Nat) (w : World) : Nat := match w.cell? ⟨b, 0, none⟩ with | some (.slice _ n _) => n | _ => 0
theorem scLen_of {N : Nat} {w : World} {b : Nat} {l : List Nat} (h : Sc N w b (some l)) : scLen b w = l.length := by
  obtain ⟨p, c, bad, l2, h1, _, _, _, h5, _⟩ := h.form
  have e : l2 = l := by rcases h5 with ⟨_, q⟩ | ⟨_, q⟩; cases q; exact (Option.some.inj q).symm
  subst e
  unfold scLen
  rw [h1.cell]
  rfl
theorem Sc.bad {N : Nat} {w : World} {b : Nat} {s : Option (List Nat)} (h : Sc N w b s) : ∃ p n c, Blk w b 62 [.slice p n c, .bool s.isNone] := by
  obtain ⟨p, c, bad, l, h1, _, _, _, h5, _⟩ := h.form
  rcases h5 with ⟨rfl, rfl⟩ | ⟨rfl, rfl⟩
  · exact ⟨p, l.length, c, h1⟩
  · exact ⟨p, l.length, c, h1⟩
theorem pcG_cons (f : Bool) (n x : Nat) (r : List Nat) : pcG f n (x :: r) = if (f && x == 128) || decide (144115188075855872 ≤ n) then none else if x < 128 then some (n * 128 + x % 128, r) else pcG false (n * 128 + x % 128) r := rfl
set_option maxRecDepth 100000 in
set_option maxHeartbeats 1000000 in
theorem count2_any (N : Nat) (w : World) (b : Nat) (s : Option (List Nat)) (h : Sc N w b s) :
    Calls Tryz.prog 76 #[ptr b] w (GetP N pc (fun _ v n => v = .int .u64 (n : Nat)) (fun _ v => v = .int .u64 0) b w s) := by
  have H0 := hide h
  clear h
  go_enter Tryz.func76, Tryz.ntmps76
  go_wp2_with fail
  go_loopw [3, 4] (fun nv fv wr => ∃ (n : Nat) (f : Bool) (s' : Option (List Nat)), nv = .int .u64 n ∧ fv = .bool f ∧ n < 18446744073709551616 ∧ Sc N wr b s' ∧ Cb b w wr ∧ s.bind pc = s'.bind (pcG f n)) (fun _ _ wr => scLen b wr)
  case atStart => exact ⟨0, true, s, rfl, rfl, by decide, H0.out, Chg.refl _ _, rfl⟩
  case round =>
    obtain ⟨n, f, s', rfl, rfl, hn, hs, hch, he⟩ := hrel
    clear H0
    have KO := hide (octet_any N wr b s' hs)
    have HH := hide (And.intro hn (And.intro hch he))
    have HS := hide hs
    clear hn hs hch he
    go_wp2_with fail
    refine KO.out.mono ?_
    rintro e w1 ⟨v1, rfl, hc1, ⟨x, l', hp, hs1, rfl, hx⟩ | ⟨hp, hs1, rfl⟩⟩
    · obtain ⟨hn, hch, he⟩ := HH.out
      obtain ⟨l, rfl⟩ : ∃ l, s' = some l := by cases s' with | none => cases hp | some l => exact ⟨l, rfl⟩
      obtain rfl : l = x :: l' := by
        cases l with
        | nil => cases hp
        | cons z r => have hp : some (z, r) = some (x, l') := hp; injection hp with hp; injection hp with a1 a2; rw [a1, a2]
      have hpc : s.bind pc = pcG f n (x :: l') := he
      rw [pcG_cons] at hpc
      have hcw := hch.trans hc1
      obtain ⟨p2, n2, c2, b1⟩ := hs1.bad
      have k1 := b1.cell
      have k2 := b1.frozen
      simp only [Option.isNone_some] at k1
      have hm := scLen_of HS.out
      have hm1 := scLen_of hs1
      by_cases hbad : ((f && x == 128) || decide (144115188075855872 ≤ n)) = true
      · rw [if_pos hbad] at hpc
        have hsp := hs1.spoil
        have HF : Hid (GetP N pc (fun _ v n => v = .int .u64 (n : Nat)) (fun _ v => v = .int .u64 0) b w s (.returned (.int .u64 0)) (w1.setCell ⟨b, 1, none⟩ (.bool true))) := ⟨_, rfl, hcw.trans hsp.2, .inr ⟨hpc, hsp.1, rfl⟩⟩
        have hd : (f = true ∧ (((x : Nat) : Int) == 128) = true) ∨ ((f = false ∨ (((x : Nat) : Int) == 128) = false) ∧ decide ((144115188075855871 : Int) < (n : Int)) = true) := by
          by_cases c1 : f = true ∧ x = 128
          · exact .inl ⟨c1.1, beq_iff_eq.2 (by omega)⟩
          · have hn57 : 144115188075855872 ≤ n := by
              rcases Bool.or_eq_true_iff.1 hbad with q | q
              · rw [Bool.and_eq_true] at q
                exact absurd ⟨q.1, beq_iff_eq.1 q.2⟩ c1
              · exact of_decide_eq_true q
            refine .inr ⟨?_, decide_eq_true (by omega)⟩
            by_cases c2 : f = true
            · exact .inr (beq_eq_false_iff_ne.2 (fun q => c1 ⟨c2, by omega⟩))
            · exact .inl (by simpa using c2)
        clear hn hch he hpc hcw b1 hs1 hp hc1 KO HH HS hbad hsp hm hm1
        rcases hd with ⟨rfl, d2⟩ | ⟨rfl | d1, d2⟩
        · skip
          go_wp2_with fail
          go_ret
          exact HF.out
        · skip
          go_wp2_with fail
          go_ret
          exact HF.out
        · cases f with
          | true =>
            skip
            go_wp2_with fail
            go_ret
            exact HF.out
          | false =>
            skip
            go_wp2_with fail
            go_ret
            exact HF.out
      · rw [if_neg hbad] at hpc
        have hd : (f = false ∨ (((x : Nat) : Int) == 128) = false) ∧ decide ((144115188075855871 : Int) < (n : Int)) = false ∧ n < 144115188075855872 := by
          have hb1 : (f && x == 128) = false := by
            cases e : (f && x == 128) with
            | false => rfl
            | true => rw [e] at hbad; exact absurd rfl hbad
          have hn57 : ¬ 144115188075855872 ≤ n := fun q => hbad (by rw [decide_eq_true q, Bool.or_true])
          refine ⟨?_, decide_eq_false (by omega), by omega⟩
          cases f with
          | false => exact .inl rfl
          | true =>
            refine .inr (beq_eq_false_iff_ne.2 (fun q => ?_))
            rw [Bool.true_and] at hb1
            exact beq_eq_false_iff_ne.1 hb1 (by omega)
        have u1 : IntKind.u64.wrap (IntKind.u64.wrap ((n : Int) * 128) + (x : Int) % 128) = ((n * 128 + x % 128 : Nat) : Int) := by rw [IntKind.wrap_u64, IntKind.wrap_u64]; omega
        have HU := hide u1
        have HC := hide hcw
        have HS1 := hide hs1
        have HM : Hid (scLen b w1 < scLen b wr) := by show _ < _; rw [hm, hm1]; simp
        have HN : Hid (n * 128 + x % 128 < 18446744073709551616) := by show _ < _; omega
        by_cases hx2 : x < 128
        · rw [if_pos hx2] at hpc
          have HF : Hid (GetP N pc (fun _ v n => v = .int .u64 (n : Nat)) (fun _ v => v = .int .u64 0) b w s (.returned (.int .u64 ((n * 128 + x % 128 : Nat) : Int))) w1) := ⟨_, rfl, hcw, .inl ⟨_, l', hpc, hs1, rfl⟩⟩
          have x3 : (x : Int) < 128 := by omega
          obtain ⟨hd1, hd2, _⟩ := hd
          clear hn hch he hpc hcw b1 hs1 hp hc1 KO HH HS hbad hm hm1 u1 hx hx2
          rcases hd1 with rfl | d1
          · go_wp2_with fail
            try rw [HU.out]
            go_ret
            exact HF.out
          · cases f with
            | true =>
              go_wp2_with fail
              try rw [HU.out]
              go_ret
              exact HF.out
            | false =>
              go_wp2_with fail
              try rw [HU.out]
              go_ret
              exact HF.out
        · rw [if_neg hx2] at hpc
          have HF : Hid (s.bind pc = pcG false (n * 128 + x % 128) l') := hpc
          have x3 : ¬ (x : Int) < 128 := by omega
          obtain ⟨hd1, hd2, _⟩ := hd
          clear hn hch he hpc hcw b1 hs1 hp hc1 KO HH HS hbad hm hm1 u1 hx hx2
          rcases hd1 with rfl | d1
          · go_wp2_with fail
            try rw [HU.out]
            exact ⟨⟨_, false, some l', rfl, rfl, HN.out, HS1.out, HC.out, HF.out⟩, HM.out⟩
          · cases f with
            | true =>
              go_wp2_with fail
              try rw [HU.out]
              exact ⟨⟨_, false, some l', rfl, rfl, HN.out, HS1.out, HC.out, HF.out⟩, HM.out⟩
            | false =>
              go_wp2_with fail
              try rw [HU.out]
              exact ⟨⟨_, false, some l', rfl, rfl, HN.out, HS1.out, HC.out, HF.out⟩, HM.out⟩
    · obtain ⟨hn, hch, he⟩ := HH.out
      obtain ⟨p2, n2, c2, b1⟩ := hs1.bad
      have k1 := b1.cell
      have k2 := b1.frozen
      simp only [Option.isNone_none] at k1
      have hcw := hch.trans hc1
      have hnone : s.bind pc = none := by
        rw [he]
        cases s' with
        | none => rfl
        | some l =>
          cases l with
          | nil => rfl
          | cons z r => cases hp
      have hsp := hs1.spoil
      have HF1 : Hid (GetP N pc (fun _ v n => v = .int .u64 (n : Nat)) (fun _ v => v = .int .u64 0) b w s (.returned (.int .u64 0)) (w1.setCell ⟨b, 1, none⟩ (.bool true))) := ⟨_, rfl, hcw.trans hsp.2, .inr ⟨hnone, hsp.1, rfl⟩⟩
      have HF2 : Hid (GetP N pc (fun _ v n => v = .int .u64 (n : Nat)) (fun _ v => v = .int .u64 0) b w s (.returned (.int .u64 0)) w1) := ⟨_, rfl, hcw, .inr ⟨hnone, hs1, rfl⟩⟩
      clear hn hch he hcw b1 hs1 hp hc1 KO HH HS hnone hsp
      by_cases c1 : (144115188075855871 : Int) < (n : Int)
      · have d2 := decide_eq_true c1
        cases f <;>
        · go_wp2_with fail
          go_ret
          exact HF1.out
      · have d2 := decide_eq_false c1
        cases f <;>
        · go_wp2_with fail
          go_ret
          exact HF2.out
end Go.Proofs.YtcdjjmjhdoanlaaGreatDoor
