/- Tokens: strings, both sides. -/
import Derived.Test.YthpflfkgbapbnaaGreatDoorSx5
import Derived.Test.YthpflfkgbapbnaaGreatDoorRt7
namespace Go.Proofs.YthpflfkgbapbnaaGreatDoor
section
open Go.RowKit

theorem qE_q {c : UInt8} (y : List UInt8) (h : c.toNat = 39) : qE (c :: y) = some 1 := by
  cases y <;> simp [qE, h]
theorem qE_p {c : UInt8} (y : List UInt8) (h : ¬ c.toNat = 39) (h2 : ¬ c.toNat = 92) : qE (c :: y) = (qE y).map (· + 1) := by
  cases y <;> simp [qE, h, h2]
theorem qE_b {c : UInt8} (d : UInt8) (y : List UInt8) (h : c.toNat = 92) : qE (c :: d :: y) = (qE y).map (· + 2) := by
  simp [qE, h]
theorem qE_b1 {c : UInt8} (h : c.toNat = 92) : qE [c] = none := by simp [qE, h]
/-- The place behind the closing quote. -/
def qO (l : List UInt8) (p : Nat) : Option Nat := (qE (l.drop p)).map (p + ·)
theorem qO_e {l : List UInt8} {p : Nat} (h : l.length ≤ p) : qO l p = none := by unfold qO; rw [List.drop_of_length_le h]; rfl
theorem qO_q {l : List UInt8} {p : Nat} {c : UInt8} (h : l[p]? = some c) (hc : c.toNat = 39) : qO l p = some (p + 1) := by unfold qO; rw [drop_at h, qE_q _ hc]; rfl
theorem qO_p {l : List UInt8} {p : Nat} {c : UInt8} (h : l[p]? = some c) (h1 : ¬ c.toNat = 39) (h2 : ¬ c.toNat = 92) : qO l p = qO l (p + 1) := by
  unfold qO; rw [drop_at h, qE_p _ h1 h2]
  cases qE (l.drop (p + 1)) with
  | none => rfl
  | some m => simp; omega
theorem qO_b {l : List UInt8} {p : Nat} {c : UInt8} (h : l[p]? = some c) (hc : c.toNat = 92) : qO l p = qO l (p + 2) := by
  unfold qO; rw [drop_at h]
  cases hd : l[p + 1]? with
  | none =>
    have h1 := List.getElem?_eq_none_iff.1 hd
    rw [List.drop_of_length_le h1, List.drop_of_length_le (by omega), qE_b1 hc]; rfl
  | some d =>
    rw [drop_at hd, qE_b d _ hc]
    cases qE (l.drop (p + 1 + 1)) with
    | none => rfl
    | some m => simp; omega
theorem qO_len {l : List UInt8} {p e : Nat} (h : qO l p = some e) : p < e ∧ e ≤ l.length := by
  unfold qO at h
  cases hq : qE (l.drop p) with
  | none => rw [hq] at h; cases h
  | some m =>
    rw [hq] at h
    have := qE_len _ _ m (Nat.le_refl _) hq
    rw [List.length_drop] at this
    simp only [Option.map_some, Option.some.injEq] at h
    omega
theorem hx_q (d : Nat) (h : d < 16) : ¬ (hx d).toNat = 39 ∧ ¬ (hx d).toNat = 92 := by
  rw [hx_nat d h]; split <;> omega
theorem qE_esc1 (c : UInt8) (y : List UInt8) : qE (esc1 c ++ y) = (qE y).map (· + (esc1 c).length) := by
  have two : ∀ d : UInt8, qE ([92, d] ++ y) = (qE y).map (· + 2) := fun d => qE_b d y rfl
  unfold esc1
  by_cases h1 : c = 92
  · rw [if_pos h1]; exact two _
  rw [if_neg h1]
  by_cases h2 : c = 39
  · rw [if_pos h2]; exact two _
  rw [if_neg h2]
  by_cases h3 : c = 10
  · rw [if_pos h3]; exact two _
  rw [if_neg h3]
  by_cases h4 : c = 9
  · rw [if_pos h4]; exact two _
  rw [if_neg h4]
  by_cases h5 : c = 13
  · rw [if_pos h5]; exact two _
  rw [if_neg h5]
  by_cases h6 : c.toNat < 32 ∨ c = 127
  · rw [if_pos h6]
    have hl := c.toNat_lt
    obtain ⟨a1, a2⟩ := hx_q (c.toNat / 16) (by omega)
    obtain ⟨b1, b2⟩ := hx_q (c.toNat % 16) (by omega)
    show qE (92 :: 120 :: hx (c.toNat / 16) :: hx (c.toNat % 16) :: y) = _
    rw [qE_b 120 _ rfl, qE_p _ a1 a2, qE_p _ b1 b2]
    cases qE y <;> simp
  · rw [if_neg h6]
    show qE (c :: y) = _
    rw [qE_p _ (fun e => h2 (UInt8.toNat_inj.1 e)) (fun e => h1 (UInt8.toNat_inj.1 e))]
    rfl
theorem qE_esc (l : List UInt8) : qE (escS l ++ [39]) = some ((escS l).length + 1) := by
  induction l with
  | nil => rfl
  | cons c l ih =>
    have e : escS (c :: l) = esc1 c ++ escS l := by unfold escS; rw [List.flatMap_cons]
    rw [e, List.append_assoc, qE_esc1, ih]
    simp; omega
/-- A literal that begins with a quote ends with the next one. -/
theorem lit_q {k a b : Int} {s : ByteArray} (h : okV k a b s = true) {r : List UInt8} (e : litV k a b s = 39 :: r) : qE r = some r.length := by
  obtain ⟨c, t, hl, hk⟩ := lit_head h
  rw [hl] at e
  cases e
  have h4 : k = 4 := by
    have h39 : (39 : UInt8).toNat = 39 := rfl
    rw [h39] at hk
    omega
  subst h4
  have e2 : litV 4 a b s = 39 :: escS s.data.toList ++ [39] := rfl
  rw [e2, List.cons_append] at hl
  cases hl
  rw [qE_esc]; simp
def StA (t : List UInt8) (o : Option ByteArray) : Prop := ∃ k a b s c, ScA t (.tuple #[V k a b s, .int .i64 c]) ∧ o = if c = 0 then some s else none
def StR (t : List UInt8) (o : Option ByteArray) : Prop := ∃ k a b s c, ScR t (.tuple #[V k a b s, .int .i64 c]) ∧ o = if c = 0 then some s else none
theorem st_one (t : List UInt8) (x y : Option ByteArray) (h1 : StA t x) (h2 : StR t y) : x = y := by
  obtain ⟨k, a, b, s, c, h1, rfl⟩ := h1
  obtain ⟨k', a', b', s', c', h2, rfl⟩ := h2
  have := sc_one h1 h2
  simp [V] at this
  obtain ⟨⟨-, -, -, rfl⟩, rfl⟩ := this
  rfl
theorem sa_form {t : List UInt8} {x : Value} (h : ScA t x) : ∃ k a b s c, x = .tuple #[V k a b s, .int .i64 c] := by
  rcases h with ⟨k, a, b, s, _, _, _, _, rfl⟩ | ⟨_, rfl⟩
  · exact ⟨_, _, _, _, _, rfl⟩
  · exact ⟨_, _, _, _, _, rfl⟩
/-- What is no literal. -/
theorem sa_none {r : List UInt8} {k a b : Int} {s : ByteArray} {c : Int} (h : ScA (39 :: r) (.tuple #[V k a b s, .int .i64 c])) (hq : qE r = none) : c = 14 := by
  rcases h with ⟨k', a', b', s', ok, _, hl, _, e⟩ | ⟨_, e⟩
  · rw [lit_q ok hl] at hq; cases hq
  · simp at e; exact e.2
theorem sa_code {t : List UInt8} {k a b : Int} {s : ByteArray} {c : Int} (h : ScA t (.tuple #[V k a b s, .int .i64 c])) : c = 0 ∨ c = 14 := by
  rcases h with ⟨k', a', b', s', ok, _, hl, _, e⟩ | ⟨_, e⟩
  · simp at e; exact .inl e.2
  · simp at e; exact .inr e.2
theorem sr_code {t : List UInt8} {k a b : Int} {s : ByteArray} {c : Int} (h : ScR t (.tuple #[V k a b s, .int .i64 c])) : c = 0 ∨ c = 14 := by
  rcases h with ⟨k', a', b', s', ok, _, _, hl, e⟩ | ⟨_, e⟩
  · simp at e; exact .inl e.2
  · simp at e; exact .inr e.2
set_option maxRecDepth 100000 in
set_option maxHeartbeats 1000000 in
theorem aq_any (u : ByteArray) (hs : u.size ≤ 4611686018427387904) (i : Nat) (hi : i ≤ u.size) (w : World) : Calls Tryz.prog 94 #[.string u, .int .i64 i] w fun e w' => e = .returned (.int .i64 ((qO u.data.toList i).getD u.size : Nat)) ∧ w' = w := by
  have hll := x_len u
  obtain ⟨R, hR⟩ : ∃ R, R = qO u.data.toList i := ⟨_, rfl⟩
  rw [← hR]
  have HR := xh hR
  clear hR
  go_enter Tryz.func94, Tryz.ntmps94
  go_wp2_with fail
  go_loopw [1] (fun p W => ∃ k : Nat, k ≤ u.size + 1 ∧ p = .int .i64 (k : Int) ∧ R = qO u.data.toList k ∧ W = w) (fun p _ => u.size + 1 - (RowKit.intOf p).toNat)
  case atStart => exact ⟨i, by omega, rfl, HR.out, rfl⟩
  case round =>
    obtain ⟨k, hk, rfl, hkR, rfl⟩ := hrel
    have HK := xh hkR
    clear hkR HR
    by_cases hlt : k < u.size
    · have hltI : (k : Int) < (u.size : Int) := by omega
      have HGT := xh (x_get u k hlt)
      by_cases c1 : u[k].toNat = 39
      · have k1 : (u[k].toNat : Int) = 39 := by omega
        have HF : Hid (R = some (k + 1)) := HK.out.trans (qO_q HGT.out c1)
        clear c1
        go_wp2
        go_ret
        exact ⟨by rw [HF.out]; simp, rfl⟩
      · have k1 : ((u[k].toNat : Int) == 39) = false := beq_false_of_ne (by omega)
        by_cases c2 : u[k].toNat = 92
        · have k2 : (u[k].toNat : Int) = 92 := by omega
          have HF : Hid (R = qO u.data.toList (k + 2)) := HK.out.trans (qO_b HGT.out c2)
          clear c1 c2
          go_wp2
          go_roundw
          case rel => exact ⟨k + 2, by omega, by simp; omega, HF.out, by first | trivial | rfl⟩
          case measure => simp [RowKit.intOf]; omega
        · have k2 : ((u[k].toNat : Int) == 92) = false := beq_false_of_ne (by omega)
          have HF : Hid (R = qO u.data.toList (k + 1)) := HK.out.trans (qO_p HGT.out c1 c2)
          clear c1 c2
          go_wp2
          go_roundw
          case rel => exact ⟨k + 1, by omega, by go_num, HF.out, by first | trivial | rfl⟩
          case measure => simp [RowKit.intOf]; omega
    · have hltI : ¬ (k : Int) < (u.size : Int) := by omega
      have HF : Hid (R = none) := HK.out.trans (qO_e (by omega))
      go_wp2
      go_ret
      exact ⟨by rw [HF.out]; rfl, rfl⟩
end
open Go.RowKit

theorem tk_s_none {Q : List UInt8 → Option ByteArray → Prop} {r : List UInt8} (h : qE r = none) : Tk Q (39 :: r) (.bad 100 0) := by
  simp only [Tk]; rw [if_pos (show (39 : UInt8).toNat = 39 from rfl), h]; trivial
theorem tk_s_some {Q : List UInt8 → Option ByteArray → Prop} {r : List UInt8} {m : Nat} {o : Option ByteArray} (h : qE r = some m) (hq : Q (39 :: r.take m) o) : Tk Q (39 :: r) (sqT m o) := by
  simp only [Tk]; rw [if_pos (show (39 : UInt8).toNat = 39 from rfl), h]; exact ⟨o, hq, rfl⟩
/-- What the program's tokenAt tells. -/
def tokV (i : Nat) : TkV → Value
  | .bad c o => .tuple #[.agg #[I 0, .string E0, I 0], I 0, .agg #[I c, I ((i + o : Nat) : Int)]]
  | .tok k t m => .tuple #[.agg #[I k, .string t, I i], I ((i + m : Nat) : Int), .agg #[I 0, I 0]]
/-- The results' cells, while a call is under way. -/
structure Rp (w : World) (W : World) : Prop where
  g : G w W
  c : ∀ o, W.cell? ⟨w.heap.size, o, none⟩ = [I 0, .string E0, I 0][o]?
  f : ∀ o, W.frozen? ⟨w.heap.size, o, none⟩ = false
  d : ∀ o, W.cell? ⟨w.heap.size + 1, o, none⟩ = [I 0, I 0][o]?
  h : ∀ o, W.frozen? ⟨w.heap.size + 1, o, none⟩ = false
  z : w.heap.size + 1 < W.heap.size
theorem Rp.new (w : World) : Rp w ((w.alloc (.cells #[I 0, .string E0, I 0] 60)).alloc (.cells #[I 0, I 0] 55)) :=
  have g2 : Go.Proofs.YthpflfkgbapbnaaGreatDoor.G (w.alloc (.cells #[I 0, .string E0, I 0] 60)) ((w.alloc (.cells #[I 0, .string E0, I 0] 60)).alloc (.cells #[I 0, I 0] 55)) := (G.refl _).alloc _
  ⟨((G.refl w).alloc _).alloc _, G.cells g2 (fun o => by simp) (by simp), G.frozens g2 (fun o => by simp) (by simp), fun o => by
    have := World.size_alloc w (.cells #[I 0, .string E0, I 0] 60)
    rw [← this]; simp, fun o => by
    have := World.size_alloc w (.cells #[I 0, .string E0, I 0] 60)
    rw [← this]; simp, by simp⟩
theorem Rp.G {w W W' : World} (h : Rp w W) (g : G W W') : Rp w W' := ⟨h.g.trans g, G.cells g h.c (by have := h.z; omega), G.frozens g h.f (by have := h.z; omega), G.cells g h.d h.z, G.frozens g h.h h.z, Nat.lt_of_lt_of_le h.z g.size⟩
theorem G.five {a w : World} (g : G a w) (v0 v1 v2 v3 v4 : Value) : G a (((((w.setCell ⟨a.heap.size, 0, none⟩ v0).setCell ⟨a.heap.size, 1, none⟩ v1).setCell ⟨a.heap.size, 2, none⟩ v2).setCell ⟨a.heap.size + 1, 0, none⟩ v3).setCell ⟨a.heap.size + 1, 1, none⟩ v4) :=
  ((((g.setCell (Nat.le_refl _) _).setCell (Nat.le_refl _) _).setCell (Nat.le_refl _) _).setCell (Nat.le_succ _) _).setCell (Nat.le_succ _) _
set_option maxRecDepth 100000 in
set_option maxHeartbeats 1000000 in
theorem sa_any (u : ByteArray) (hs : u.size ≤ 140737488351232) (i : Nat) (hi : i < u.size) (hq : u[i].toNat = 39) (w : World) (hE : Env w) : Calls Tryz.prog 60 #[.string u, .int .i64 i] w fun e w' => ∃ x, Tk StA (u.data.toList.drop i) x ∧ e = .returned (tokV i x) ∧ G w w' := by
  have hll := x_len u
  have hgt := x_get u i hi
  have h39 : u[i] = 39 := UInt8.toNat_inj.1 hq
  have hdr0 := drop_at hgt
  rw [h39] at hdr0
  obtain ⟨R, hR⟩ : ∃ R, R = qO u.data.toList (i + 1) := ⟨_, rfl⟩
  obtain ⟨E, hEe⟩ : ∃ E, E = R.getD u.size := ⟨_, rfl⟩
  have HAQ := xh (aq_any u (by omega) (i + 1) (by omega))
  rw [← hR, ← hEe] at HAQ
  have hiE : i < E ∧ E ≤ u.size := by
    cases hRR : R with
    | none => rw [hRR] at hEe; simp at hEe; omega
    | some e => rw [hRR] at hEe hR; have := qO_len hR.symm; simp at hEe; omega
  have hex := x_ext u i (E - i) E (by omega)
  have HSC := xh (fun W h => scan_any (u.extract i E) (by rw [ByteArray.size_extract]; omega) W h)
  rw [hex, sU_list, ← hex] at HSC
  have HTK : Hid (∀ k a b t c, ScA ((u.data.toList.drop i).take (E - i)) (.tuple #[V k a b t, .int .i64 c]) → (c = 0 → Tk StA (u.data.toList.drop i) (.tok 5 t (E - i))) ∧ (c = 14 → Tk StA (u.data.toList.drop i) (.bad 100 0))) := fun k a b t c hx => by
    rw [hdr0] at hx ⊢
    cases hqe : qE (u.data.toList.drop (i + 1)) with
    | none =>
      have hRn : R = none := by rw [hR]; unfold qO; rw [hqe]; rfl
      have hEs : E = u.size := by rw [hEe, hRn]; rfl
      rw [List.take_of_length_le (by rw [List.length_cons, List.length_drop, hll]; omega)] at hx
      have hc := sa_none hx hqe
      exact ⟨fun h0 => by omega, fun _ => tk_s_none hqe⟩
    | some m =>
      have hRn : R = some (i + 1 + m) := by rw [hR]; unfold qO; rw [hqe]; rfl
      have hEs : E = i + 1 + m := by rw [hEe, hRn]; rfl
      have e1 : E - i = m + 1 := by omega
      rw [e1, List.take_succ_cons] at hx
      rw [e1]
      refine ⟨fun h0 => ?_, fun h0 => ?_⟩
      · subst h0
        exact tk_s_some (o := some t) hqe ⟨k, a, b, t, 0, hx, rfl⟩
      · subst h0
        exact tk_s_some (o := none) hqe ⟨k, a, b, t, 14, hx, rfl⟩
  have HE := xh hE
  have HIE : Hid (((i + (E - i) : Nat) : Int) = (E : Int)) := by unfold Hid; omega
  have hiI : (i : Int) ≤ (E : Int) := by omega
  have hEI : (E : Int) ≤ (u.size : Int) := by omega
  have hsI : (i : Int) + 1 ≤ 140737488351233 := by omega
  have HRP := xh (Rp.new w)
  generalize (u.data.toList.drop i).take (E - i) = L at HSC HTK
  clear hE hEe hR hex hdr0 h39 hgt hq hi hll
  go_enter Tryz.func60, Tryz.ntmps60
  go_wp2_with (first | (go_at_call 94; refine (HAQ.out _).mono ?_; rintro e w1 ⟨rfl, rfl⟩) | (go_at_call 95; refine Hid.out ?_) | fail)
  unfold Hid
  generalize (w.alloc (.cells #[I 0, .string E0, I 0] 60)).alloc (.cells #[I 0, I 0] 55) = wb at HRP ⊢
  refine (HSC.out _ (HE.out.G HRP.out.g)).mono ?_
  rintro e w1 ⟨x, rfl, hx, hg⟩
  have HR1 : Hid (Rp w w1) := HRP.out.G hg
  obtain ⟨k, a, b, t, c, rfl⟩ := sa_form hx
  have HQ := xh (HTK.out k a b t c hx)
  have hcc := sa_code hx
  have HRA : Hid (Rp w (w1.alloc (.cells #[I k, I a, I b, .string t] 23))) := HR1.out.G ((G.refl w1).alloc _)
  have hcr := HRA.out.c
  have hfr := HRA.out.f
  have hdr := HRA.out.d
  have hhr := HRA.out.h
  have hz := HR1.out.z
  have hne1 : ¬ w1.heap.size = w.heap.size := by omega
  have hne2 : ¬ w.heap.size = w1.heap.size := by omega
  have hne3 : ¬ w1.heap.size = w.heap.size + 1 := by omega
  have hne4 : ¬ w.heap.size + 1 = w1.heap.size := by omega
  clear hx hg HRP HTK HSC HAQ HE hz hsI
  rcases hcc with rfl | rfl
  · have HT := xh (HQ.out.1 rfl)
    clear HQ
    go_wp2
    refine bodyPost_ret (v := .tuple #[.agg #[I 5, .string t, I i], I (E : Int), .agg #[I 0, I 0]]) (by simp [results, Tryz.results60, go_sem, hcr, hdr]) rfl ⟨_, HT.out, ?_, G.five HRA.out.g _ _ _ _ _⟩
    simp only [tokV]
    rw [HIE.out]
  · have HT := xh (HQ.out.2 rfl)
    clear HQ
    go_wp2
    refine bodyPost_ret (v := .tuple #[.agg #[I 0, .string E0, I 0], I 0, .agg #[I 100, I i]]) (by simp [results, Tryz.results60, go_sem, hcr, hdr]) rfl ⟨_, HT.out, ?_, G.five HRA.out.g _ _ _ _ _⟩
    rfl
end Go.Proofs.YthpflfkgbapbnaaGreatDoor
