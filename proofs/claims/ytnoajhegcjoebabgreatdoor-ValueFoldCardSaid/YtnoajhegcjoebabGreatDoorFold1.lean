/- value.sum, outermost, mean: over the items of a list. -/
import Derived.Test.YtnoajhegcjoebabGreatDoorKnown
import Derived.Test.YtnoajhegcjoebabGreatDoorNumAg
namespace Go.Proofs.YtnoajhegcjoebabGreatDoor
open Go.RowKit Go.Lib Go.Shelf

set_option maxRecDepth 100000 in
set_option maxHeartbeats 2000000 in
theorem known_nil (w : World) : Calls Tryz.prog 94 #[.slice none 0 0] w fun e w' => e = .returned (.tuple #[.slice none 0 0, .bool true]) ∧ G w w' := by
  go_enter Tryz.func94, Tryz.ntmps94
  go_wp2
  go_loopw [4, 11] (fun x i W => x = .slice none 0 0 ∧ i = .int .i64 0 ∧ W = w) (fun _ _ _ => 0)
  case atStart => exact ⟨rfl, rfl, rfl⟩
  case round =>
    obtain ⟨rfl, rfl, rfl⟩ := hrel
    go_wp2
    go_ret2
    exact ⟨rfl, G.refl _⟩
/-- An item of a number: as a number. -/
def Qd.num (q : Qd) : Prop := q.ok = true ∧ (q.1 = 2 ∨ q.1 = 3) ∧ I64 q.2.1
theorem Qd.num.nmb {q : Qd} (h : q.num) : Nmb q.it q.1 q.2.1 q.2.2.1 q.2.2.2 := by
  obtain ⟨k, a, b, s⟩ := q
  obtain ⟨hok, hk, ha⟩ := h
  unfold Qd.ok at hok
  unfold Qd.it
  simp only at hok hk ha ⊢
  rcases hk with rfl | rfl
  · obtain ⟨rfl, rfl⟩ := ok_2 hok
    exact .inl ⟨rfl, rfl, rfl, ha, itV_2 hok⟩
  · obtain ⟨pa, pb, rfl⟩ := ok_3 hok
    exact .inr ⟨rfl, rfl, pa, pb, _, _, itV_3 hok, Fl.ofInt a (by omega), Fl.ofInt b (by omega)⟩
abbrev NmbQ (x : Value) (q : Qd) : Prop := Nmb x q.1 q.2.1 q.2.2.1 q.2.2.2
/-- One step of arithmetic, both sides: the item, the code, the value. -/
def StepS (op : Int) (x : Value) (q : Qd) (y : Value) (d : Qd) (s : Value × Int × Qd) : Prop := (∀ w, Calls Tryz.prog 87 #[.int .i64 op, x, y] w fun e w' => e = .returned (.tuple #[s.1, .int .i64 s.2.1]) ∧ G w w') ∧ NumR s.1 s.2.1 s.2.2.1 s.2.2.2.1 s.2.2.2.2.1 s.2.2.2.2.2 ∧
  (∀ w, Calls Tryz.prog 45 #[.int .i64 op, q.W, d.W] w fun e w' => e = .returned (.tuple #[Qd.W s.2.2, .int .i64 s.2.1]) ∧ G w w')
theorem step_ex (op : Int) (h1 : 1 ≤ op) (h5 : op ≤ 5) {x y : Value} {q d : Qd} (hx : NmbQ x q) (hy : NmbQ y d) : ∃ s, StepS op x q y d s := by
  obtain ⟨rv, c, rk, ra, rb, rs, g1, g2, g3⟩ := arn_any op h1 h5 hx hy
  exact ⟨(rv, c, rk, ra, rb, rs), g1, g2, g3⟩
open Classical in
noncomputable def stepN (op : Int) (x : Value) (q : Qd) (y : Value) (d : Qd) : Value × Int × Qd := if h : ∃ s, StepS op x q y d s then Classical.choose h else (x, 0, q)
theorem stepN_spec (op : Int) (h1 : 1 ≤ op) (h5 : op ≤ 5) {x y : Value} {q d : Qd} (hx : NmbQ x q) (hy : NmbQ y d) : StepS op x q y d (stepN op x q y d) := by
  have h := step_ex op h1 h5 hx hy
  unfold stepN
  rw [dif_pos h]
  exact Classical.choose_spec h
/-- The running total behind the first i of D. -/
noncomputable def tot (D : List Qd) : Nat → Value × Qd
  | 0 => (IW 0, (2, 0, 0, E0))
  | i + 1 => let s := stepN 1 (tot D i).1 (tot D i).2 ((D.getD i (0, 0, 0, E0)).it) (D.getD i (0, 0, 0, E0)); (s.1, s.2.2)
/-- The code of step i. -/
noncomputable def cod (D : List Qd) (i : Nat) : Int := (stepN 1 (tot D i).1 (tot D i).2 ((D.getD i (0, 0, 0, E0)).it) (D.getD i (0, 0, 0, E0))).2.1
theorem zI : I64 0 := ⟨by decide, by decide⟩
theorem tot_nmb (D : List Qd) (hD : ∀ q ∈ D, Qd.num q) : ∀ m, m ≤ D.length → (∀ j, j < m → cod D j = 0) → NmbQ (tot D m).1 (tot D m).2
  | 0, _, _ => .inl ⟨rfl, rfl, rfl, zI, rfl⟩
  | m + 1, hm, hc => by
    have ih := tot_nmb D hD m (by omega) (fun j hj => hc j (by omega))
    have hq : D.getD m (0, 0, 0, E0) ∈ D := by
      rw [List.getD_eq_getElem?_getD, List.getElem?_eq_getElem (show m < D.length by omega)]
      exact List.getElem_mem _
    have sp := stepN_spec 1 (by decide) (by decide) ih (hD _ hq).nmb
    have h0 := hc m (by omega)
    unfold cod at h0
    rcases sp.2.1 with ⟨_, h⟩ | ⟨h, _⟩
    · exact h
    · rw [h] at h0; exact h0.elim
theorem tot_step (D : List Qd) (hD : ∀ q ∈ D, Qd.num q) {m : Nat} {q : Qd} (hq : D[m]? = some q) (hc : ∀ j, j < m → cod D j = 0) :
    (∀ w, Calls Tryz.prog 87 #[.int .i64 1, (tot D m).1, q.it] w fun e w' => e = .returned (.tuple #[(tot D (m + 1)).1, .int .i64 (cod D m)]) ∧ G w w') ∧ (∀ w, Calls Tryz.prog 45 #[.int .i64 1, (tot D m).2.W, q.W] w fun e w' => e = .returned (.tuple #[(tot D (m + 1)).2.W, .int .i64 (cod D m)]) ∧ G w w') ∧ (cod D m ≠ 0 → (tot D (m + 1)).2 = (0, 0, 0, E0)) := by
  have hm : m < D.length := (List.getElem?_eq_some_iff.1 hq).1
  have ih := tot_nmb D hD m (by omega) hc
  have e : D.getD m (0, 0, 0, E0) = q := by rw [List.getD_eq_getElem?_getD, hq]; rfl
  have sp := stepN_spec 1 (by decide) (by decide) ih (hD q (List.mem_of_getElem? hq)).nmb
  have e1 : tot D (m + 1) = ((stepN 1 (tot D m).1 (tot D m).2 q.it q).1, (stepN 1 (tot D m).1 (tot D m).2 q.it q).2.2) := by
    show (_, _) = _
    rw [e]
  have e2 : cod D m = (stepN 1 (tot D m).1 (tot D m).2 q.it q).2.1 := by unfold cod; rw [e]
  rw [e1, e2]
  refine ⟨sp.1, sp.2.2, fun h => ?_⟩
  rcases sp.2.1 with ⟨h0, _⟩ | ⟨_, h1, h2, h3, h4⟩
  · exact absurd h0 h
  · exact Prod.ext h1 (Prod.ext h2 (Prod.ext h3 h4))
theorem irow_at {w : World} {g n cap : Nat} {X : List Value} (h : IRow w (.slice (some ⟨g, 0, none⟩) n cap) X) {i : Nat} {u : Value} (hi : X[i]? = some u) : w.cell? ⟨g, i, none⟩ = some u := by
  rcases h with ⟨h, _⟩ | ⟨g', cap', he, _, hc⟩
  · cases h
  · cases he; exact hc i u hi
/-- What a list of items gives. -/
theorem num_code (q : Qd) (hok : q.ok = true) (h0 : q.1 ≠ 0) : ∃ p p' c, INum q.it p p' c ∧ ((q.1 = 2 ∨ q.1 = 3) → (c == 10) = false) ∧ (¬ (q.1 = 2 ∨ q.1 = 3) → c = 10) := by
  obtain ⟨k, a, b, s⟩ := q
  unfold Qd.ok at hok
  unfold Qd.it
  simp only at hok h0 ⊢
  by_cases h2 : k = 2
  · subst h2
    rw [itV_2 hok]
    by_cases hp : P25 a
    · exact ⟨_, _, 0, in_whole a hp.1 hp.2, fun _ => rfl, fun h => absurd (.inl rfl) h⟩
    · exact ⟨_, _, 11, in_whole_no a (part_no hp), fun _ => rfl, fun h => absurd (.inl rfl) h⟩
  · by_cases h3 : k = 3
    · subst h3
      rw [itV_3 hok]
      exact ⟨_, _, 0, in_cpx _ _, fun _ => rfl, fun h => absurd (.inr rfl) h⟩
    · exact ⟨_, _, 10, in_no k a b s hok h0 h2 h3, fun h => by omega, fun _ => rfl⟩
/-- sum: a kind that is no number. -/
def allNum (D : List Qd) : Bool := D.all fun q => q.1 == 2 || q.1 == 3
set_option maxRecDepth 100000 in
set_option maxHeartbeats 2000000 in
theorem sum_no (g cap : Nat) (D : List Qd) (hD : ∀ q ∈ D, q.ok = true ∧ q.1 ≠ 0) (hn : D.length ≤ 140737488351232) (w : World) (hI : IRow w (.slice (some ⟨g, 0, none⟩) D.length cap) (D.map Qd.it)) (hA : allNum D = false) :
    Calls Tryz.prog 128 #[.slice (some ⟨g, 0, none⟩) D.length cap] w fun e w' => e = .returned (.tuple #[.nilIface, .int .i64 10]) ∧ G w w' := by
  have HI : Hid _ := hI
  have HA : Hid _ := hA
  clear hI hA
  go_enter Tryz.func128, Tryz.ntmps128
  go_wp2
  go_loopw [15] (fun i W => ∃ m : Nat, m ≤ D.length ∧ i = .int .i64 m ∧ G w W ∧ Hid (allNum (D.take m) = true)) (fun i _ => D.length - (RowKit.intOf i).toNat)
  case atStart => exact ⟨0, by omega, rfl, G.refl _, rfl⟩
  case round =>
    obtain ⟨m, hm, rfl, hG, hall⟩ := hrel
    have HG : Hid (G w wr) := hG
    clear hG
    by_cases hlt : m < D.length
    · obtain ⟨q, hq⟩ : ∃ q, D[m]? = some q := ⟨D[m], List.getElem?_eq_getElem hlt⟩
      have hcell := irow_at (IRow.G HI.out HG.out) (i := m) (u := q.it) (by rw [List.getElem?_map, hq]; rfl)
      obtain ⟨ok, k0⟩ := hD q (List.mem_of_getElem? hq)
      obtain ⟨p, p', c, hN, c1, c2⟩ := num_code q ok k0
      have R : Hid ((q.1 = 2 ∨ q.1 = 3) → allNum (D.take (m + 1)) = true) := fun h => by
        have := hall.out
        unfold allNum at this ⊢
        rw [take_snoc hq, List.all_append, this]
        simp [h]
      obtain ⟨t, f, v, hx, hmm, hf, hC⟩ := hN
      rw [hx] at hcell
      have HC : Hid _ := hC
      clear hC hx hq ok k0 hall
      by_cases hk : q.1 = 2 ∨ q.1 = 3
      · have hc := c1 hk
        have R' : Hid _ := R.out hk
        clear c1 c2 R hk
        go_wp2_with fail
        refine (HC.out _).mono ?_
        rintro e w1 ⟨rfl, rfl⟩
        go_wp2
        go_roundw
        case rel => exact ⟨m + 1, by omega, by go_num, HG.out, R'.out⟩
        case measure => simp [RowKit.intOf]; omega
      · obtain rfl := c2 hk
        clear c1 c2 R hk
        go_wp2_with fail
        refine (HC.out _).mono ?_
        rintro e w1 ⟨rfl, rfl⟩
        go_wp2
        go_ret2
        exact ⟨rfl, HG.out⟩
    · exfalso
      have e : D.take m = D := List.take_of_length_le (by omega)
      have h1 := hall.out
      rw [e, HA.out] at h1
      cases h1
/-- The document's and the program's sum: behind all, or where the first code is. -/
def SumEnd (D : List Qd) (m : Nat) : Prop := (∀ j, j < m → cod D j = 0) ∧ (m = D.length ∨ (m < D.length ∧ cod D m ≠ 0))
set_option maxRecDepth 100000 in
set_option maxHeartbeats 2000000 in
theorem sum_yes (g cap : Nat) (D : List Qd) (hD : ∀ q ∈ D, Qd.num q) (hn : D.length ≤ 140737488351232) (w : World) (hI : IRow w (.slice (some ⟨g, 0, none⟩) D.length cap) (D.map Qd.it)) (m0 : Nat) (hE : SumEnd D m0) (rv : Value) (rc : Int) (hR : (m0 = D.length ∧ rv = (tot D D.length).1 ∧ rc = 0) ∨ (m0 < D.length ∧ rv = .nilIface ∧ rc = cod D m0)) :
    Calls Tryz.prog 128 #[.slice (some ⟨g, 0, none⟩) D.length cap] w fun e w' => e = .returned (.tuple #[rv, .int .i64 rc]) ∧ G w w' := by
  have HI : Hid _ := hI
  have HE : Hid _ := hE
  have HR : Hid _ := hR
  clear hI hE hR
  go_enter Tryz.func128, Tryz.ntmps128
  go_wp2
  go_loopw [15] (fun i W => ∃ m : Nat, m ≤ D.length ∧ i = .int .i64 m ∧ G w W) (fun i _ => D.length - (RowKit.intOf i).toNat)
  case atStart => exact ⟨0, by omega, rfl, G.refl _⟩
  case round =>
    obtain ⟨m, hm, rfl, hG⟩ := hrel
    have HG : Hid (G w wr) := hG
    clear hG
    by_cases hlt : m < D.length
    · obtain ⟨q, hq⟩ : ∃ q, D[m]? = some q := ⟨D[m], List.getElem?_eq_getElem hlt⟩
      have hcell := irow_at (IRow.G HI.out HG.out) (i := m) (u := q.it) (by rw [List.getElem?_map, hq]; rfl)
      obtain ⟨ok, hk, _⟩ := hD q (List.mem_of_getElem? hq)
      obtain ⟨p, p', c, hN, c1, _⟩ := num_code q ok (by omega)
      have hc := c1 hk
      obtain ⟨t, f, v, hx, hmm, hf, hC⟩ := hN
      rw [hx] at hcell
      have HC : Hid _ := hC
      clear hC hx hq ok c1 hk
      go_wp2_with fail
      refine (HC.out _).mono ?_
      rintro e w1 ⟨rfl, rfl⟩
      go_wp2
      go_roundw
      case rel => exact ⟨m + 1, by omega, by go_num, HG.out⟩
      case measure => simp [RowKit.intOf]; omega
    · go_wp2
      go_loopw [8, 30] (fun x i W => ∃ m : Nat, m ≤ D.length ∧ i = .int .i64 m ∧ G w W ∧ Hid (x = (tot D m).1) ∧ Hid (∀ j, j < m → cod D j = 0)) (fun _ i _ => D.length - (RowKit.intOf i).toNat)
      case atStart => exact ⟨0, by omega, rfl, HG.out, rfl, fun j hj => absurd hj (Nat.not_lt_zero j)⟩
      case round =>
        obtain ⟨m, hm, rfl, hG2, HX, HC⟩ := hrel
        have hx := HX.out
        subst hx
        clear HX
        have HG2 : Hid (G w _) := hG2
        clear hG2
        by_cases hlt2 : m < D.length
        · obtain ⟨q, hq⟩ : ∃ q, D[m]? = some q := ⟨D[m], List.getElem?_eq_getElem hlt2⟩
          have hcell := irow_at (IRow.G HI.out HG2.out) (i := m) (u := q.it) (by rw [List.getElem?_map, hq]; rfl)
          have T1 : Hid _ := (tot_step D hD hq HC.out).1
          clear hq
          generalize hy : q.it = y at hcell T1
          generalize hx : (tot D m).1 = x at T1 ⊢
          clear hy hx
          by_cases hc : cod D m = 0
          · have R : Hid (∀ j, j < m + 1 → cod D j = 0) := fun j hj => by
              rcases Nat.lt_or_ge j m with c | c
              · exact HC.out j c
              · have : j = m := by omega
                rw [this]; exact hc
            rw [hc] at T1
            clear hc
            go_wp2_with fail
            refine (T1.out _).mono ?_
            rintro e w1 ⟨rfl, hb1⟩
            have HG3 : Hid (G w w1) := HG2.out.trans hb1
            clear hb1
            go_wp2
            go_roundw
            case rel => exact ⟨m + 1, by omega, by go_num, HG3.out, rfl, R.out⟩
            case measure => simp [RowKit.intOf]; omega
          · have hE : m0 = m := by
              obtain ⟨e1, e2⟩ := HE.out
              rcases Nat.lt_trichotomy m m0 with h | h | h
              · exact absurd (e1 m h) hc
              · exact h.symm
              · rcases e2 with e2 | ⟨_, e2⟩
                · omega
                · exact absurd (HC.out m0 h) e2
            have HQ : Hid (m0 = m) := hE
            have hc' : (cod D m != 0) = true := by simpa using hc
            have HN : Hid (¬ m = D.length) := by have := hlt2; unfold Hid; omega
            clear hE hc
            generalize hcd : cod D m = cd at T1 hc'
            have HCD : Hid _ := hcd
            clear hcd
            go_wp2_with fail
            refine (T1.out _).mono ?_
            rintro e w1 ⟨rfl, hb1⟩
            have HG3 : Hid (G w w1) := HG2.out.trans hb1
            clear hb1
            go_wp2
            go_ret2
            refine ⟨?_, HG3.out⟩
            rcases HR.out with ⟨h, _⟩ | ⟨_, h1, h2⟩
            · exact absurd (HQ.out.symm.trans h) HN.out
            · rw [h1, h2, HQ.out, HCD.out]; rfl
        · have hE : m0 = D.length := by
            obtain ⟨e1, e2⟩ := HE.out
            rcases e2 with e2 | ⟨e3, e2⟩
            · exact e2
            · exact absurd (HC.out m0 (by omega)) e2
          have em : m = D.length := by omega
          have HQ : Hid (m0 = D.length ∧ m = D.length) := ⟨hE, em⟩
          clear hE em
          go_wp2
          go_ret2
          refine ⟨?_, HG2.out⟩
          rcases HR.out with ⟨_, h1, h2⟩ | ⟨h, _⟩
          · rw [h1, h2, ← HQ.out.2]; rfl
          · have := HQ.out.1; omega
/-- The order of two values, as both have it. -/
noncomputable def cmpQ (q q' : Qd) : Int := cmpR q.1.toNat q'.1.toNat q.2.1 q.2.2.1 q'.2.1 q'.2.2.1 q.2.2.2 q'.2.2.2
/-- The place of the outermost among the first i + 1. -/
noncomputable def bst (D : List Qd) (side : Int) : Nat → Nat
  | 0 => 0
  | i + 1 => if cmpQ (D.getD (i + 1) (0, 0, 0, E0)) (D.getD (bst D side i) (0, 0, 0, E0)) = side then i + 1 else bst D side i
theorem bst_le (D : List Qd) (side : Int) : ∀ i, bst D side i ≤ i
  | 0 => Nat.le_refl _
  | i + 1 => by
    have := bst_le D side i
    unfold bst
    split <;> omega
theorem cmp_q (q q' : Qd) (h : q.ok = true) (h' : q'.ok = true) (w : World) (hR : Rks w) : Calls Tryz.prog 46 #[q.it, q'.it] w fun e w' => e = .returned (.int .i64 (cmpQ q q')) ∧ G w w' := by
  obtain ⟨k, a, b, s⟩ := q
  obtain ⟨k', a', b', s'⟩ := q'
  unfold Qd.ok at h h'
  unfold Qd.it cmpQ
  simp only at h h' ⊢
  have hk := okV_kind k a b s h
  have hk' := okV_kind k' a' b' s' h'
  obtain ⟨n, rfl⟩ : ∃ n : Nat, k = n := ⟨k.toNat, by omega⟩
  obtain ⟨n', rfl⟩ : ∃ n : Nat, k' = n := ⟨k'.toNat, by omega⟩
  rw [show (Int.toNat (n : Int)) = n from rfl, show (Int.toNat (n' : Int)) = n' from rfl, ← cmp_same (by omega) (by omega) h h']
  exact compare_any _ _ n n' a b a' b' s s' (ival_any n a b s h) (ival_any n' a' b' s' h') (by omega) (by omega) w hR
set_option maxRecDepth 100000 in
set_option maxHeartbeats 2000000 in
theorem out_1 (g cap : Nat) (D : List Qd) (side : Int) (_hD : ∀ q ∈ D, q.ok = true) (h0 : 0 < D.length) (hn : D.length ≤ 140737488351232) (w : World) (_hR : Rks w) (hI : IRow w (.slice (some ⟨g, 0, none⟩) D.length cap) (D.map Qd.it)) (hcap : D.length ≤ cap) (h1 : cap = 1) (r : Value) (hr : (D.getD (bst D side (D.length - 1)) (0, 0, 0, E0)).it = r) :
    Calls Tryz.prog 129 #[.slice (some ⟨g, 0, none⟩) D.length cap, .int .i64 side] w fun e w' => e = .returned (r) ∧ G w w' := by
  have HRR : Hid _ := hr
  clear hr
  have HI : Hid _ := hI
  have hc0 := irow_at hI (i := 0) (u := (D.getD 0 (0, 0, 0, E0)).it) (by rw [List.getElem?_map, List.getD_eq_getElem?_getD, List.getElem?_eq_getElem h0]; rfl)
  generalize hx : (D.getD 0 (0, 0, 0, E0)).it = x at hc0
  have HX : Hid _ := hx
  have z : ((D.length : Int) == 0) = false := beq_false_of_ne (by omega)
  have i1 : (1 : Int) ≤ (D.length : Int) := by omega
  have i2 : (D.length : Int) ≤ (cap : Int) := by omega
  clear hI hx
  go_enter Tryz.func129, Tryz.ntmps129
  go_wp2
  go_loopw [5, 19] (fun y i W => ∃ m : Nat, m + 1 ≤ D.length ∧ i = .int .i64 m ∧ G w W ∧ Hid (y = (D.getD (bst D side m) (0, 0, 0, E0)).it)) (fun _ i _ => D.length - (RowKit.intOf i).toNat)
  case atStart => exact ⟨0, by omega, rfl, G.refl _, HX.out.symm⟩
  case round =>
    obtain ⟨m, hm, rfl, hG, HY⟩ := hrel
    have hy := HY.out
    subst hy
    clear HY
    have HG : Hid (G w wr) := hG
    clear hG
    have bl := bst_le D side m
    have hb : D[bst D side m]? = some (D.getD (bst D side m) (0, 0, 0, E0)) := by rw [List.getD_eq_getElem?_getD, List.getElem?_eq_getElem (show bst D side m < D.length by omega)]; rfl
    by_cases hlt : m + 1 < D.length
    · omega
    · have em : m = D.length - 1 := by omega
      have HM : Hid (bst D side m = bst D side (D.length - 1)) := by unfold Hid; rw [em]
      have hge : ¬ (m : Int) < ((D.length - 1 : Nat) : Int) := by omega
      generalize hz : (D.getD (bst D side m) (0, 0, 0, E0)).it = y
      have HZ : Hid ((D.getD (bst D side (D.length - 1)) (0, 0, 0, E0)).it = y) := by unfold Hid; rw [← HM.out]; exact hz
      clear hz hb bl em
      go_wp2
      go_ret
      have e := HRR.out.symm.trans HZ.out
      exact ⟨by rw [e]; rfl, HG.out⟩
set_option maxRecDepth 100000 in
set_option maxHeartbeats 2000000 in
theorem out_2 (g cap : Nat) (D : List Qd) (side : Int) (hD : ∀ q ∈ D, q.ok = true) (h0 : 0 < D.length) (hn : D.length ≤ 140737488351232) (w : World) (hR : Rks w) (hI : IRow w (.slice (some ⟨g, 0, none⟩) D.length cap) (D.map Qd.it)) (hcap : D.length ≤ cap) (h1 : ¬ cap = 1) (r : Value) (hr : (D.getD (bst D side (D.length - 1)) (0, 0, 0, E0)).it = r) :
    Calls Tryz.prog 129 #[.slice (some ⟨g, 0, none⟩) D.length cap, .int .i64 side] w fun e w' => e = .returned (r) ∧ G w w' := by
  have HRR : Hid _ := hr
  clear hr
  have HI : Hid _ := hI
  have hc0 := irow_at hI (i := 0) (u := (D.getD 0 (0, 0, 0, E0)).it) (by rw [List.getElem?_map, List.getD_eq_getElem?_getD, List.getElem?_eq_getElem h0]; rfl)
  generalize hx : (D.getD 0 (0, 0, 0, E0)).it = x at hc0
  have HX : Hid _ := hx
  have z : ((D.length : Int) == 0) = false := beq_false_of_ne (by omega)
  have i1 : (1 : Int) ≤ (D.length : Int) := by omega
  have i2 : (D.length : Int) ≤ (cap : Int) := by omega
  clear hI hx
  go_enter Tryz.func129, Tryz.ntmps129
  go_wp2
  go_loopw [5, 19] (fun y i W => ∃ m : Nat, m + 1 ≤ D.length ∧ i = .int .i64 m ∧ G w W ∧ Hid (y = (D.getD (bst D side m) (0, 0, 0, E0)).it)) (fun _ i _ => D.length - (RowKit.intOf i).toNat)
  case atStart => exact ⟨0, by omega, rfl, G.refl _, HX.out.symm⟩
  case round =>
    obtain ⟨m, hm, rfl, hG, HY⟩ := hrel
    have hy := HY.out
    subst hy
    clear HY
    have HG : Hid (G w wr) := hG
    clear hG
    have bl := bst_le D side m
    have hb : D[bst D side m]? = some (D.getD (bst D side m) (0, 0, 0, E0)) := by rw [List.getD_eq_getElem?_getD, List.getElem?_eq_getElem (show bst D side m < D.length by omega)]; rfl
    by_cases hlt : m + 1 < D.length
    · have hq : D[m + 1]? = some (D.getD (m + 1) (0, 0, 0, E0)) := by rw [List.getD_eq_getElem?_getD, List.getElem?_eq_getElem hlt]; rfl
      have hcell := irow_at (IRow.G HI.out HG.out) (i := 1 + m) (u := (D.getD (m + 1) (0, 0, 0, E0)).it) (by rw [Nat.add_comm 1 m, List.getElem?_map, hq]; rfl)
      have HC : Hid _ := cmp_q (D.getD (m + 1) (0, 0, 0, E0)) (D.getD (bst D side m) (0, 0, 0, E0)) (hD _ (List.mem_of_getElem? hq)) (hD _ (List.mem_of_getElem? hb)) wr (hR.G HG.out)
      have R1 : Hid (cmpQ (D.getD (m + 1) (0, 0, 0, E0)) (D.getD (bst D side m) (0, 0, 0, E0)) = side → (D.getD (bst D side (m + 1)) (0, 0, 0, E0)).it = (D.getD (m + 1) (0, 0, 0, E0)).it) := fun h => by rw [show bst D side (m + 1) = m + 1 by show (if _ then _ else _) = _; rw [if_pos h]]
      have R2 : Hid (cmpQ (D.getD (m + 1) (0, 0, 0, E0)) (D.getD (bst D side m) (0, 0, 0, E0)) ≠ side → (D.getD (bst D side (m + 1)) (0, 0, 0, E0)).it = (D.getD (bst D side m) (0, 0, 0, E0)).it) := fun h => by rw [show bst D side (m + 1) = bst D side m by show (if _ then _ else _) = _; rw [if_neg h]]
      generalize cmpQ (D.getD (m + 1) (0, 0, 0, E0)) (D.getD (bst D side m) (0, 0, 0, E0)) = c at HC R1 R2
      generalize (D.getD (m + 1) (0, 0, 0, E0)).it = y at hcell HC R1
      generalize (D.getD (bst D side m) (0, 0, 0, E0)).it = z' at HC R2 ⊢
      have hl : (m : Int) < ((D.length - 1 : Nat) : Int) := by omega
      clear hq hb
      by_cases hs : c = side
      · have R1' : Hid _ := R1.out hs
        have hs' : (c == side) = true := by simpa using hs
        clear R1 R2 hs
        go_wp2_with fail
        refine Calls.mono (Hid.out HC) ?_
        rintro e w1 ⟨rfl, hb1⟩
        have HG1 : Hid (G w w1) := HG.out.trans hb1
        clear hb1
        go_wp2
        go_roundw
        case rel => exact ⟨m + 1, by omega, by go_num, HG1.out, R1'.out.symm⟩
        case measure => simp [RowKit.intOf]; omega
      · have R2' : Hid _ := R2.out hs
        have hs' : (c == side) = false := beq_false_of_ne hs
        clear R1 R2 hs
        go_wp2_with fail
        refine Calls.mono (Hid.out HC) ?_
        rintro e w1 ⟨rfl, hb1⟩
        have HG1 : Hid (G w w1) := HG.out.trans hb1
        clear hb1
        go_wp2
        go_roundw
        case rel => exact ⟨m + 1, by omega, by go_num, HG1.out, R2'.out.symm⟩
        case measure => simp [RowKit.intOf]; omega
    · have em : m = D.length - 1 := by omega
      have HM : Hid (bst D side m = bst D side (D.length - 1)) := by unfold Hid; rw [em]
      have hge : ¬ (m : Int) < ((D.length - 1 : Nat) : Int) := by omega
      generalize hz : (D.getD (bst D side m) (0, 0, 0, E0)).it = y
      have HZ : Hid ((D.getD (bst D side (D.length - 1)) (0, 0, 0, E0)).it = y) := by unfold Hid; rw [← HM.out]; exact hz
      clear hz hb bl em
      go_wp2
      go_ret
      have e := HRR.out.symm.trans HZ.out
      exact ⟨by rw [e]; rfl, HG.out⟩
theorem out_any (g cap : Nat) (D : List Qd) (side : Int) (hD : ∀ q ∈ D, q.ok = true) (h0 : 0 < D.length) (hn : D.length ≤ 140737488351232) (w : World) (hR : Rks w) (hI : IRow w (.slice (some ⟨g, 0, none⟩) D.length cap) (D.map Qd.it)) (hcap : D.length ≤ cap) :
    Calls Tryz.prog 129 #[.slice (some ⟨g, 0, none⟩) D.length cap, .int .i64 side] w fun e w' => e = .returned ((D.getD (bst D side (D.length - 1)) (0, 0, 0, E0)).it) ∧ G w w' := by
  by_cases h1 : cap = 1
  · exact out_1 g cap D side hD h0 hn w hR hI hcap h1 _ rfl
  · exact out_2 g cap D side hD h0 hn w hR hI hcap h1 _ rfl
set_option maxRecDepth 100000 in
set_option maxHeartbeats 2000000 in
theorem out_nil (side : Int) (w : World) : Calls Tryz.prog 129 #[.slice none 0 0, .int .i64 side] w fun e w' => e = .returned (.iface 100 (.agg #[])) ∧ G w w' := by
  go_enter Tryz.func129, Tryz.ntmps129
  go_wp2
  go_ret
  exact ⟨rfl, G.refl _⟩
set_option maxRecDepth 100000 in
set_option maxHeartbeats 2000000 in
theorem mean_nil (w : World) : Calls Tryz.prog 130 #[.slice none 0 0] w fun e w' => e = .returned (.tuple #[.iface 100 (.agg #[]), .int .i64 0]) ∧ G w w' := by
  go_enter Tryz.func130, Tryz.ntmps130
  go_wp2
  go_ret2
  exact ⟨rfl, G.refl _⟩
set_option maxRecDepth 100000 in
set_option maxHeartbeats 2000000 in
theorem mean_err (g n cap : Nat) (h0 : 0 < n) (rv : Value) (c : Int) (hc : (c != 0) = true) (w : World) (h : Calls Tryz.prog 128 #[.slice (some ⟨g, 0, none⟩) n cap] w fun e w' => e = .returned (.tuple #[rv, .int .i64 c]) ∧ G w w') :
    Calls Tryz.prog 130 #[.slice (some ⟨g, 0, none⟩) n cap] w fun e w' => e = .returned (.tuple #[.nilIface, .int .i64 c]) ∧ G w w' := by
  have H : Hid _ := h
  have z : ((n : Int) == 0) = false := beq_false_of_ne (by omega)
  clear h
  go_enter Tryz.func130, Tryz.ntmps130
  go_wp2_with fail
  refine Calls.mono (Hid.out H) ?_
  rintro e w1 ⟨rfl, hb1⟩
  go_wp2
  go_ret2
  exact ⟨rfl, hb1⟩
set_option maxRecDepth 100000 in
set_option maxHeartbeats 2000000 in
theorem mean_ok (g n cap : Nat) (h0 : 0 < n) (rv rv2 : Value) (c : Int) (w : World) (h : Calls Tryz.prog 128 #[.slice (some ⟨g, 0, none⟩) n cap] w fun e w' => e = .returned (.tuple #[rv, .int .i64 0]) ∧ G w w') (h2 : ∀ w, Calls Tryz.prog 87 #[.int .i64 4, rv, IW n] w fun e w' => e = .returned (.tuple #[rv2, .int .i64 c]) ∧ G w w') :
    Calls Tryz.prog 130 #[.slice (some ⟨g, 0, none⟩) n cap] w fun e w' => e = .returned (.tuple #[rv2, .int .i64 c]) ∧ G w w' := by
  have H : Hid _ := h
  have H2 : Hid _ := h2
  have z : ((n : Int) == 0) = false := beq_false_of_ne (by omega)
  clear h h2
  go_enter Tryz.func130, Tryz.ntmps130
  go_wp2_with fail
  refine Calls.mono (Hid.out H) ?_
  rintro e w1 ⟨rfl, hb1⟩
  go_wp2_with fail
  refine (H2.out _).mono ?_
  rintro e w2 ⟨rfl, hb2⟩
  go_wp2
  go_ret2
  exact ⟨rfl, hb1.trans hb2⟩
set_option maxRecDepth 100000 in
set_option maxHeartbeats 2000000 in
theorem sum_nil (w : World) : Calls Tryz.prog 128 #[.slice none 0 0] w fun e w' => e = .returned (.tuple #[IW 0, .int .i64 0]) ∧ G w w' := by
  go_enter Tryz.func128, Tryz.ntmps128
  go_wp2
  go_loopw [15] (fun i W => i = .int .i64 0 ∧ W = w) (fun _ _ => 0)
  case atStart => exact ⟨rfl, rfl⟩
  case round =>
    obtain ⟨rfl, rfl⟩ := hrel
    go_wp2
    go_loopw [8, 30] (fun x i W => x = IW 0 ∧ i = .int .i64 0 ∧ W = wr) (fun _ _ _ => 0)
    case atStart => exact ⟨rfl, rfl, rfl⟩
    case round =>
      obtain ⟨rfl, rfl, rfl⟩ := hrel
      go_wp2
      go_ret2
      exact ⟨rfl, G.refl _⟩
end Go.Proofs.YtnoajhegcjoebabGreatDoor
