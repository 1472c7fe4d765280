/- Fold of the program. -/
import Derived.Test.YtnoajhegcjoebabGreatDoorFold1
namespace Go.Proofs.YtnoajhegcjoebabGreatDoor
open Go.RowKit Go.Lib Go.Shelf

abbrev Q0 : Qd := (0, 0, 0, E0)
theorem sumEnd_ex (D : List Qd) : ∃ m, SumEnd D m := by
  suffices h : ∀ n, n ≤ D.length → (∀ j, j < n → cod D j = 0) ∨ ∃ m, SumEnd D m by
    rcases h D.length (Nat.le_refl _) with h | h
    · exact ⟨D.length, h, .inl rfl⟩
    · exact h
  intro n
  induction n with
  | zero => exact fun _ => .inl fun j hj => absurd hj (Nat.not_lt_zero j)
  | succ n ih =>
    intro hn
    rcases ih (by omega) with h | h
    · by_cases c : cod D n = 0
      · refine .inl fun j hj => ?_
        rcases Nat.lt_or_ge j n with d | d
        · exact h j d
        · have : j = n := by omega
          rw [this]; exact c
      · exact .inr ⟨n, h, .inr ⟨by omega, c⟩⟩
    · exact .inr h
/-- A sum's outcome: the item, the code, the value. -/
def SR (D : List Qd) (rv : Value) (c : Int) (q : Qd) : Prop := (allNum D = false ∧ rv = .nilIface ∧ c = 10 ∧ q = Q0) ∨
  (allNum D = true ∧ ∃ m0, SumEnd D m0 ∧ ((m0 = D.length ∧ rv = (tot D D.length).1 ∧ c = 0 ∧ q = (tot D D.length).2) ∨ (m0 < D.length ∧ rv = .nilIface ∧ c = cod D m0 ∧ q = Q0)))
/-- An aggregate's outcome. -/
def FR (agg : Int) (D : List Qd) (rv : Value) (c : Int) (q : Qd) : Prop :=
  (agg = 1 ∧ rv = IW D.length ∧ c = 0 ∧ q = (2, (D.length : Int), 0, E0)) ∨ (agg = 2 ∧ SR D rv c q) ∨
  ((agg = 3 ∨ agg = 4 ∨ agg = 5) ∧ D = [] ∧ rv = .iface 100 (.agg #[]) ∧ c = 0 ∧ q = Q0) ∨
  (agg = 3 ∧ D ≠ [] ∧ rv = (D.getD (bst D (-1) (D.length - 1)) Q0).it ∧ c = 0 ∧ q = D.getD (bst D (-1) (D.length - 1)) Q0) ∨
  (agg = 4 ∧ D ≠ [] ∧ rv = (D.getD (bst D 1 (D.length - 1)) Q0).it ∧ c = 0 ∧ q = D.getD (bst D 1 (D.length - 1)) Q0) ∨
  (agg = 5 ∧ D ≠ [] ∧ ((∃ rv0, SR D rv0 c q ∧ c ≠ 0 ∧ rv = .nilIface) ∨ ∃ rv0 q0, SR D rv0 0 q0 ∧ StepS 4 rv0 q0 (IW D.length) (2, (D.length : Int), 0, E0) (rv, c, q)))
/-- What is asked of the list. -/
def GoodD (D : List Qd) : Prop := (∀ q ∈ D, q.ok = true ∧ q.1 ≠ 0 ∧ I64 q.2.1) ∧ D.length ≤ 140737488351232
theorem good_num {D : List Qd} (h : GoodD D) (hA : allNum D = true) : ∀ q ∈ D, Qd.num q := fun q hq => by
  obtain ⟨h1, _, h3⟩ := h.1 q hq
  have := List.all_eq_true.1 hA q hq
  simp at this
  exact ⟨h1, this, h3⟩
theorem sr_ex (D : List Qd) : ∃ rv c q, SR D rv c q := by
  cases hA : allNum D
  · exact ⟨_, _, _, .inl ⟨hA, rfl, rfl, rfl⟩⟩
  · obtain ⟨m, hm⟩ := sumEnd_ex D
    rcases hm.2 with h | ⟨h, _⟩
    · exact ⟨_, _, _, .inr ⟨hA, m, hm, .inl ⟨h, rfl, rfl, rfl⟩⟩⟩
    · exact ⟨_, _, _, .inr ⟨hA, m, hm, .inr ⟨h, rfl, rfl, rfl⟩⟩⟩
theorem sr_num {D : List Qd} (hD : GoodD D) {rv : Value} {q : Qd} (h : SR D rv 0 q) : NmbQ rv q := by
  rcases h with ⟨_, _, h, _⟩ | ⟨hA, m, hm, h⟩
  · cases h
  · rcases h with ⟨h, rfl, _, rfl⟩ | ⟨h, _, hc, _⟩
    · exact tot_nmb D (good_num hD hA) _ (Nat.le_refl _) (fun j hj => hm.1 j (by omega))
    · rcases hm.2 with e | ⟨_, e⟩
      · omega
      · exact absurd hc.symm e
theorem len_nmb {D : List Qd} (hD : GoodD D) : NmbQ (IW D.length) (2, (D.length : Int), 0, E0) := .inl ⟨rfl, rfl, rfl, ⟨by have := hD.2; simp only; omega, by have := hD.2; simp only; omega⟩, rfl⟩
theorem fr_ex (agg : Int) (h1 : 1 ≤ agg) (h5 : agg ≤ 5) (D : List Qd) (hD : GoodD D) : ∃ rv c q, FR agg D rv c q := by
  have d : agg = 1 ∨ agg = 2 ∨ agg = 3 ∨ agg = 4 ∨ agg = 5 := by omega
  rcases d with rfl | rfl | rfl | rfl | rfl
  · exact ⟨_, _, _, .inl ⟨rfl, rfl, rfl, rfl⟩⟩
  · obtain ⟨rv, c, q, h⟩ := sr_ex D
    exact ⟨rv, c, q, .inr (.inl ⟨rfl, h⟩)⟩
  · by_cases h : D = []
    · exact ⟨_, _, _, .inr (.inr (.inl ⟨.inl rfl, h, rfl, rfl, rfl⟩))⟩
    · exact ⟨_, _, _, .inr (.inr (.inr (.inl ⟨rfl, h, rfl, rfl, rfl⟩)))⟩
  · by_cases h : D = []
    · exact ⟨_, _, _, .inr (.inr (.inl ⟨.inr (.inl rfl), h, rfl, rfl, rfl⟩))⟩
    · exact ⟨_, _, _, .inr (.inr (.inr (.inr (.inl ⟨rfl, h, rfl, rfl, rfl⟩))))⟩
  · by_cases h : D = []
    · exact ⟨_, _, _, .inr (.inr (.inl ⟨.inr (.inr rfl), h, rfl, rfl, rfl⟩))⟩
    · obtain ⟨rv, c, q, hs⟩ := sr_ex D
      by_cases hc : c = 0
      · subst hc
        obtain ⟨s, hst⟩ := step_ex 4 (by decide) (by decide) (sr_num hD hs) (len_nmb hD)
        exact ⟨s.1, s.2.1, s.2.2, .inr (.inr (.inr (.inr (.inr ⟨rfl, h, .inr ⟨rv, q, hs, hst⟩⟩))))⟩
      · exact ⟨_, c, q, .inr (.inr (.inr (.inr (.inr ⟨rfl, h, .inl ⟨rv, hs, hc, rfl⟩⟩))))⟩
theorem nmb_iv {x : Value} {q : Qd} (h : NmbQ x q) : IVal x q.1 q.2.1 q.2.2.1 q.2.2.2 := by
  obtain ⟨k, a, b, s⟩ := q
  rcases h with ⟨hk, hb, hs, _, rfl⟩ | ⟨hk, hs, pa, pb, u, v, rfl, fu, fv⟩
  · simp only at hk hb hs ⊢
    subst hk; subst hb; subst hs
    exact iv_whole a
  · simp only at hk hs pa pb fu fv ⊢
    subst hk; subst hs
    exact iv_cpx u v a b fu fv pa.lt pb.lt
/-- What the face shows of an outcome. -/
theorem fr_ans {agg : Int} {D : List Qd} (hD : GoodD D) {rv : Value} {c : Int} {q : Qd} (h : FR agg D rv c q) (w : World) : Calls Tryz.prog 33 #[rv, .int .i64 c] w fun e w' => e = .returned (.tuple #[q.W, .int .i64 c]) ∧ G w w' := by
  have err : ∀ {c : Int} {rv : Value}, c ≠ 0 → Calls Tryz.prog 33 #[rv, .int .i64 c] w fun e w' => e = .returned (.tuple #[Qd.W Q0, .int .i64 c]) ∧ G w w' := fun hc => answer_err _ _ (by simpa using hc) w
  have srq : ∀ {rv : Value} {c : Int} {q : Qd}, SR D rv c q → c ≠ 0 → q = Q0 := by
    intro rv c q hs hc
    rcases hs with ⟨_, _, _, rfl⟩ | ⟨_, m, _, ⟨_, _, h0, _⟩ | ⟨_, _, _, rfl⟩⟩
    · rfl
    · exact absurd h0 hc
    · rfl
  rcases h with ⟨_, rfl, rfl, rfl⟩ | ⟨_, hs⟩ | ⟨_, _, rfl, rfl, rfl⟩ | ⟨_, hne, rfl, rfl, rfl⟩ | ⟨_, hne, rfl, rfl, rfl⟩ | ⟨_, _, ⟨rv0, hs, hc, rfl⟩ | ⟨rv0, q0, hs, hst⟩⟩
  · exact answer_whole _ w
  · by_cases hc : c = 0
    · subst hc
      exact answer_iv (nmb_iv (sr_num hD hs)) w
    · rw [srq hs hc]
      exact err hc
  · exact answer_null w
  · have hm : D.getD (bst D (-1) (D.length - 1)) Q0 ∈ D := by
      have := bst_le D (-1) (D.length - 1)
      have hl : 0 < D.length := List.length_pos_iff.2 hne
      rw [List.getD_eq_getElem?_getD, List.getElem?_eq_getElem (show bst D (-1) (D.length - 1) < D.length by omega)]
      exact List.getElem_mem _
    exact answer_iv (ival_any _ _ _ _ (hD.1 _ hm).1) w
  · have hm : D.getD (bst D 1 (D.length - 1)) Q0 ∈ D := by
      have := bst_le D 1 (D.length - 1)
      have hl : 0 < D.length := List.length_pos_iff.2 hne
      rw [List.getD_eq_getElem?_getD, List.getElem?_eq_getElem (show bst D 1 (D.length - 1) < D.length by omega)]
      exact List.getElem_mem _
    exact answer_iv (ival_any _ _ _ _ (hD.1 _ hm).1) w
  · rw [srq hs hc]
    exact err hc
  · rcases hst.2.1 with ⟨h0, hn⟩ | ⟨h0, e1, e2, e3, e4⟩
    · simp only at h0 hn
      subst h0
      exact answer_iv (nmb_iv hn) w
    · have hc : c ≠ 0 := fun e => h0.mp e
      have : q = Q0 := Prod.ext e1 (Prod.ext e2 (Prod.ext e3 e4))
      rw [this]
      exact err hc
set_option maxRecDepth 100000 in
set_option maxHeartbeats 2000000 in
theorem fo_1 (x : Value) (n cap : Nat) (a : Option Addr) (hx : x = .slice a n cap) (w : World) : Calls Tryz.prog 95 #[.int .i64 1, x] w fun e w' => e = .returned (.tuple #[IW n, .int .i64 0]) ∧ G w w' := by
  subst hx
  go_enter Tryz.func95, Tryz.ntmps95
  go_wp2
  go_ret2
  exact ⟨rfl, G.refl _⟩
set_option maxRecDepth 100000 in
set_option maxHeartbeats 2000000 in
theorem fo_2 (x rv : Value) (c : Int) (w : World) (h : Calls Tryz.prog 128 #[x] w fun e w' => e = .returned (.tuple #[rv, .int .i64 c]) ∧ G w w') : Calls Tryz.prog 95 #[.int .i64 2, x] w fun e w' => e = .returned (.tuple #[rv, .int .i64 c]) ∧ G w w' := by
  have H : Hid _ := h
  clear h
  go_enter Tryz.func95, Tryz.ntmps95
  go_wp2_with fail
  refine Calls.mono (Hid.out H) ?_
  rintro e w1 ⟨rfl, hb1⟩
  go_wp2
  go_ret2
  exact ⟨rfl, hb1⟩
set_option maxRecDepth 100000 in
set_option maxHeartbeats 2000000 in
theorem fo_3 (x rv : Value) (w : World) (h : Calls Tryz.prog 129 #[x, .int .i64 (-1)] w fun e w' => e = .returned (rv) ∧ G w w') : Calls Tryz.prog 95 #[.int .i64 3, x] w fun e w' => e = .returned (.tuple #[rv, .int .i64 0]) ∧ G w w' := by
  have H : Hid _ := h
  clear h
  go_enter Tryz.func95, Tryz.ntmps95
  go_wp2_with fail
  refine Calls.mono (Hid.out H) ?_
  rintro e w1 ⟨rfl, hb1⟩
  go_wp2
  go_ret2
  exact ⟨rfl, hb1⟩
set_option maxRecDepth 100000 in
set_option maxHeartbeats 2000000 in
theorem fo_4 (x rv : Value) (w : World) (h : Calls Tryz.prog 129 #[x, .int .i64 1] w fun e w' => e = .returned (rv) ∧ G w w') : Calls Tryz.prog 95 #[.int .i64 4, x] w fun e w' => e = .returned (.tuple #[rv, .int .i64 0]) ∧ G w w' := by
  have H : Hid _ := h
  clear h
  go_enter Tryz.func95, Tryz.ntmps95
  go_wp2_with fail
  refine Calls.mono (Hid.out H) ?_
  rintro e w1 ⟨rfl, hb1⟩
  go_wp2
  go_ret2
  exact ⟨rfl, hb1⟩
set_option maxRecDepth 100000 in
set_option maxHeartbeats 2000000 in
theorem fo_5 (x rv : Value) (c : Int) (w : World) (h : Calls Tryz.prog 130 #[x] w fun e w' => e = .returned (.tuple #[rv, .int .i64 c]) ∧ G w w') : Calls Tryz.prog 95 #[.int .i64 5, x] w fun e w' => e = .returned (.tuple #[rv, .int .i64 c]) ∧ G w w' := by
  have H : Hid _ := h
  clear h
  go_enter Tryz.func95, Tryz.ntmps95
  go_wp2_with fail
  refine Calls.mono (Hid.out H) ?_
  rintro e w1 ⟨rfl, hb1⟩
  go_wp2
  go_ret2
  exact ⟨rfl, hb1⟩
set_option maxRecDepth 100000 in
set_option maxHeartbeats 2000000 in
theorem out_zero (a : Option Addr) (cap : Nat) (side : Int) (w : World) : Calls Tryz.prog 129 #[.slice a 0 cap, .int .i64 side] w fun e w' => e = .returned (.iface 100 (.agg #[])) ∧ G w w' := by
  go_enter Tryz.func129, Tryz.ntmps129
  go_wp2
  go_ret
  exact ⟨rfl, G.refl _⟩
set_option maxRecDepth 100000 in
set_option maxHeartbeats 2000000 in
theorem mean_zero (a : Option Addr) (cap : Nat) (w : World) : Calls Tryz.prog 130 #[.slice a 0 cap] w fun e w' => e = .returned (.tuple #[.iface 100 (.agg #[]), .int .i64 0]) ∧ G w w' := by
  go_enter Tryz.func130, Tryz.ntmps130
  go_wp2
  go_ret2
  exact ⟨rfl, G.refl _⟩
/-- sum, at whatever list. -/
theorem sm_any {D : List Qd} (hD : GoodD D) {rv : Value} {c : Int} {q : Qd} (h : SR D rv c q) (x : Value) (w : World) (hI : IRow w x (D.map Qd.it)) : Calls Tryz.prog 128 #[x] w fun e w' => e = .returned (.tuple #[rv, .int .i64 c]) ∧ G w w' := by
  rcases hI with ⟨rfl, hn⟩ | ⟨g, cap, rfl, hcap, hcell⟩
  · have : D = [] := List.map_eq_nil_iff.1 hn
    subst this
    rcases h with ⟨h, _⟩ | ⟨_, m, _, ⟨_, rfl, rfl, _⟩ | ⟨h, _⟩⟩
    · cases h
    · exact sum_nil w
    · exact absurd h (Nat.not_lt_zero _)
  · have hI : IRow w (.slice (some ⟨g, 0, none⟩) D.length cap) (D.map Qd.it) := .inr ⟨g, cap, by rw [List.length_map], hcap, hcell⟩
    rw [List.length_map]
    rcases h with ⟨hA, rfl, rfl, _⟩ | ⟨hA, m, hm, hr⟩
    · exact sum_no g cap D (fun q hq => ⟨(hD.1 q hq).1, (hD.1 q hq).2.1⟩) hD.2 w hI hA
    · exact sum_yes g cap D (good_num hD hA) hD.2 w hI m hm rv c (by
        rcases hr with ⟨h1, h2, h3, _⟩ | ⟨h1, h2, h3, _⟩
        · exact .inl ⟨h1, h2, h3⟩
        · exact .inr ⟨h1, h2, h3⟩)
/-- fold, at whatever list. -/
theorem fo_any {agg : Int} {D : List Qd} (hD : GoodD D) {rv : Value} {c : Int} {q : Qd} (h : FR agg D rv c q) (x : Value) (w : World) (hR : Rks w) (hI : IRow w x (D.map Qd.it)) : Calls Tryz.prog 95 #[.int .i64 agg, x] w fun e w' => e = .returned (.tuple #[rv, .int .i64 c]) ∧ G w w' := by
  have hsl : ∃ a n cap, x = .slice a n cap ∧ n = D.length := by
    rcases hI with ⟨rfl, hn⟩ | ⟨g, cap, rfl, _, _⟩
    · exact ⟨_, _, _, rfl, by rw [List.map_eq_nil_iff.1 hn]; rfl⟩
    · exact ⟨_, _, _, rfl, by rw [List.length_map]⟩
  have nn : D = [] → ∃ a cap, x = .slice a 0 cap := fun e => by
    rcases hI with ⟨rfl, _⟩ | ⟨g, cap, rfl, _, _⟩
    · exact ⟨_, _, rfl⟩
    · exact ⟨_, cap, by rw [e]; rfl⟩
  have som : D ≠ [] → ∃ g cap, x = .slice (some ⟨g, 0, none⟩) D.length cap ∧ D.length ≤ cap ∧ IRow w (.slice (some ⟨g, 0, none⟩) D.length cap) (D.map Qd.it) := fun e => by
    rcases hI with ⟨rfl, hn⟩ | ⟨g, cap, rfl, hcap, hcell⟩
    · exact absurd (List.map_eq_nil_iff.1 hn) e
    · rw [List.length_map] at hcap ⊢
      exact ⟨g, cap, rfl, hcap, .inr ⟨g, cap, by rw [List.length_map], by rw [List.length_map]; exact hcap, hcell⟩⟩
  rcases h with ⟨rfl, rfl, rfl, _⟩ | ⟨rfl, hs⟩ | ⟨ha, hn, rfl, rfl, _⟩ | ⟨rfl, hne, rfl, rfl, _⟩ | ⟨rfl, hne, rfl, rfl, _⟩ | ⟨rfl, hne, hm⟩
  · obtain ⟨a, n, cap, hx, rfl⟩ := hsl
    exact fo_1 x _ cap a hx w
  · exact fo_2 x rv c w (sm_any hD hs x w hI)
  · obtain ⟨a, cap, rfl⟩ := nn hn
    rcases ha with rfl | rfl | rfl
    · exact fo_3 _ _ w (out_zero a cap _ w)
    · exact fo_4 _ _ w (out_zero a cap _ w)
    · exact fo_5 _ _ _ w (mean_zero a cap w)
  · obtain ⟨g, cap, rfl, hc, hI'⟩ := som hne
    exact fo_3 _ _ w (out_any g cap D (-1) (fun q hq => (hD.1 q hq).1) (List.length_pos_iff.2 hne) hD.2 w hR hI' hc)
  · obtain ⟨g, cap, rfl, hc, hI'⟩ := som hne
    exact fo_4 _ _ w (out_any g cap D 1 (fun q hq => (hD.1 q hq).1) (List.length_pos_iff.2 hne) hD.2 w hR hI' hc)
  · obtain ⟨g, cap, rfl, hc, hI'⟩ := som hne
    rcases hm with ⟨rv0, hs, hc, rfl⟩ | ⟨rv0, q0, hs, hst⟩
    · exact fo_5 _ _ _ w (mean_err g _ cap (List.length_pos_iff.2 hne) rv0 c (by simpa using hc) w (sm_any hD hs _ w hI'))
    · exact fo_5 _ _ _ w (mean_ok g _ cap (List.length_pos_iff.2 hne) rv0 rv c w (sm_any hD hs _ w hI') hst.1)
set_option maxRecDepth 100000 in
set_option maxHeartbeats 2000000 in
theorem Fold_arg (agg : Int) (x : Value) (ho : agg < 1 ∨ 5 < agg) (w : World) : Calls Tryz.prog 51 #[.int .i64 agg, x] w fun e w' => e = .returned (.tuple #[V0, .int .i64 1]) ∧ G w w' := by
  by_cases h : agg < 1
  · clear ho
    go_enter Tryz.func51, Tryz.ntmps51
    go_wp2
    exact bodyPost_ret (v := .tuple #[V0, .int .i64 1]) (by simp [results, Tryz.results51, go_sem]) rfl ⟨rfl, by repeat (first | exact G.refl _ | refine G.alloc ?_ _ | refine G.setCell ?_ (by simp) _)⟩
  · have h' : 5 < agg := by omega
    clear ho
    go_enter Tryz.func51, Tryz.ntmps51
    go_wp2
    exact bodyPost_ret (v := .tuple #[V0, .int .i64 1]) (by simp [results, Tryz.results51, go_sem]) rfl ⟨rfl, by repeat (first | exact G.refl _ | refine G.alloc ?_ _ | refine G.setCell ?_ (by simp) _)⟩
/-- What known makes of a list. -/
theorem known_any (x : Value) (L : List Qd) (w : World) (hT : Tabs w) (hV : VRow w x L) (hn : L.length * 40 ≤ 140737488351232) :
    Calls Tryz.prog 94 #[x] w fun e w' => ((L.all Qd.ok = true ∧ ∃ x', e = .returned (.tuple #[x', .bool true]) ∧ IRow w' x' (itemsOf L)) ∨ (L.all Qd.ok = false ∧ e = .returned (.tuple #[.slice none 0 0, .bool false]))) ∧ G w w' := by
  have hV' := hV
  rcases hV with ⟨rfl, rfl⟩ | ⟨b, off, cap, rfl, _, _⟩
  · refine (known_nil w).mono ?_
    rintro e w1 ⟨rfl, hb⟩
    exact ⟨.inl ⟨rfl, _, rfl, .inl ⟨rfl, rfl⟩⟩, hb⟩
  · exact known_some b off cap L w hT hV' hn
set_option maxRecDepth 100000 in
set_option maxHeartbeats 2000000 in
theorem Fold_bad (agg : Int) (h1 : 1 ≤ agg) (h5 : agg ≤ 5) (x : Value) (L : List Qd) (w : World) (hT : Tabs w) (hV : VRow w x L) (hn : L.length * 40 ≤ 140737488351232) (hA : L.all Qd.ok = false) : Calls Tryz.prog 51 #[.int .i64 agg, x] w fun e w' => e = .returned (.tuple #[V0, .int .i64 16]) ∧ G w w' := by
  have H : Hid (∀ W, G w W → Calls Tryz.prog 94 #[x] W fun e w' => e = .returned (.tuple #[.slice none 0 0, .bool false]) ∧ G W w') := fun W g => by
    refine (known_any x L W (hT.G g) (hV.G g) hn).mono ?_
    rintro e w1 ⟨h, hb⟩
    rcases h with ⟨h, _⟩ | ⟨_, rfl⟩
    · rw [hA] at h; cases h
    · exact ⟨rfl, hb⟩
  clear hV hA hT
  go_enter Tryz.func51, Tryz.ntmps51
  go_wp2_with fail
  refine (H.out _ ((G.refl w).alloc _)).mono ?_
  rintro e w1 ⟨rfl, hb1⟩
  have g1 : G w w1 := ((G.refl w).alloc _).trans hb1
  obtain ⟨hc1, hf1⟩ := hb1.rules
  go_wp2
  exact bodyPost_ret (v := .tuple #[V0, .int .i64 16]) (by simp [results, Tryz.results51, go_sem, hc1]) rfl ⟨rfl, by
    repeat (first | exact g1 | refine G.alloc ?_ _ | refine G.setCell ?_ (by first | (simp; done) | (simp; omega)) _)⟩
/-- The list without its nulls. -/
def noNull (L : List Qd) : List Qd := L.filter fun q => q.1 != 0
set_option maxRecDepth 100000 in
set_option maxHeartbeats 2000000 in
theorem Fold_ok (agg : Int) (h1 : 1 ≤ agg) (h5 : agg ≤ 5) (x : Value) (L : List Qd) (w : World) (hT : Tabs w) (hR : Rks w) (hV : VRow w x L) (hn : L.length * 40 ≤ 140737488351232) (hA : L.all Qd.ok = true) (hD : GoodD (noNull L)) (rv : Value) (c : Int) (q : Qd) (hF : FR agg (noNull L) rv c q) :
    Calls Tryz.prog 51 #[.int .i64 agg, x] w fun e w' => e = .returned (.tuple #[q.W, .int .i64 c]) ∧ G w w' := by
  have H : Hid (∀ W, G w W → Calls Tryz.prog 94 #[x] W fun e w' => (∃ x', e = .returned (.tuple #[x', .bool true]) ∧ IRow w' x' ((noNull L).map Qd.it)) ∧ G W w') := fun W g => by
    refine (known_any x L W (hT.G g) (hV.G g) hn).mono ?_
    rintro e w1 ⟨h, hb⟩
    rcases h with ⟨_, h⟩ | ⟨h, _⟩
    · exact ⟨h, hb⟩
    · rw [hA] at h; cases h
  have H2 : Hid (∀ x' W, G w W → IRow W x' ((noNull L).map Qd.it) → Calls Tryz.prog 95 #[.int .i64 agg, x'] W fun e w' => e = .returned (.tuple #[rv, .int .i64 c]) ∧ G W w') := fun x' W g hI => fo_any hD hF x' W (hR.G g) hI
  have H3 : Hid _ := fr_ans hD hF
  clear hV hA hT hD hF
  obtain ⟨qk, qa, qb, qs⟩ := q
  go_enter Tryz.func51, Tryz.ntmps51
  go_wp2_with fail
  refine (H.out _ ((G.refl w).alloc _)).mono ?_
  rintro e w1 ⟨⟨x', rfl, hI⟩, hb1⟩
  have HI : Hid _ := hI
  clear hI
  have g1 : G w w1 := ((G.refl w).alloc _).trans hb1
  obtain ⟨hc1, hf1⟩ := hb1.rules
  have hz1 : w.heap.size < w1.heap.size := by have := hb1.size; simp at this; omega
  go_wp2_with fail
  refine (H2.out _ _ g1 HI.out).mono ?_
  rintro e w2 ⟨rfl, hb2⟩
  have g2 : G w w2 := g1.trans hb2
  obtain ⟨hc2, hf2⟩ := hb2.rules
  have hz2 : w.heap.size < w2.heap.size := by have := hb2.size; omega
  go_wp2_with fail
  refine (H3.out _).mono ?_
  rintro e w3 ⟨rfl, hb3⟩
  have g3 : G w w3 := g2.trans hb3
  obtain ⟨hc3, hf3⟩ := hb3.rules
  go_wp2
  exact bodyPost_ret (v := .tuple #[V qk qa qb qs, .int .i64 c]) (by simp [results, Tryz.results51, go_sem, hc1, hc2, hc3, hz1, hz2]) rfl ⟨rfl, by
    repeat (first | exact g3 | refine G.alloc ?_ _ | refine G.setCell ?_ (by first | (simp; done) | (simp; omega)) _)⟩
end Go.Proofs.YtnoajhegcjoebabGreatDoor
