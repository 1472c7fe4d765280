/- Binary: arithmetic; the whole; plays at its kind. -/
import Derived.Test.YtnoajhegcjoebabGreatDoorBinAg
import Derived.Test.YtnoajhegcjoebabGreatDoorMixed
import Derived.Test.YtnoajhegcjoebabGreatDoorCxAgree
import Derived.Test.YtnoajhegcjoebabGreatDoorRefAr
import Derived.Test.YtnoajhegcjoebabGreatDoorScriptOpen
namespace Go.Proofs.YtnoajhegcjoebabGreatDoor
open Go.RowKit Go.Lib Go.Shelf
attribute [local go_sem] eqV neqV

/-- Both answers of arithmetic. -/
def ArA (op k a b k' a' b' : Int) (s s' : ByteArray) : Prop := ∃ (rv : Value) (c rk ra rb : Int) (rs : ByteArray), (∀ w, Calls Tryz.prog 87 #[.int .i64 op, itemV k a b s, itemV k' a' b' s'] w fun e w' => e = .returned (.tuple #[rv, .int .i64 c]) ∧ G w w') ∧
  (∀ w, Calls Tryz.prog 33 #[rv, .int .i64 c] w fun e w' => e = .returned (.tuple #[V rk ra rb rs, .int .i64 c]) ∧ G w w') ∧ (∀ w, Calls Tryz.prog 45 #[.int .i64 op, V k a b s, V k' a' b' s'] w fun e w' => e = .returned (.tuple #[V rk ra rb rs, .int .i64 c]) ∧ G w w')
/-- Whole numbers. -/
def WwA (op a a' : Int) : Prop := ∃ (rv : Value) (c rk ra rb : Int) (rs : ByteArray), (∀ w, Calls Tryz.prog 122 #[.int .i64 op, .int .i64 a, .int .i64 a'] w fun e w' => e = .returned (.tuple #[rv, .int .i64 c]) ∧ G w w') ∧
  (∀ w, Calls Tryz.prog 33 #[rv, .int .i64 c] w fun e w' => e = .returned (.tuple #[V rk ra rb rs, .int .i64 c]) ∧ G w w') ∧ (∀ w, Calls Tryz.prog 88 #[.int .i64 op, .int .i64 a, .int .i64 a'] w fun e w' => e = .returned (.tuple #[V rk ra rb rs, .int .i64 c]) ∧ G w w')
theorem wwa_1 (a b : Int) (ha : I64 a) (hb : I64 b) : WwA 1 a b := by
  by_cases h : I64 (a + b)
  · exact ⟨_, 0, _, _, _, _, wa_add a b h, answer_whole _, rin_add a b ha hb h⟩
  · exact ⟨_, 11, _, _, _, _, wa_add_no a b ha hb h, answer_err _ 11 (by decide), rin_add_no a b ha hb h⟩
theorem wwa_2 (a b : Int) (ha : I64 a) (hb : I64 b) : WwA 2 a b := by
  by_cases hm : b = -9223372036854775808
  · subst hm
    by_cases h : a < 0
    · have h64 : I64 (a - -9223372036854775808) := by obtain ⟨h1, h2⟩ := ha; constructor <;> omega
      have := rin_sub_m a ha h
      rw [show a + 9223372036854775808 = a - -9223372036854775808 by omega] at this
      exact ⟨_, 0, _, _, _, _, wa_sub a _ h64, answer_whole _, this⟩
    · have h64 : ¬ I64 (a - -9223372036854775808) := by unfold I64; omega
      exact ⟨_, 11, _, _, _, _, wa_sub_no a _ ha hb h64, answer_err _ 11 (by decide), rin_sub_mno a h⟩
  · by_cases h : I64 (a - b)
    · exact ⟨_, 0, _, _, _, _, wa_sub a b h, answer_whole _, rin_sub a b ha hb (beq_false_of_ne hm) h⟩
    · exact ⟨_, 11, _, _, _, _, wa_sub_no a b ha hb h, answer_err _ 11 (by decide), rin_sub_no a b ha hb (beq_false_of_ne hm) h⟩
theorem wwa_3 (a b : Int) (ha : I64 a) (hb : I64 b) : WwA 3 a b := by
  by_cases h : I64 (a * b)
  · exact ⟨_, 0, _, _, _, _, wa_mul a b h hb, answer_whole _, rin_mul a b ha hb h⟩
  · exact ⟨_, 11, _, _, _, _, wa_mul_no a b ha hb h, answer_err _ 11 (by decide), rin_mul_no a b ha hb h⟩
theorem wwa_4 (a b : Int) (ha : I64 a) : WwA 4 a b := by
  by_cases h0 : b = 0
  · subst h0
    exact ⟨_, 12, _, _, _, _, wa_zero 4 a (.inl rfl), answer_err _ 12 (by decide), rin_zero4 a⟩
  · by_cases h1 : b = -1
    · subst h1
      by_cases hm : a = -9223372036854775808
      · subst hm
        exact ⟨_, 11, _, _, _, _, wa_div _ _ _ _ rfl divWhole_range, answer_err _ 11 (by decide), rin_div_mno⟩
      · have e : a.tdiv (-1) = -a := by rw [Int.tdiv_neg, Int.tdiv_one]
        have hw : wrap64 (a.tdiv (-1)) = -a := by rw [e]; obtain ⟨h1, h2⟩ := ha; unfold wrap64; omega
        exact ⟨_, 0, _, _, _, _, wa_div _ _ _ _ rfl (divWhole_ok a (-1) _ (by decide) (.inl (beq_false_of_ne hm)) hw), answer_whole _, rin_div_m a (by obtain ⟨h1, h2⟩ := ha; omega) ha.2⟩
    · have hw := w64 (tdiv_i64 a b ha h0 (fun h => h1 h.2))
      exact ⟨_, 0, _, _, _, _, wa_div _ _ _ _ (beq_false_of_ne h0) (divWhole_ok a b _ h0 (.inr (beq_false_of_ne h1)) hw), answer_whole _, rin_div a b _ (beq_false_of_ne h0) (beq_false_of_ne h1) h0 hw⟩
theorem wwa_5 (a b : Int) (ha : I64 a) : WwA 5 a b := by
  by_cases h0 : b = 0
  · subst h0
    exact ⟨_, 12, _, _, _, _, wa_zero 5 a (.inr rfl), answer_err _ 12 (by decide), rin_zero5 a⟩
  · by_cases h1 : b = -1
    · subst h1
      have e : a.tmod (-1) = 0 := by rw [Int.tmod_neg, Int.tmod_one]
      by_cases hm : a = -9223372036854775808
      · subst hm
        exact ⟨_, 0, _, _, _, _, wa_mod _ _ _ rfl (by decide) e, answer_whole _, rin_mod_mm⟩
      · exact ⟨_, 0, _, _, _, _, wa_mod _ _ _ rfl (by decide) e, answer_whole _, rin_mod_m a (by obtain ⟨h1, h2⟩ := ha; omega) ha.2⟩
    · have hw := w64 (tdiv_i64 a b ha h0 (fun h => h1 h.2))
      have hmi := tmod_i64 a b ha
      have t1 := Int.tmod_add_mul_tdiv a b
      have hp : b * a.tdiv b = a - a.tmod b := by omega
      have e : (a.tmod b).natAbs = a.natAbs % b.natAbs := Int.natAbs_tmod a b
      have hle : a.natAbs % b.natAbs ≤ a.natAbs := Nat.mod_le _ _
      have hsg : I64 (a - a.tmod b) := by
        obtain ⟨h1, h2⟩ := ha
        by_cases c : 0 ≤ a
        · have := Int.tmod_nonneg b c
          constructor <;> omega
        · have h3 : (-a).tmod b = -(a.tmod b) := Int.neg_tmod a b
          have h4 := Int.tmod_nonneg b (show 0 ≤ -a by omega)
          constructor <;> omega
      have hpw : wrap64 (b * a.tdiv b) = a - a.tmod b := by rw [hp]; exact w64 hsg
      have hs : wrap64 (a - (a - a.tmod b)) = a.tmod b := by
        rw [show a - (a - a.tmod b) = a.tmod b by omega]
        exact w64 hmi
      exact ⟨_, 0, _, _, _, _, wa_mod _ _ _ (beq_false_of_ne h0) h0 rfl, answer_whole _, rin_mod a b _ _ _ (beq_false_of_ne h0) (beq_false_of_ne h1) h0 hw hpw hs⟩
theorem wwa_any (op a b : Int) (h1 : 1 ≤ op) (h5 : op ≤ 5) (ha : I64 a) (hb : I64 b) : WwA op a b := by
  have : op = 1 ∨ op = 2 ∨ op = 3 ∨ op = 4 ∨ op = 5 := by omega
  rcases this with rfl | rfl | rfl | rfl | rfl
  · exact wwa_1 a b ha hb
  · exact wwa_2 a b ha hb
  · exact wwa_3 a b ha hb
  · exact wwa_4 a b ha
  · exact wwa_5 a b ha
set_option maxRecDepth 100000 in
set_option maxHeartbeats 1000000 in
theorem answer_iv {x : Value} {k a b : Int} {s : ByteArray} (h : IVal x k a b s) (w : World) : Calls Tryz.prog 33 #[x, .int .i64 0] w fun e w' => e = .returned (.tuple #[V k a b s, .int .i64 0]) ∧ G w w' := by
  obtain ⟨t, f, v, rfl, hm, hf, g1⟩ := h
  have H : Hid _ := g1
  clear g1
  go_enter Tryz.func33, Tryz.ntmps33
  go_wp2_with fail
  refine (H.out _).mono ?_
  rintro e w1 ⟨rfl, hb1⟩
  obtain ⟨hc1, hf1⟩ := hb1.rules
  go_wp2
  exact bodyPost_ret (v := .tuple #[V k a b s, .int .i64 0]) (by simp [results, Tryz.results33, go_sem, hc1]) rfl ⟨rfl, by
    have g4 : G w w1 := ((G.refl w).alloc _).trans hb1
    repeat (first | exact g4 | refine G.alloc ?_ _ | refine G.setCell ?_ (by first | (simp; done) | (simp; omega)) _)⟩
theorem rww_any (op a b a' b' : Int) (s s' : ByteArray) (h1 : 1 ≤ op) (h2 : op ≤ 5) (rk ra rb : Int) (rs : ByteArray) (c : Int) (h : ∀ w, Calls Tryz.prog 88 #[.int .i64 op, .int .i64 a, .int .i64 a'] w fun e w' => e = .returned (.tuple #[V rk ra rb rs, .int .i64 c]) ∧ G w w') : ∀ w, Calls Tryz.prog 45 #[.int .i64 op, V 2 a b s, V 2 a' b' s'] w fun e w' => e = .returned (.tuple #[V rk ra rb rs, .int .i64 c]) ∧ G w w' := by
  have h5 : op = 1 ∨ op = 2 ∨ op = 3 ∨ op = 4 ∨ op = 5 := by omega
  rcases h5 with rfl | rfl | rfl | rfl | rfl
  · exact rar_ww_1 a b a' b' s s' rk ra rb rs c h
  · exact rar_ww_2 a b a' b' s s' rk ra rb rs c h
  · exact rar_ww_3 a b a' b' s s' rk ra rb rs c h
  · exact rar_ww_4 a b a' b' s s' rk ra rb rs c h
  · exact rar_ww_5 a b a' b' s s' rk ra rb rs c h
theorem rcx_any_23 (op a b a' b' : Int) (s s' : ByteArray) (h1 : 1 ≤ op) (h2 : op ≤ 5) (rk ra rb : Int) (rs : ByteArray) (c : Int) (p1 : ∀ w, Calls Tryz.prog 72 #[.int .i64 a] w fun e w' => e = .returned (.bool true) ∧ w' = w) (p2 : ∀ w, Calls Tryz.prog 72 #[.int .i64 a'] w fun e w' => e = .returned (.bool true) ∧ w' = w) (h : ∀ w, Calls Tryz.prog 89 #[.int .i64 op, .int .i64 a, .int .i64 b, .int .i64 a', .int .i64 b'] w fun e w' => e = .returned (.tuple #[V rk ra rb rs, .int .i64 c]) ∧ G w w') : ∀ w, Calls Tryz.prog 45 #[.int .i64 op, V 2 a b s, V 3 a' b' s'] w fun e w' => e = .returned (.tuple #[V rk ra rb rs, .int .i64 c]) ∧ G w w' := by
  have h5 : op = 1 ∨ op = 2 ∨ op = 3 ∨ op = 4 ∨ op = 5 := by omega
  rcases h5 with rfl | rfl | rfl | rfl | rfl
  · exact rar_cx_1_23 a b a' b' s s' rk ra rb rs c p1 p2 h
  · exact rar_cx_2_23 a b a' b' s s' rk ra rb rs c p1 p2 h
  · exact rar_cx_3_23 a b a' b' s s' rk ra rb rs c p1 p2 h
  · exact rar_cx_4_23 a b a' b' s s' rk ra rb rs c p1 p2 h
  · exact rar_cx_5_23 a b a' b' s s' rk ra rb rs c p1 p2 h
theorem rcx_any_32 (op a b a' b' : Int) (s s' : ByteArray) (h1 : 1 ≤ op) (h2 : op ≤ 5) (rk ra rb : Int) (rs : ByteArray) (c : Int) (p1 : ∀ w, Calls Tryz.prog 72 #[.int .i64 a] w fun e w' => e = .returned (.bool true) ∧ w' = w) (p2 : ∀ w, Calls Tryz.prog 72 #[.int .i64 a'] w fun e w' => e = .returned (.bool true) ∧ w' = w) (h : ∀ w, Calls Tryz.prog 89 #[.int .i64 op, .int .i64 a, .int .i64 b, .int .i64 a', .int .i64 b'] w fun e w' => e = .returned (.tuple #[V rk ra rb rs, .int .i64 c]) ∧ G w w') : ∀ w, Calls Tryz.prog 45 #[.int .i64 op, V 3 a b s, V 2 a' b' s'] w fun e w' => e = .returned (.tuple #[V rk ra rb rs, .int .i64 c]) ∧ G w w' := by
  have h5 : op = 1 ∨ op = 2 ∨ op = 3 ∨ op = 4 ∨ op = 5 := by omega
  rcases h5 with rfl | rfl | rfl | rfl | rfl
  · exact rar_cx_1_32 a b a' b' s s' rk ra rb rs c p1 p2 h
  · exact rar_cx_2_32 a b a' b' s s' rk ra rb rs c p1 p2 h
  · exact rar_cx_3_32 a b a' b' s s' rk ra rb rs c p1 p2 h
  · exact rar_cx_4_32 a b a' b' s s' rk ra rb rs c p1 p2 h
  · exact rar_cx_5_32 a b a' b' s s' rk ra rb rs c p1 p2 h
theorem rcx_any_33 (op a b a' b' : Int) (s s' : ByteArray) (h1 : 1 ≤ op) (h2 : op ≤ 5) (rk ra rb : Int) (rs : ByteArray) (c : Int) (p1 : ∀ w, Calls Tryz.prog 72 #[.int .i64 a] w fun e w' => e = .returned (.bool true) ∧ w' = w) (p2 : ∀ w, Calls Tryz.prog 72 #[.int .i64 a'] w fun e w' => e = .returned (.bool true) ∧ w' = w) (h : ∀ w, Calls Tryz.prog 89 #[.int .i64 op, .int .i64 a, .int .i64 b, .int .i64 a', .int .i64 b'] w fun e w' => e = .returned (.tuple #[V rk ra rb rs, .int .i64 c]) ∧ G w w') : ∀ w, Calls Tryz.prog 45 #[.int .i64 op, V 3 a b s, V 3 a' b' s'] w fun e w' => e = .returned (.tuple #[V rk ra rb rs, .int .i64 c]) ∧ G w w' := by
  have h5 : op = 1 ∨ op = 2 ∨ op = 3 ∨ op = 4 ∨ op = 5 := by omega
  rcases h5 with rfl | rfl | rfl | rfl | rfl
  · exact rar_cx_1_33 a b a' b' s s' rk ra rb rs c p1 p2 h
  · exact rar_cx_2_33 a b a' b' s s' rk ra rb rs c p1 p2 h
  · exact rar_cx_3_33 a b a' b' s s' rk ra rb rs c p1 p2 h
  · exact rar_cx_4_33 a b a' b' s s' rk ra rb rs c p1 p2 h
  · exact rar_cx_5_33 a b a' b' s s' rk ra rb rs c p1 p2 h
theorem rr_23 (op a b a' b' : Int) (s s' : ByteArray) (h1 : 1 ≤ op) (h2 : op ≤ 5) (p1 : ∀ w, Calls Tryz.prog 72 #[.int .i64 a] w fun e w' => e = .returned (.bool false) ∧ w' = w) : ∀ w, Calls Tryz.prog 45 #[.int .i64 op, V 2 a b s, V 3 a' b' s'] w fun e w' => e = .returned (.tuple #[V0, .int .i64 11]) ∧ G w w' := by
  have h5 : op = 1 ∨ op = 2 ∨ op = 3 ∨ op = 4 ∨ op = 5 := by omega
  rcases h5 with rfl | rfl | rfl | rfl | rfl
  · exact rar_r_1_23 a b a' b' s s' p1
  · exact rar_r_2_23 a b a' b' s s' p1
  · exact rar_r_3_23 a b a' b' s s' p1
  · exact rar_r_4_23 a b a' b' s s' p1
  · exact rar_r_5_23 a b a' b' s s' p1
theorem rr_32 (op a b a' b' : Int) (s s' : ByteArray) (h1 : 1 ≤ op) (h2 : op ≤ 5) (p1 : ∀ w, Calls Tryz.prog 72 #[.int .i64 a] w fun e w' => e = .returned (.bool true) ∧ w' = w) (p2 : ∀ w, Calls Tryz.prog 72 #[.int .i64 a'] w fun e w' => e = .returned (.bool false) ∧ w' = w) : ∀ w, Calls Tryz.prog 45 #[.int .i64 op, V 3 a b s, V 2 a' b' s'] w fun e w' => e = .returned (.tuple #[V0, .int .i64 11]) ∧ G w w' := by
  have h5 : op = 1 ∨ op = 2 ∨ op = 3 ∨ op = 4 ∨ op = 5 := by omega
  rcases h5 with rfl | rfl | rfl | rfl | rfl
  · exact rar_r_1_32 a b a' b' s s' p1 p2
  · exact rar_r_2_32 a b a' b' s s' p1 p2
  · exact rar_r_3_32 a b a' b' s s' p1 p2
  · exact rar_r_4_32 a b a' b' s s' p1 p2
  · exact rar_r_5_32 a b a' b' s s' p1 p2
/-- Some number of an item that is no null. -/
theorem num_any (k a b : Int) (s : ByteArray) (hok : okV k a b s = true) (h0 : k ≠ 0) : ∃ (p q : Nat) (c : Int), (c = 0 ∨ c = 10 ∨ c = 11) ∧ INum (itemV k a b s) p q c := by
  by_cases h2 : k = 2
  · subst h2
    rw [itV_2 hok]
    by_cases hp : P25 a
    · exact ⟨_, _, 0, .inl rfl, in_whole a hp.1 hp.2⟩
    · exact ⟨_, _, 11, .inr (.inr rfl), in_whole_no a (part_no hp)⟩
  · by_cases h3 : k = 3
    · subst h3
      rw [itV_3 hok]
      exact ⟨_, _, 0, .inl rfl, in_cpx _ _⟩
    · exact ⟨_, _, 10, .inr (.inl rfl), in_no k a b s hok h0 h2 h3⟩
/-- A kind that is no number, on the left. -/
theorem mk_l (op : Int) (x y : Value) (p q p' q' : Nat) (c' : Int) (hc : c' = 0 ∨ c' = 10 ∨ c' = 11) (hx : INum x p q 10) (hy : INum y p' q' c') : ∀ w, Calls Tryz.prog 123 #[.int .i64 op, x, y] w fun e w' => e = .returned (.tuple #[.nilIface, .int .i64 10]) ∧ G w w' := by
  rcases hc with rfl | rfl | rfl
  · exact mx_10_0 op x y p q p' q' hx hy
  · exact mx_10_10 op x y p q p' q' hx hy
  · exact mx_10_11 op x y p q p' q' hx hy
theorem mk_r (op : Int) (x y : Value) (p q p' q' : Nat) (c : Int) (hc : c = 0 ∨ c = 10 ∨ c = 11) (hx : INum x p q c) (hy : INum y p' q' 10) : ∀ w, Calls Tryz.prog 123 #[.int .i64 op, x, y] w fun e w' => e = .returned (.tuple #[.nilIface, .int .i64 10]) ∧ G w w' := by
  rcases hc with rfl | rfl | rfl
  · exact mx_0_10 op x y p q p' q' hx hy
  · exact mx_10_10 op x y p q p' q' hx hy
  · exact mx_11_10 op x y p q p' q' hx hy
theorem ara_str (op : Int) (h1 : 1 ≤ op) (h5 : op ≤ 5) (a b k' a' b' : Int) (s s' : ByteArray) (hok : okV 4 a b s = true) (hok' : okV k' a' b' s' = true) : ArA op 4 a b k' a' b' s s' := by
  have hl := (ok_4 hok).2.2.1
  unfold ArA
  rw [itV_4 hok]
  by_cases c' : k' = 4
  · subst c'
    have hl' := (ok_4 hok').2.2.1
    rw [itV_4 hok']
    by_cases h : op = 1
    · subst h
      by_cases hz : s.size + s'.size ≤ 32
      · exact ⟨_, 0, _, _, _, _, ar_jn s s' _ _ (jn_ok s s' hz), answer_iv (iv_str (s ++ s')), rar_jn a b a' b' s s' hz⟩
      · exact ⟨_, 11, _, _, _, _, ar_jn s s' _ _ (jn_no s s' (by omega) (by omega) (by omega)), answer_err _ 11 (by decide), rar_jn_no a b a' b' s s' (by omega) (by omega) (by omega)⟩
    · exact ⟨_, 10, _, _, _, _, ar_s2 op s s' (beq_false_of_ne h), answer_err _ 10 (by decide), rar_k1a op 4 a b 4 a' b' s s' (beq_false_of_ne h) rfl rfl⟩
  · exact ⟨_, 10, _, _, _, _, ar_s1 op s _ (an_str k' a' b' s' hok' c'), answer_err _ 10 (by decide), rar_k1c op a b k' a' b' s s' (beq_false_of_ne c')⟩
theorem ara_k (op : Int) (k a b k' a' b' : Int) (s s' : ByteArray) (hok : okV k a b s = true) (hok' : okV k' a' b' s' = true) (hk : k ≠ 0) (hk' : k' ≠ 0) (h2 : k ≠ 2) (h3 : k ≠ 3) (h4 : k ≠ 4) : ArA op k a b k' a' b' s s' := by
  obtain ⟨p, q, c, hc, hy⟩ := num_any k' a' b' s' hok' hk'
  exact ⟨_, 10, _, _, _, _, ar_mx op _ _ _ _ (an_str k a b s hok h4) (an_whole k a b s hok h2) (mk_l op _ _ _ _ _ _ c hc (in_no k a b s hok hk h2 h3) hy), answer_err _ 10 (by decide), rar_k1b op k a b k' a' b' s s' (beq_false_of_ne h4) (beq_false_of_ne h2) (beq_false_of_ne h3)⟩
theorem ara_w (op : Int) (h1 : 1 ≤ op) (h5 : op ≤ 5) (a b k' a' b' : Int) (s s' : ByteArray) (hok : okV 2 a b s = true) (hok' : okV k' a' b' s' = true) (hk' : k' ≠ 0) (ha : I64 a) (ha' : I64 a') : ArA op 2 a b k' a' b' s s' := by
  obtain ⟨rfl, rfl⟩ := ok_2 hok
  unfold ArA
  by_cases c2 : k' = 2
  · subst c2
    obtain ⟨rfl, rfl⟩ := ok_2 hok'
    rw [itV_2 hok, itV_2 hok']
    obtain ⟨rv, c, rk, ra, rb, rs, g1, g2, g3⟩ := wwa_any op a a' h1 h5 ha ha'
    exact ⟨rv, c, rk, ra, rb, rs, arith_ww op a a' _ _ g1, g2, rww_any op a 0 a' 0 E0 E0 h1 h5 rk ra rb rs c g3⟩
  · have hn := an_whole k' a' b' s' hok' c2
    by_cases c3 : k' = 3
    · subst c3
      obtain ⟨pa, pb, rfl⟩ := ok_3 hok'
      rw [itV_2 hok]
      rw [itV_3 hok'] at hn ⊢
      by_cases hp : P25 a
      · obtain ⟨rv, c, rk, ra, rb, rs, g1, g2, g3⟩ := cxa_any (x := fl a) (y := 0) (z := fl a') (t := fl b') (a := a) (b := 0) (Fl.ofInt a (by have := hp.abs; omega)) Fl.zero (Fl.ofInt a' (by omega)) (Fl.ofInt b' (by omega)) hp ⟨by decide, by decide⟩ pa pb op h1 h5
        exact ⟨rv, c, rk, ra, rb, rs, ar_wx op a _ _ _ hn (mx_0_0 op _ _ _ _ _ _ (in_whole a hp.1 hp.2) (in_cpx _ _) rv c g1), g2, rcx_any_23 op a 0 a' b' E0 E0 h1 h5 rk ra rb rs c (part_q _ _ (part_yes hp)) (part_q _ _ (part_yes pa)) g3⟩
      · exact ⟨_, 11, _, _, _, _, ar_wx op a _ _ _ hn (mx_11_0 op _ _ _ _ _ _ (in_whole_no a (part_no hp)) (in_cpx _ _)), answer_err _ 11 (by decide), rr_23 op a 0 a' b' E0 E0 h1 h5 (part_q _ _ (part_no hp))⟩
    · have hy := in_no k' a' b' s' hok' hk' c2 c3
      obtain ⟨p, q, c, hc, hx⟩ := num_any 2 a 0 E0 hok (by decide)
      rw [itV_2 hok] at hx ⊢
      exact ⟨_, 10, _, _, _, _, ar_wx op a _ _ _ hn (mk_r op _ _ _ _ _ _ c hc hx hy), answer_err _ 10 (by decide), rar_k2_2 op a 0 k' a' b' E0 s' (beq_false_of_ne c2) (beq_false_of_ne c3)⟩
theorem ara_c (op : Int) (h1 : 1 ≤ op) (h5 : op ≤ 5) (a b k' a' b' : Int) (s s' : ByteArray) (hok : okV 3 a b s = true) (hok' : okV k' a' b' s' = true) (hk' : k' ≠ 0) : ArA op 3 a b k' a' b' s s' := by
  have n1 := an_str 3 a b s hok (by decide)
  have n2 := an_whole 3 a b s hok (by decide)
  obtain ⟨pa, pb, rfl⟩ := ok_3 hok
  have fa := Fl.ofInt a (show a.natAbs < 2 ^ 53 by omega)
  have fb := Fl.ofInt b (show b.natAbs < 2 ^ 53 by omega)
  unfold ArA
  rw [itV_3 hok] at n1 n2 ⊢
  by_cases c2 : k' = 2
  · subst c2
    obtain ⟨rfl, rfl⟩ := ok_2 hok'
    rw [itV_2 hok']
    by_cases hp : P25 a'
    · obtain ⟨rv, c, rk, ra, rb, rs, g1, g2, g3⟩ := cxa_any (z := fl a') (t := 0) (c := a') (d := 0) fa fb (Fl.ofInt a' (by have := hp.abs; omega)) Fl.zero pa pb hp ⟨by decide, by decide⟩ op h1 h5
      exact ⟨rv, c, rk, ra, rb, rs, ar_mx op _ _ _ _ n1 n2 (mx_0_0 op _ _ _ _ _ _ (in_cpx _ _) (in_whole a' hp.1 hp.2) rv c g1), g2, rcx_any_32 op a b a' 0 E0 E0 h1 h5 rk ra rb rs c (part_q _ _ (part_yes pa)) (part_q _ _ (part_yes hp)) g3⟩
    · exact ⟨_, 11, _, _, _, _, ar_mx op _ _ _ _ n1 n2 (mx_0_11 op _ _ _ _ _ _ (in_cpx _ _) (in_whole_no a' (part_no hp))), answer_err _ 11 (by decide), rr_32 op a b a' 0 E0 E0 h1 h5 (part_q _ _ (part_yes pa)) (part_q _ _ (part_no hp))⟩
  · by_cases c3 : k' = 3
    · subst c3
      obtain ⟨qa, qb, rfl⟩ := ok_3 hok'
      rw [itV_3 hok']
      obtain ⟨rv, c, rk, ra, rb, rs, g1, g2, g3⟩ := cxa_any fa fb (Fl.ofInt a' (show a'.natAbs < 2 ^ 53 by omega)) (Fl.ofInt b' (show b'.natAbs < 2 ^ 53 by omega)) pa pb qa qb op h1 h5
      exact ⟨rv, c, rk, ra, rb, rs, ar_mx op _ _ _ _ n1 n2 (mx_0_0 op _ _ _ _ _ _ (in_cpx _ _) (in_cpx _ _) rv c g1), g2, rcx_any_33 op a b a' b' E0 E0 h1 h5 rk ra rb rs c (part_q _ _ (part_yes pa)) (part_q _ _ (part_yes qa)) g3⟩
    · exact ⟨_, 10, _, _, _, _, ar_mx op _ _ _ _ n1 n2 (mx_0_10 op _ _ _ _ _ _ (in_cpx _ _) (in_no k' a' b' s' hok' hk' c2 c3)), answer_err _ 10 (by decide), rar_k2_3 op a b k' a' b' E0 s' (beq_false_of_ne c2) (beq_false_of_ne c3)⟩
theorem ara_any (op : Int) (h1 : 1 ≤ op) (h5 : op ≤ 5) (k a b k' a' b' : Int) (s s' : ByteArray) (hok : okV k a b s = true) (hok' : okV k' a' b' s' = true) (hk : k ≠ 0) (hk' : k' ≠ 0) (ha : I64 a) (ha' : I64 a') : ArA op k a b k' a' b' s s' := by
  by_cases c4 : k = 4
  · subst c4; exact ara_str op h1 h5 a b k' a' b' s s' hok hok'
  by_cases c2 : k = 2
  · subst c2; exact ara_w op h1 h5 a b k' a' b' s s' hok hok' hk' ha ha'
  by_cases c3 : k = 3
  · subst c3; exact ara_c op h1 h5 a b k' a' b' s s' hok hok' hk'
  exact ara_k op k a b k' a' b' s s' hok hok' hk hk' c2 c3 c4
theorem ba_any (op : Int) (h1 : 1 ≤ op) (h5 : op ≤ 5) (k a b k' a' b' : Int) (s s' : ByteArray) (hok : okV k a b s = true) (hok' : okV k' a' b' s' = true) (hs : s.size ≤ 4611686018427387904) (hs' : s'.size ≤ 4611686018427387904) (hk : k ≠ 0) (hk' : k' ≠ 0) (ha : I64 a) (ha' : I64 a') : AgB op k a b k' a' b' s s' := by
  obtain ⟨rv, c, rk, ra, rb, rs, g1, g2, g3⟩ := ara_any op h1 h5 k a b k' a' b' s s' hok hok' hk hk' ha ha'
  have g0 : ∀ w, RdyB w → Calls Tryz.prog 39 #[.int .i64 op, itemV k a b s, itemV k' a' b' s'] w fun e w' => e = .returned (.tuple #[rv, .int .i64 c]) ∧ G w w' := fun w _ => binary_arith op h1 h5 _ _ _ _ (isn_no k a b s hok hk) (isn_no k' a' b' s' hok' hk') g1 w
  have d5 : op = 1 ∨ op = 2 ∨ op = 3 ∨ op = 4 ∨ op = 5 := by omega
  rcases d5 with rfl | rfl | rfl | rfl | rfl
  · exact bag (by decide) (by decide) hok hok' rv c rk ra rb rs g0 g2 (rB_1 _ _ _ _ _ _ _ _ _ _ _ _ _ (beq_false_of_ne hk) (beq_false_of_ne hk') (rvok hok hs) (rvok hok' hs') g3)
  · exact bag (by decide) (by decide) hok hok' rv c rk ra rb rs g0 g2 (rB_2 _ _ _ _ _ _ _ _ _ _ _ _ _ (beq_false_of_ne hk) (beq_false_of_ne hk') (rvok hok hs) (rvok hok' hs') g3)
  · exact bag (by decide) (by decide) hok hok' rv c rk ra rb rs g0 g2 (rB_3 _ _ _ _ _ _ _ _ _ _ _ _ _ (beq_false_of_ne hk) (beq_false_of_ne hk') (rvok hok hs) (rvok hok' hs') g3)
  · exact bag (by decide) (by decide) hok hok' rv c rk ra rb rs g0 g2 (rB_4 _ _ _ _ _ _ _ _ _ _ _ _ _ (beq_false_of_ne hk) (beq_false_of_ne hk') (rvok hok hs) (rvok hok' hs') g3)
  · exact bag (by decide) (by decide) hok hok' rv c rk ra rb rs g0 g2 (rB_5 _ _ _ _ _ _ _ _ _ _ _ _ _ (beq_false_of_ne hk) (beq_false_of_ne hk') (rvok hok hs) (rvok hok' hs') g3)
theorem binary_agree (op : Int) (k a b k' a' b' : Int) (s s' : ByteArray) (hs : s.size ≤ 4611686018427387904) (hs' : s'.size ≤ 4611686018427387904) (ha : I64 a) (ha' : I64 a') : AgB op k a b k' a' b' s s' := by
  by_cases ho : op < 1 ∨ 18 < op
  · exact ⟨_, _, _, _, _, fun w _ => Binary_arg op k a b k' a' b' s s' ho w, rB_arg op k a b k' a' b' s s' ho⟩
  have o1 : 1 ≤ op := by omega
  have o2 : op ≤ 18 := by omega
  cases hok : okV k a b s
  · exact ⟨_, _, _, _, _, fun w hR => Binary_bad1 op k a b k' a' b' s s' o1 o2 hok w hR.1, rB_bad1 op o1 o2 k a b k' a' b' s s' (rv_nz false hs hok)⟩
  cases hok' : okV k' a' b' s'
  · exact ⟨_, _, _, _, _, fun w hR => Binary_bad2 op k a b k' a' b' s s' o1 o2 hok hok' w hR.1, rB_bad2 op o1 o2 k a b k' a' b' s s' (rv_nz true hs hok) (rv_nz false hs' hok')⟩
  by_cases n12 : op = 12
  · subst n12; exact bl_12 k a b k' a' b' s s' hok hok' hs hs'
  by_cases n13 : op = 13
  · subst n13; exact bl_13 k a b k' a' b' s s' hok hok' hs hs'
  by_cases n14 : op = 14
  · subst n14; exact bl_14 k a b k' a' b' s s' hok hok' hs hs'
  by_cases hk : k = 0
  · exact bn_1 op o1 o2 n12 n13 n14 k a b k' a' b' s s' hok hok' hs hs' hk
  by_cases hk' : k' = 0
  · exact bn_2 op o1 o2 n12 n13 n14 k a b k' a' b' s s' hok hok' hs hs' hk hk'
  by_cases h5 : op ≤ 5
  · exact ba_any op o1 h5 k a b k' a' b' s s' hok hok' hs hs' hk hk' ha ha'
  have d : op = 6 ∨ op = 7 ∨ op = 8 ∨ op = 9 ∨ op = 10 ∨ op = 11 ∨ op = 15 ∨ op = 16 ∨ op = 17 ∨ op = 18 := by omega
  rcases d with rfl | rfl | rfl | rfl | rfl | rfl | rfl | rfl | rfl | rfl
  · exact be_6 k a b k' a' b' s s' hok hok' hs hs' hk hk'
  · exact be_7 k a b k' a' b' s s' hok hok' hs hs' hk hk'
  · exact br_8 k a b k' a' b' s s' hok hok' hs hs' hk hk'
  · exact br_9 k a b k' a' b' s s' hok hok' hs hs' hk hk'
  · exact br_10 k a b k' a' b' s s' hok hok' hs hs' hk hk'
  · exact br_11 k a b k' a' b' s s' hok hok' hs hs' hk hk'
  · exact bs_15 k a b k' a' b' s s' hok hok' hs hs' hk hk'
  · exact bc_16 k a b k' a' b' s s' hok hok' hs hs' hk hk'
  · exact bs_17 k a b k' a' b' s s' hok hok' hs hs' hk hk'
  · exact bs_18 k a b k' a' b' s s' hok hok' hs hs' hk hk'
set_option maxRecDepth 100000 in
set_option maxHeartbeats 1000000 in
theorem plays_3 (e : Ent) (hk : e.kind = 3) (h : AgB e.op e.k e.a e.b e.k' e.a' e.b' e.s e.s') (w : World) (hT : RdyB w) : Calls Tryz.prog 10 #[e.V] w fun r w' => r = .returned (.bool true) ∧ G w w' := by
  obtain ⟨kind, op, k, a, b, s, k', a', b', s', vs, st, tt, bb, n, x, y, o1, o2⟩ := e
  simp only at hk h
  subst hk
  obtain ⟨rk, ra, rb, rs, rc, hA, hB⟩ := h
  have HA : Hid _ := hA
  have HB : Hid _ := hB
  clear hA hB
  go_enter Tryz.func10, Tryz.ntmps10
  go_wp2_with fail
  refine (HA.out _ (hT.G ((G.refl w).alloc _))).mono ?_
  rintro e w1 ⟨rfl, hb1⟩
  have g1 : G w w1 := ((G.refl w).alloc _).trans hb1
  have hc1 := G.cells hb1 (b := w.heap.size) (f := fun o => [I 3, I op, I k, I a, I b, .string s, I k', I a', I b', .string s', vs, .string st, .string tt, bb, I n, I x, I y, I o1, I o2][o]?) (by simp) (by simp)
  have hz1 : w.heap.size < w1.heap.size := by have := hb1.size; simp at this; omega
  clear hb1
  go_wp2_with fail
  refine (HB.out _).mono ?_
  rintro e w2 ⟨rfl, hb2⟩
  have g2 : G w w2 := (g1.alloc _).trans hb2
  have hc2 := G.cells hb2 (b := w1.heap.size) (f := fun o => [I rk, I ra, I rb, .string rs][o]?) (by simp) (by simp)
  have hz2 : w1.heap.size < w2.heap.size := by have := hb2.size; simp at this; omega
  clear hb2 hc1
  go_wp2
  go_ret
  exact ⟨rfl, g2.alloc _⟩
theorem binary_plays (W : World) (hT : RdyB W) (e : Ent) (h : EntOk W e) (h1 : 3 ≤ e.kind) (h2 : e.kind ≤ 3) (w' : World) (g : G W w') : Calls Tryz.prog 10 #[e.V] w' fun r w'' => r = .returned (.bool true) ∧ G w' w'' :=
  plays_3 e (by omega) (binary_agree _ _ _ _ _ _ _ _ _ (by have := h.s; unfold reachBytes at this; omega) (by have := h.s'; unfold reachBytes at this; omega) h.a h.a') w' (hT.G g)
end Go.Proofs.YtnoajhegcjoebabGreatDoor
