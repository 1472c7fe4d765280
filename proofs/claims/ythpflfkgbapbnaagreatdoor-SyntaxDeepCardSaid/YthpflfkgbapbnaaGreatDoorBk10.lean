/- value.guessOfText. -/
import Derived.Test.YthpflfkgbapbnaaGreatDoorBk9
import Derived.Test.YthpflfkgbapbnaaGreatDoorShB3
import Derived.Test.YthpflfkgbapbnaaGreatDoorShB4
import Derived.Test.YthpflfkgbapbnaaGreatDoorShB5
namespace Go.Proofs.YthpflfkgbapbnaaGreatDoor
open Go.RowKit Go.Lib Go.Shelf

theorem r64_0 : R64 0 := by unfold R64; omega
theorem r64_1 : R64 1 := by unfold R64; omega
theorem whO_R (l : List UInt8) : R64 (whO l) := by
  have hp : (2 : Nat) ^ (64 - 1) = 9223372036854775808 := by decide
  unfold whO
  split
  · rename_i v h
    unfold parseIntB at h
    cases l with
    | nil => simp at h
    | cons c r =>
      simp only at h
      split at h
      · simp at h
      · simp at h
      · rename_i x _
        rw [hp] at h
        by_cases hc : c.toNat = 45
        · simp only [hc, not_true_eq_false, false_and, if_false, true_and, if_true] at h
          split at h
          · simp at h
          · injection h with h
            unfold R64; omega
        · simp only [hc, not_false_eq_true, true_and, false_and, if_false] at h
          split at h
          · simp at h
          · injection h with h
            unfold R64; omega
  · exact r64_0
  · unfold intSat
    rw [hp]
    split <;> (unfold R64; omega)
theorem data_list (u : ByteArray) : u.toList = u.data.toList := toList_data u
theorem hp_one (c : UInt8) (l : List UInt8) : hasPrefix l [c] = true → ∃ r, l = c :: r := by
  intro h
  obtain ⟨r, e⟩ := List.isPrefixOf_iff_prefix.1 h
  exact ⟨r, e.symm⟩
theorem hp_not (c : UInt8) (l : List UInt8) (h : hasPrefix l [c] = false) : ∀ d r, l = d :: r → d.toNat ≠ c.toNat := by
  intro d r e hd
  have : d = c := UInt8.toNat_inj.1 hd
  subst this; subst e
  simp [hasPrefix] at h
theorem hs_one (c : UInt8) (l : List UInt8) : hasSuffix l [c] = true → ∃ r, l = r ++ [c] := by
  intro h
  obtain ⟨r, e⟩ := List.isSuffixOf_iff_suffix.1 h
  exact ⟨r, e.symm⟩
theorem hs_not (c : UInt8) (l : List UInt8) (h : hasSuffix l [c] = false) : ∀ r, l ≠ r ++ [c] := by
  intro r e
  have : hasSuffix l [c] = true := List.isSuffixOf_iff_suffix.2 ⟨r, e.symm⟩
  rw [h] at this; exact absurd this (by decide)
set_option maxRecDepth 100000 in
set_option maxHeartbeats 4000000 in
theorem gt_0 (u : ByteArray) (_hs : u.size ≤ 140737488351232) (w : World) (hE : Env w) (hn : (u.toList == [110, 117, 108, 108]) = true) : Calls Tryz.prog 117 #[.string u] w fun e w' => ∃ k a b s, e = .returned (V k a b s) ∧ TG u.data.toList k a b s ∧ R64 a ∧ G w w' := by
  have HE : Hid _ := hE
  clear hE
  go_enter Tryz.func117, Tryz.ntmps117
  go_wp2_with fail
  refine bodyPost_ret (v := V 0 0 0 E0) (by simp [results, Tryz.results117, go_sem]) rfl ⟨0, 0, 0, E0, rfl, ?_, r64_0, by repeat (first | exact G.refl _ | refine G.alloc ?_ _ | refine G.setCell ?_ (Nat.le_refl _) _)⟩
  rw [← data_list, eq_of_beq hn]
  exact tg_null
set_option maxRecDepth 100000 in
set_option maxHeartbeats 4000000 in
theorem gt_1 (u : ByteArray) (_hs : u.size ≤ 140737488351232) (w : World) (hE : Env w) (hn : (u.toList == [110, 117, 108, 108]) = false) (hf : (u.toList == [102, 97, 108, 115, 101]) = true) : Calls Tryz.prog 117 #[.string u] w fun e w' => ∃ k a b s, e = .returned (V k a b s) ∧ TG u.data.toList k a b s ∧ R64 a ∧ G w w' := by
  have HE : Hid _ := hE
  clear hE
  go_enter Tryz.func117, Tryz.ntmps117
  go_wp2_with fail
  refine bodyPost_ret (v := V 1 0 0 E0) (by simp [results, Tryz.results117, go_sem]) rfl ⟨1, 0, 0, E0, rfl, ?_, r64_0, by repeat (first | exact G.refl _ | refine G.alloc ?_ _ | refine G.setCell ?_ (Nat.le_refl _) _)⟩
  rw [← data_list, eq_of_beq hf]
  exact tg_bool false
set_option maxRecDepth 100000 in
set_option maxHeartbeats 4000000 in
theorem gt_2 (u : ByteArray) (_hs : u.size ≤ 140737488351232) (w : World) (hE : Env w) (hn : (u.toList == [110, 117, 108, 108]) = false) (hf : (u.toList == [102, 97, 108, 115, 101]) = false) (ht : (u.toList == [116, 114, 117, 101]) = true) : Calls Tryz.prog 117 #[.string u] w fun e w' => ∃ k a b s, e = .returned (V k a b s) ∧ TG u.data.toList k a b s ∧ R64 a ∧ G w w' := by
  have HE : Hid _ := hE
  clear hE
  go_enter Tryz.func117, Tryz.ntmps117
  go_wp2_with fail
  refine bodyPost_ret (v := V 1 1 0 E0) (by simp [results, Tryz.results117, go_sem]) rfl ⟨1, 1, 0, E0, rfl, ?_, r64_1, by repeat (first | exact G.refl _ | refine G.alloc ?_ _ | refine G.setCell ?_ (Nat.le_refl _) _)⟩
  rw [← data_list, eq_of_beq ht]
  exact tg_bool true
set_option maxRecDepth 100000 in
set_option maxHeartbeats 4000000 in
theorem gt_3 (u : ByteArray) (hs : u.size ≤ 140737488351232) (w : World) (hE : Env w) (hn : (u.toList == [110, 117, 108, 108]) = false) (hf : (u.toList == [102, 97, 108, 115, 101]) = false) (ht : (u.toList == [116, 114, 117, 101]) = false) (hq : hasPrefix u.data.toList [39] = true) : Calls Tryz.prog 117 #[.string u] w fun e w' => ∃ k a b s, e = .returned (V k a b s) ∧ TG u.data.toList k a b s ∧ R64 a ∧ G w w' := by
  have HE : Hid _ := hE
  clear hE
  have Hq : Hid (∀ w, Calls Tryz.prog 51 #[.string u, .string ⟨#[39]⟩] w fun e w' => e = .returned (.bool true) ∧ w' = w) := fun w => by
    have := Any.strings_HasPrefix Tryz.laysHasPrefix u ⟨#[39]⟩ w
    rwa [show (⟨#[39]⟩ : ByteArray).data.toList = [39] from rfl, hq] at this
  have HK0 : Hid (KB w (w.alloc (.cells #[I 0, I 0, I 0, .string E0] 23))) := ⟨fun o => by simp, fun o => by simp, (G.refl w).alloc _, by simp⟩
  have hsi : (strU (innr u.data.toList)).size ≤ u.size := by
    show (innr u.data.toList).toArray.size ≤ u.data.size
    simp [innr]; omega
  have Hin : Hid (∀ w, Calls Tryz.prog 130 #[.string u] w fun e w' => e = .returned (.string (strU (innr u.data.toList))) ∧ w' = w) := fun w => inner_any u (by omega) w
  obtain ⟨r, hr⟩ := hp_one _ _ hq
  have HX : Hid (∀ W, G w W → Calls Tryz.prog 129 #[.string (strU (innr u.data.toList))] W fun e w' => ∃ t : ByteArray, e = .returned (.string t) ∧ (∀ l0, innr u.data.toList = escS l0 → t.data.toList = l0) ∧ G W w') := fun W g => by
    refine (unesc_any _ (by omega) W (HE.out.G g)).mono ?_
    rintro e w' ⟨t, he, ht, -, hg⟩
    exact ⟨t, he, fun l0 h => ht l0 ((strU_list _).trans h), hg⟩
  have HT : Hid (∀ t : ByteArray, (∀ l0, innr u.data.toList = escS l0 → t.data.toList = l0) → TG u.data.toList 4 0 0 t) := fun t h => by
    rw [hr] at h ⊢
    exact tg_str h
  clear hr hsi
  clear hq 
  go_enter Tryz.func117, Tryz.ntmps117
  go_wp2_with fail
  refine (Hq.out _).mono ?_
  rintro e w1 ⟨rfl, hw⟩
  rw [hw]
  clear hw w1
  go_wp2_with fail
  refine (Hin.out _).mono ?_
  rintro e w1 ⟨rfl, hw⟩
  rw [hw]
  clear hw w1
  go_wp2_with fail
  generalize w.alloc (.cells #[I 0, I 0, I 0, .string E0] 23) = wa at HK0 ⊢
  refine (HX.out _ HK0.out.g).mono ?_
  rintro e w3 ⟨t, rfl, ht, hb⟩
  have hkA : KB w w3 := KB.G HK0.out hb
  have hcA := hkA.c
  have hfA := hkA.f
  clear hb HK0
  go_wp2
  refine bodyPost_ret (v := V 4 0 0 t) (by simp [results, Tryz.results117, go_sem, hcA]) rfl ⟨4, 0, 0, t, rfl, HT.out t ht, r64_0, by repeat (first | exact hkA.g | exact G.refl _ | refine G.alloc ?_ _ | refine G.setCell ?_ (Nat.le_refl _) _)⟩
set_option maxRecDepth 100000 in
set_option maxHeartbeats 4000000 in
theorem gt_4 (u : ByteArray) (hs : u.size ≤ 140737488351232) (w : World) (hE : Env w) (hn : (u.toList == [110, 117, 108, 108]) = false) (hf : (u.toList == [102, 97, 108, 115, 101]) = false) (ht : (u.toList == [116, 114, 117, 101]) = false) (hq : hasPrefix u.data.toList [39] = false) (hp : hasPrefix u.data.toList [40] = true) : Calls Tryz.prog 117 #[.string u] w fun e w' => ∃ k a b s, e = .returned (V k a b s) ∧ TG u.data.toList k a b s ∧ R64 a ∧ G w w' := by
  have HE : Hid _ := hE
  clear hE
  have Hq : Hid (∀ w, Calls Tryz.prog 51 #[.string u, .string ⟨#[39]⟩] w fun e w' => e = .returned (.bool false) ∧ w' = w) := fun w => by
    have := Any.strings_HasPrefix Tryz.laysHasPrefix u ⟨#[39]⟩ w
    rwa [show (⟨#[39]⟩ : ByteArray).data.toList = [39] from rfl, hq] at this
  have Hp : Hid (∀ w, Calls Tryz.prog 51 #[.string u, .string ⟨#[40]⟩] w fun e w' => e = .returned (.bool true) ∧ w' = w) := fun w => by
    have := Any.strings_HasPrefix Tryz.laysHasPrefix u ⟨#[40]⟩ w
    rwa [show (⟨#[40]⟩ : ByteArray).data.toList = [40] from rfl, hp] at this
  have HK0 : Hid (KB w (w.alloc (.cells #[I 0, I 0, I 0, .string E0] 23))) := ⟨fun o => by simp, fun o => by simp, (G.refl w).alloc _, by simp⟩
  have hsi : (strU (innr u.data.toList)).size ≤ u.size := by
    show (innr u.data.toList).toArray.size ≤ u.data.size
    simp [innr]; omega
  have Hin : Hid (∀ w, Calls Tryz.prog 130 #[.string u] w fun e w' => e = .returned (.string (strU (innr u.data.toList))) ∧ w' = w) := fun w => inner_any u (by omega) w
  obtain ⟨r, hr⟩ := hp_one _ _ hp
  have HX : Hid (∀ W, G w W → Calls Tryz.prog 131 #[.string (strU (innr u.data.toList))] W fun e w' => e = .returned (.int .i64 (whO (innr u.data.toList))) ∧ G W w') := fun W g => by
    have := wh_any (strU (innr u.data.toList)) (by omega) W (HE.out.G g)
    rwa [strU_list] at this
  have HT : Hid (TG u.data.toList 5 (whO (innr u.data.toList)) 0 E0 ∧ R64 (whO (innr u.data.toList))) := by
    have := tg_id 40 5 (.inl ⟨rfl, rfl⟩) r
    rw [← hr] at this
    exact ⟨this, whO_R _⟩
  generalize whO (innr u.data.toList) = x at HX HT
  clear hr hsi
  clear hq hp 
  go_enter Tryz.func117, Tryz.ntmps117
  go_wp2_with fail
  refine (Hq.out _).mono ?_
  rintro e w1 ⟨rfl, hw⟩
  rw [hw]
  clear hw w1
  go_wp2_with fail
  refine (Hp.out _).mono ?_
  rintro e w1 ⟨rfl, hw⟩
  rw [hw]
  clear hw w1
  go_wp2_with fail
  refine (Hin.out _).mono ?_
  rintro e w1 ⟨rfl, hw⟩
  rw [hw]
  clear hw w1
  go_wp2_with fail
  generalize w.alloc (.cells #[I 0, I 0, I 0, .string E0] 23) = wa at HK0 ⊢
  refine (HX.out _ HK0.out.g).mono ?_
  rintro e w3 ⟨rfl, hb⟩
  have hkA : KB w w3 := KB.G HK0.out hb
  have hcA := hkA.c
  have hfA := hkA.f
  clear hb HK0
  go_wp2
  refine bodyPost_ret (v := V 5 x 0 E0) (by simp [results, Tryz.results117, go_sem, hcA]) rfl ⟨5, x, 0, E0, rfl, HT.out.1, HT.out.2, by repeat (first | exact hkA.g | exact G.refl _ | refine G.alloc ?_ _ | refine G.setCell ?_ (Nat.le_refl _) _)⟩
set_option maxRecDepth 100000 in
set_option maxHeartbeats 4000000 in
theorem gt_5 (u : ByteArray) (hs : u.size ≤ 140737488351232) (w : World) (hE : Env w) (hn : (u.toList == [110, 117, 108, 108]) = false) (hf : (u.toList == [102, 97, 108, 115, 101]) = false) (ht : (u.toList == [116, 114, 117, 101]) = false) (hq : hasPrefix u.data.toList [39] = false) (hp : hasPrefix u.data.toList [40] = false) (hb : hasPrefix u.data.toList [91] = true) : Calls Tryz.prog 117 #[.string u] w fun e w' => ∃ k a b s, e = .returned (V k a b s) ∧ TG u.data.toList k a b s ∧ R64 a ∧ G w w' := by
  have HE : Hid _ := hE
  clear hE
  have Hq : Hid (∀ w, Calls Tryz.prog 51 #[.string u, .string ⟨#[39]⟩] w fun e w' => e = .returned (.bool false) ∧ w' = w) := fun w => by
    have := Any.strings_HasPrefix Tryz.laysHasPrefix u ⟨#[39]⟩ w
    rwa [show (⟨#[39]⟩ : ByteArray).data.toList = [39] from rfl, hq] at this
  have Hp : Hid (∀ w, Calls Tryz.prog 51 #[.string u, .string ⟨#[40]⟩] w fun e w' => e = .returned (.bool false) ∧ w' = w) := fun w => by
    have := Any.strings_HasPrefix Tryz.laysHasPrefix u ⟨#[40]⟩ w
    rwa [show (⟨#[40]⟩ : ByteArray).data.toList = [40] from rfl, hp] at this
  have Hb : Hid (∀ w, Calls Tryz.prog 51 #[.string u, .string ⟨#[91]⟩] w fun e w' => e = .returned (.bool true) ∧ w' = w) := fun w => by
    have := Any.strings_HasPrefix Tryz.laysHasPrefix u ⟨#[91]⟩ w
    rwa [show (⟨#[91]⟩ : ByteArray).data.toList = [91] from rfl, hb] at this
  have HK0 : Hid (KB w (w.alloc (.cells #[I 0, I 0, I 0, .string E0] 23))) := ⟨fun o => by simp, fun o => by simp, (G.refl w).alloc _, by simp⟩
  have hsi : (strU (innr u.data.toList)).size ≤ u.size := by
    show (innr u.data.toList).toArray.size ≤ u.data.size
    simp [innr]; omega
  have Hin : Hid (∀ w, Calls Tryz.prog 130 #[.string u] w fun e w' => e = .returned (.string (strU (innr u.data.toList))) ∧ w' = w) := fun w => inner_any u (by omega) w
  obtain ⟨r, hr⟩ := hp_one _ _ hb
  have HX : Hid (∀ W, G w W → Calls Tryz.prog 131 #[.string (strU (innr u.data.toList))] W fun e w' => e = .returned (.int .i64 (whO (innr u.data.toList))) ∧ G W w') := fun W g => by
    have := wh_any (strU (innr u.data.toList)) (by omega) W (HE.out.G g)
    rwa [strU_list] at this
  have HT : Hid (TG u.data.toList 6 (whO (innr u.data.toList)) 0 E0 ∧ R64 (whO (innr u.data.toList))) := by
    have := tg_id 91 6 (.inr ⟨rfl, rfl⟩) r
    rw [← hr] at this
    exact ⟨this, whO_R _⟩
  generalize whO (innr u.data.toList) = x at HX HT
  clear hr hsi
  clear hq hp hb 
  go_enter Tryz.func117, Tryz.ntmps117
  go_wp2_with fail
  refine (Hq.out _).mono ?_
  rintro e w1 ⟨rfl, hw⟩
  rw [hw]
  clear hw w1
  go_wp2_with fail
  refine (Hp.out _).mono ?_
  rintro e w1 ⟨rfl, hw⟩
  rw [hw]
  clear hw w1
  go_wp2_with fail
  refine (Hb.out _).mono ?_
  rintro e w1 ⟨rfl, hw⟩
  rw [hw]
  clear hw w1
  go_wp2_with fail
  refine (Hin.out _).mono ?_
  rintro e w1 ⟨rfl, hw⟩
  rw [hw]
  clear hw w1
  go_wp2_with fail
  generalize w.alloc (.cells #[I 0, I 0, I 0, .string E0] 23) = wa at HK0 ⊢
  refine (HX.out _ HK0.out.g).mono ?_
  rintro e w3 ⟨rfl, hb⟩
  have hkA : KB w w3 := KB.G HK0.out hb
  have hcA := hkA.c
  have hfA := hkA.f
  clear hb HK0
  go_wp2
  refine bodyPost_ret (v := V 6 x 0 E0) (by simp [results, Tryz.results117, go_sem, hcA]) rfl ⟨6, x, 0, E0, rfl, HT.out.1, HT.out.2, by repeat (first | exact hkA.g | exact G.refl _ | refine G.alloc ?_ _ | refine G.setCell ?_ (Nat.le_refl _) _)⟩
set_option maxRecDepth 100000 in
set_option maxHeartbeats 4000000 in
theorem gt_6 (u : ByteArray) (hs : u.size ≤ 140737488351232) (w : World) (hE : Env w) (hn : (u.toList == [110, 117, 108, 108]) = false) (hf : (u.toList == [102, 97, 108, 115, 101]) = false) (ht : (u.toList == [116, 114, 117, 101]) = false) (hq : hasPrefix u.data.toList [39] = false) (hp : hasPrefix u.data.toList [40] = false) (hb : hasPrefix u.data.toList [91] = false) (hi : hasSuffix u.data.toList [105] = true) : Calls Tryz.prog 117 #[.string u] w fun e w' => ∃ k a b s, e = .returned (V k a b s) ∧ TG u.data.toList k a b s ∧ R64 a ∧ G w w' := by
  have HE : Hid _ := hE
  clear hE
  have Hq : Hid (∀ w, Calls Tryz.prog 51 #[.string u, .string ⟨#[39]⟩] w fun e w' => e = .returned (.bool false) ∧ w' = w) := fun w => by
    have := Any.strings_HasPrefix Tryz.laysHasPrefix u ⟨#[39]⟩ w
    rwa [show (⟨#[39]⟩ : ByteArray).data.toList = [39] from rfl, hq] at this
  have Hp : Hid (∀ w, Calls Tryz.prog 51 #[.string u, .string ⟨#[40]⟩] w fun e w' => e = .returned (.bool false) ∧ w' = w) := fun w => by
    have := Any.strings_HasPrefix Tryz.laysHasPrefix u ⟨#[40]⟩ w
    rwa [show (⟨#[40]⟩ : ByteArray).data.toList = [40] from rfl, hp] at this
  have Hb : Hid (∀ w, Calls Tryz.prog 51 #[.string u, .string ⟨#[91]⟩] w fun e w' => e = .returned (.bool false) ∧ w' = w) := fun w => by
    have := Any.strings_HasPrefix Tryz.laysHasPrefix u ⟨#[91]⟩ w
    rwa [show (⟨#[91]⟩ : ByteArray).data.toList = [91] from rfl, hb] at this
  have Hi : Hid (∀ w, Calls Tryz.prog 132 #[.string u, .string ⟨#[105]⟩] w fun e w' => e = .returned (.bool true) ∧ w' = w) := fun w => by
    have := Any.strings_HasSuffix Tryz.laysHasSuffix u ⟨#[105]⟩ w (by omega)
    rwa [show (⟨#[105]⟩ : ByteArray).data.toList = [105] from rfl, hi] at this
  have HK0 : Hid (KB w (w.alloc (.cells #[I 0, I 0, I 0, .string E0] 23))) := ⟨fun o => by simp, fun o => by simp, (G.refl w).alloc _, by simp⟩
  obtain ⟨r, hr⟩ := hs_one _ _ hi
  have htr : trimSuffix u.data.toList [105] = r := by
    unfold trimSuffix
    rw [if_pos hi, hr]
    simp
  have hsr : (strU r).size ≤ u.size := by
    show r.toArray.size ≤ u.data.size
    rw [← Array.length_toList (xs := u.data), hr]
    simp
  have Htr : Hid (∀ w, Calls Tryz.prog 134 #[.string u, .string ⟨#[105]⟩] w fun e w' => e = .returned (.string (strU r)) ∧ w' = w) := fun w => by
    have := Any.strings_TrimSuffix Tryz.laysTrimSuffix u ⟨#[105]⟩ w (by omega)
    rwa [show (⟨#[105]⟩ : ByteArray).data.toList = [105] from rfl, htr] at this
  obtain ⟨n, hn0, hgc⟩ := gc_any (strU r) (by omega)
  rw [strU_list] at hn0 hgc
  have HX : Hid (∀ W, G w W → Calls Tryz.prog 133 #[.string (strU r)] W fun e w' => e = .returned (V 3 (whO (r.take n)) (whO (r.drop n)) E0) ∧ G W w') := fun W g => hgc W (HE.out.G g)
  have HT : Hid (TG u.data.toList 3 (whO (r.take n)) (whO (r.drop n)) E0 ∧ R64 (whO (r.take n))) := by
    refine ⟨?_, whO_R _⟩
    have h3 : ∀ c s, u.data.toList = c :: s → c.toNat ≠ 39 ∧ c.toNat ≠ 40 ∧ c.toNat ≠ 91 := fun c s e => ⟨hp_not 39 _ hq c s e, hp_not 40 _ hp c s e, hp_not 91 _ hb c s e⟩
    rw [hr] at h3 ⊢
    exact tg_cpx hn0 h3
  generalize whO (r.take n) = x at HX HT
  generalize whO (r.drop n) = y at HX HT
  clear hr htr hsr hgc hn0
  clear hq hp hb hi
  go_enter Tryz.func117, Tryz.ntmps117
  go_wp2_with fail
  refine (Hq.out _).mono ?_
  rintro e w1 ⟨rfl, hw⟩
  rw [hw]
  clear hw w1
  go_wp2_with fail
  refine (Hp.out _).mono ?_
  rintro e w1 ⟨rfl, hw⟩
  rw [hw]
  clear hw w1
  go_wp2_with fail
  refine (Hb.out _).mono ?_
  rintro e w1 ⟨rfl, hw⟩
  rw [hw]
  clear hw w1
  go_wp2_with fail
  refine (Hi.out _).mono ?_
  rintro e w1 ⟨rfl, hw⟩
  rw [hw]
  clear hw w1
  go_wp2_with fail
  refine (Htr.out _).mono ?_
  rintro e w1 ⟨rfl, hw⟩
  rw [hw]
  clear hw w1
  go_wp2_with fail
  generalize w.alloc (.cells #[I 0, I 0, I 0, .string E0] 23) = wa at HK0 ⊢
  refine (HX.out _ HK0.out.g).mono ?_
  rintro e w3 ⟨rfl, hb⟩
  have hkA : KB w w3 := KB.G HK0.out hb
  have hcA := hkA.c
  have hfA := hkA.f
  clear hb HK0
  go_wp2
  refine bodyPost_ret (v := V 3 x y E0) (by simp [results, Tryz.results117, go_sem, hcA]) rfl ⟨3, x, y, E0, rfl, HT.out.1, HT.out.2, by repeat (first | exact hkA.g | exact G.refl _ | refine G.alloc ?_ _ | refine G.setCell ?_ (Nat.le_refl _) _)⟩
set_option maxRecDepth 100000 in
set_option maxHeartbeats 4000000 in
theorem gt_7 (u : ByteArray) (hs : u.size ≤ 140737488351232) (w : World) (hE : Env w) (hn : (u.toList == [110, 117, 108, 108]) = false) (hf : (u.toList == [102, 97, 108, 115, 101]) = false) (ht : (u.toList == [116, 114, 117, 101]) = false) (hq : hasPrefix u.data.toList [39] = false) (hp : hasPrefix u.data.toList [40] = false) (hb : hasPrefix u.data.toList [91] = false) (hi : hasSuffix u.data.toList [105] = false) : Calls Tryz.prog 117 #[.string u] w fun e w' => ∃ k a b s, e = .returned (V k a b s) ∧ TG u.data.toList k a b s ∧ R64 a ∧ G w w' := by
  have HE : Hid _ := hE
  clear hE
  have Hq : Hid (∀ w, Calls Tryz.prog 51 #[.string u, .string ⟨#[39]⟩] w fun e w' => e = .returned (.bool false) ∧ w' = w) := fun w => by
    have := Any.strings_HasPrefix Tryz.laysHasPrefix u ⟨#[39]⟩ w
    rwa [show (⟨#[39]⟩ : ByteArray).data.toList = [39] from rfl, hq] at this
  have Hp : Hid (∀ w, Calls Tryz.prog 51 #[.string u, .string ⟨#[40]⟩] w fun e w' => e = .returned (.bool false) ∧ w' = w) := fun w => by
    have := Any.strings_HasPrefix Tryz.laysHasPrefix u ⟨#[40]⟩ w
    rwa [show (⟨#[40]⟩ : ByteArray).data.toList = [40] from rfl, hp] at this
  have Hb : Hid (∀ w, Calls Tryz.prog 51 #[.string u, .string ⟨#[91]⟩] w fun e w' => e = .returned (.bool false) ∧ w' = w) := fun w => by
    have := Any.strings_HasPrefix Tryz.laysHasPrefix u ⟨#[91]⟩ w
    rwa [show (⟨#[91]⟩ : ByteArray).data.toList = [91] from rfl, hb] at this
  have Hi : Hid (∀ w, Calls Tryz.prog 132 #[.string u, .string ⟨#[105]⟩] w fun e w' => e = .returned (.bool false) ∧ w' = w) := fun w => by
    have := Any.strings_HasSuffix Tryz.laysHasSuffix u ⟨#[105]⟩ w (by omega)
    rwa [show (⟨#[105]⟩ : ByteArray).data.toList = [105] from rfl, hi] at this
  have HK0 : Hid (KB w (w.alloc (.cells #[I 0, I 0, I 0, .string E0] 23))) := ⟨fun o => by simp, fun o => by simp, (G.refl w).alloc _, by simp⟩
  have HX : Hid (∀ W, G w W → Calls Tryz.prog 131 #[.string u] W fun e w' => e = .returned (.int .i64 (whO u.data.toList)) ∧ G W w') := fun W g => wh_any u (by omega) W (HE.out.G g)
  have HT : Hid (TG u.data.toList 2 (whO u.data.toList) 0 E0 ∧ R64 (whO u.data.toList)) := by
    refine ⟨?_, whO_R _⟩
    have nb : ∀ l : List UInt8, (u.toList == l) = false → u.data.toList ≠ l := fun l h e => by rw [← data_list] at e; rw [e] at h; simp at h
    exact tg_whole (nb _ hn) (nb _ ht) (nb _ hf) (fun c s e => ⟨hp_not 39 _ hq c s e, hp_not 40 _ hp c s e, hp_not 91 _ hb c s e⟩) (hs_not 105 _ hi)
  generalize whO u.data.toList = x at HX HT
  clear hq hp hb hi
  go_enter Tryz.func117, Tryz.ntmps117
  go_wp2_with fail
  refine (Hq.out _).mono ?_
  rintro e w1 ⟨rfl, hw⟩
  rw [hw]
  clear hw w1
  go_wp2_with fail
  refine (Hp.out _).mono ?_
  rintro e w1 ⟨rfl, hw⟩
  rw [hw]
  clear hw w1
  go_wp2_with fail
  refine (Hb.out _).mono ?_
  rintro e w1 ⟨rfl, hw⟩
  rw [hw]
  clear hw w1
  go_wp2_with fail
  refine (Hi.out _).mono ?_
  rintro e w1 ⟨rfl, hw⟩
  rw [hw]
  clear hw w1
  go_wp2_with fail
  generalize w.alloc (.cells #[I 0, I 0, I 0, .string E0] 23) = wa at HK0 ⊢
  refine (HX.out _ HK0.out.g).mono ?_
  rintro e w3 ⟨rfl, hb⟩
  have hkA : KB w w3 := KB.G HK0.out hb
  have hcA := hkA.c
  have hfA := hkA.f
  clear hb HK0
  go_wp2
  refine bodyPost_ret (v := V 2 x 0 E0) (by simp [results, Tryz.results117, go_sem, hcA]) rfl ⟨2, x, 0, E0, rfl, HT.out.1, HT.out.2, by repeat (first | exact hkA.g | exact G.refl _ | refine G.alloc ?_ _ | refine G.setCell ?_ (Nat.le_refl _) _)⟩
theorem gt_any (u : ByteArray) (hs : u.size ≤ 140737488351232) (w : World) (hE : Env w) : Calls Tryz.prog 117 #[.string u] w fun e w' => ∃ k a b s, e = .returned (V k a b s) ∧ TG u.data.toList k a b s ∧ R64 a ∧ G w w' := by
  cases hn : (u.toList == [110, 117, 108, 108]) with
  | true => exact gt_0 u hs w hE hn
  | false =>
  cases hf : (u.toList == [102, 97, 108, 115, 101]) with
  | true => exact gt_1 u hs w hE hn hf
  | false =>
  cases ht : (u.toList == [116, 114, 117, 101]) with
  | true => exact gt_2 u hs w hE hn hf ht
  | false =>
  cases hq : hasPrefix u.data.toList [39] with
  | true => exact gt_3 u hs w hE hn hf ht hq
  | false =>
  cases hp : hasPrefix u.data.toList [40] with
  | true => exact gt_4 u hs w hE hn hf ht hq hp
  | false =>
  cases hb : hasPrefix u.data.toList [91] with
  | true => exact gt_5 u hs w hE hn hf ht hq hp hb
  | false =>
  cases hi : hasSuffix u.data.toList [105] with
  | true => exact gt_6 u hs w hE hn hf ht hq hp hb hi
  | false => exact gt_7 u hs w hE hn hf ht hq hp hb hi
end Go.Proofs.YthpflfkgbapbnaaGreatDoor
