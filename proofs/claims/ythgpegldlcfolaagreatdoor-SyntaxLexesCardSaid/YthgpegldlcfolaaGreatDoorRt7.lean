/- The document's Scan. -/
import Derived.Test.YthgpegldlcfolaaGreatDoorRt6
import Derived.Test.YthgpegldlcfolaaGreatDoorBk11
namespace Go.Proofs.YthgpegldlcfolaaGreatDoor
open Go.RowKit Go.Lib Go.Shelf

/-- What the document's Scan answers. -/
def ScR (t : List UInt8) (x : Value) : Prop :=
  (∃ k a b s, okV k a b s = true ∧ R64 a ∧ R64 b ∧ litV k a b s = t ∧ x = .tuple #[V k a b s, .int .i64 0]) ∨
  ((∀ k a b s, okV k a b s = true → R64 a → R64 b → t ≠ litV k a b s) ∧ x = .tuple #[V 0 0 0 E0, .int .i64 14])
theorem ok_Rb {k a b : Int} {s : ByteArray} (h : okV k a b s = true) : R64 b := by
  unfold R64
  rcases okV_kinds h with rfl | rfl | rfl | rfl | rfl | rfl | rfl
  · have := (ok_0 h).2.1; omega
  · have := (ok_1 h).2.1; omega
  · have := (ok_2 h).1; omega
  · have := (ok_3 h).2.1; omega
  · have := (ok_4 h).2.1; omega
  · have := (ok_5' h).1; omega
  · have := (ok_6' h).1; omega
/-- Both answer the same. -/
theorem sc_one {t : List UInt8} {x y : Value} (h1 : ScA t x) (h2 : ScR t y) : x = y := by
  rcases h1 with ⟨k, a, b, s, ok, ha, hl, tg, rfl⟩ | ⟨hn, rfl⟩ <;> rcases h2 with ⟨k', a', b', s', ok', ha', hb', hl', rfl⟩ | ⟨hn', rfl⟩
  · obtain ⟨rfl, rfl, rfl, rfl⟩ := tg k' a' b' s' ok' ha' hb' hl'.symm
    rfl
  · exact absurd hl.symm (hn' k a b s ok ha (ok_Rb ok))
  · exact absurd hl'.symm (hn k' a' b' s' ok' ha' hb')
  · rfl
theorem sc_form {t : List UInt8} {x : Value} (h : ScR t x) : ∃ k a b s c, x = .tuple #[V k a b s, .int .i64 c] := by
  rcases h with ⟨k, a, b, s, _, _, _, _, rfl⟩ | ⟨_, rfl⟩
  · exact ⟨_, _, _, _, _, rfl⟩
  · exact ⟨_, _, _, _, _, rfl⟩
set_option maxRecDepth 100000 in
set_option maxHeartbeats 4000000 in
theorem rscan_null (u : ByteArray) (hn : (u.toList == [110, 117, 108, 108]) = true) (w : World) : Calls Tryz.prog 39 #[.string u] w fun e w' => ∃ x, e = .returned x ∧ ScR u.data.toList x ∧ G w w' := by
  have HT : Hid (ScR u.data.toList (.tuple #[V 0 0 0 E0, .int .i64 0])) := .inl ⟨0, 0, 0, E0, by first | rfl | kernel_rfl | (simp [okV]; done), RZ0, RZ0, by rw [← ByteArray.toList_eq, eq_of_beq hn]; rfl, rfl⟩
  go_enter Tryz.func39, Tryz.ntmps39
  go_wp2
  refine bodyPost_ret (v := .tuple #[V 0 0 0 E0, .int .i64 0]) (by simp [results, Tryz.results39, go_sem]) rfl ⟨_, rfl, HT.out, by repeat (first | exact G.refl _ | refine G.setCell ?_ (Nat.le_refl _) _ | refine G.alloc ?_ _)⟩
set_option maxRecDepth 100000 in
set_option maxHeartbeats 4000000 in
theorem rscan_e (u : ByteArray) (hs : u.size ≤ 140737488351232) (hn : (u.toList == [110, 117, 108, 108]) = false) (h0 : u.size = 0) (w : World) : Calls Tryz.prog 39 #[.string u] w fun e w' => ∃ x, e = .returned x ∧ ScR u.data.toList x ∧ G w w' := by
  have hn' : u.data.toList ≠ [110, 117, 108, 108] := fun e => by rw [ByteArray.toList_eq, e] at hn; simp at hn
  have HX := hide (fun w => rg_any u hs hn' w)
  clear hn'
  have HK0 : Hid (KB w (w.alloc (.cells #[I 0, I 0, I 0, .string E0] 52))) := ⟨fun o => by simp, fun o => by simp, (G.refl w).alloc _, by simp⟩
  have hue : u.toList = [] := by
    rw [ByteArray.toList_eq]
    exact List.eq_nil_of_length_eq_zero (by rw [Array.length_toList]; exact h0)
  have HT : Hid (ScR u.data.toList (.tuple #[V 0 0 0 E0, .int .i64 14])) := .inr ⟨fun k0 a0 b0 s0 h _ _ he => by
    rw [← ByteArray.toList_eq, hue] at he
    exact lit_ne h he.symm, rfl⟩
  go_enter Tryz.func39, Tryz.ntmps39
  go_wp2_with fail
  generalize w.alloc (.cells #[I 0, I 0, I 0, .string E0] 52) = wa at HK0 ⊢
  refine (HX.out _).mono ?_
  rintro e w1 ⟨k, a, b, s, rfl, htg, hra, hrb, hsz, hb⟩
  have HKA : Hid (KB w w1) := KB.G HK0.out hb
  clear hb HK0
  have HKC : Hid (KC w w1 k a b s (w1.alloc (.cells #[I k, I a, I b, .string s] 52))) := ⟨HKA.out.G ((G.refl _).alloc _), fun o => by simp, fun o => by simp, by simp⟩
  have hcA := HKC.out.kb.c
  have hfA := HKC.out.kb.f
  go_wp2
  all_goals refine bodyPost_ret (v := .tuple #[V 0 0 0 E0, .int .i64 14]) (by simp [results, Tryz.results39, go_sem, hcA]) rfl ⟨_, rfl, HT.out, by repeat (first | exact HKC.out.kb.g | refine G.setCell ?_ (Nat.le_refl _) _)⟩
set_option maxRecDepth 100000 in
set_option maxHeartbeats 4000000 in
theorem rscan_any (u : ByteArray) (hs : u.size ≤ 140737488351232) (hn : (u.toList == [110, 117, 108, 108]) = false) (h0 : 0 < u.size) (w : World) : Calls Tryz.prog 39 #[.string u] w fun e w' => ∃ x, e = .returned x ∧ ScR u.data.toList x ∧ G w w' := by
  have hn' : u.data.toList ≠ [110, 117, 108, 108] := fun e => by rw [ByteArray.toList_eq, e] at hn; simp at hn
  have HX := hide (fun w => rg_any u hs hn' w)
  clear hn'
  have HK0 : Hid (KB w (w.alloc (.cells #[I 0, I 0, I 0, .string E0] 52))) := ⟨fun o => by simp, fun o => by simp, (G.refl w).alloc _, by simp⟩
  have hne1 : ¬ u.toList = [] := fun e => by
    rw [ByteArray.toList_eq] at e
    have h1 := congrArg List.length e
    rw [Array.length_toList] at h1
    have h2 : u.size = 0 := h1
    omega
  have hne2 : (u.toList == []) = false := beq_false_of_ne hne1
  have hne3 : u.toList.isEmpty = false := by cases h : u.toList with
    | nil => exact absurd h hne1
    | cons _ _ => rfl
  go_enter Tryz.func39, Tryz.ntmps39
  go_wp2_with fail
  generalize w.alloc (.cells #[I 0, I 0, I 0, .string E0] 52) = wa at HK0 ⊢
  refine (HX.out _).mono ?_
  rintro e w1 ⟨k, a, b, s, rfl, htg, hra, hrb, hsz, hb⟩
  have HKA : Hid (KB w w1) := KB.G HK0.out hb
  clear hb HK0
  have HKC : Hid (KC w w1 k a b s (w1.alloc (.cells #[I k, I a, I b, .string s] 52))) := ⟨HKA.out.G ((G.refl _).alloc _), fun o => by simp, fun o => by simp, by simp⟩
  have HV := hide (rv_any k a b s (by omega))
  cases hok : okV k a b s with
  | false =>
    rw [hok] at HV
    have HT : Hid (ScR u.data.toList (.tuple #[V 0 0 0 E0, .int .i64 14])) := .inr ⟨fun k0 a0 b0 s0 h ha hb he => by
      obtain ⟨rfl, rfl, rfl, rfl⟩ := htg k0 a0 b0 s0 h ha hb he
      rw [hok] at h; exact absurd h (by decide), rfl⟩
    clear htg hra hrb hok hsz
    go_wp2_with fail
    generalize w1.alloc (.cells #[I k, I a, I b, .string s] 52) = wb at HKC ⊢
    refine (HV.out _).mono ?_
    rintro e w2 ⟨rfl, hb⟩
    have HK2 : Hid (KC w w1 k a b s w2) := HKC.out.G hb
    clear hb HKC HKA
    have hcA := HK2.out.kb.c
    have hfA := HK2.out.kb.f
    go_wp2
    all_goals refine bodyPost_ret (v := .tuple #[V 0 0 0 E0, .int .i64 14]) (by simp [results, Tryz.results39, go_sem, hcA]) rfl ⟨_, rfl, HT.out, by repeat (first | exact HK2.out.kb.g | refine G.setCell ?_ (Nat.le_refl _) _)⟩
  | true =>
    rw [hok] at HV
    have HF := hide (rprint_yes k a b s hok (by omega) hra hrb)
    cases hc : ((strU (litV k a b s)).toList == u.toList) with
    | true =>
      have HT : Hid (ScR u.data.toList (.tuple #[V k a b s, .int .i64 0])) := .inl ⟨k, a, b, s, hok, hra, hrb, by
        have := eq_of_beq hc
        rwa [ByteArray.toList_eq, ByteArray.toList_eq, strU_list] at this, rfl⟩
      clear htg hra hrb hok hsz
      generalize litV k a b s = l at HF hc
      go_wp2_with fail
      generalize w1.alloc (.cells #[I k, I a, I b, .string s] 52) = wb at HKC ⊢
      refine (HV.out _).mono ?_
      rintro e w2 ⟨rfl, hb⟩
      have HK2 : Hid (KC w w1 k a b s w2) := HKC.out.G hb
      clear hb HKC HKA
      have hcB := HK2.out.c
      go_wp2_with fail
      refine (HF.out w2).mono ?_
      rintro e w3 ⟨rfl, hb⟩
      have HK3 : Hid (KC w w1 k a b s w3) := HK2.out.G hb
      clear hb HK2 hcB
      have hcA := HK3.out.kb.c
      have hfA := HK3.out.kb.f
      have hcB := HK3.out.c
      go_wp2
      all_goals refine bodyPost_ret (v := .tuple #[V k a b s, .int .i64 0]) (by simp [results, Tryz.results39, go_sem, hcA]) rfl ⟨_, rfl, HT.out, by repeat (first | exact HK3.out.kb.g | refine G.setCell ?_ (Nat.le_refl _) _)⟩
    | false =>
      have HT : Hid (ScR u.data.toList (.tuple #[V 0 0 0 E0, .int .i64 14])) := .inr ⟨fun k0 a0 b0 s0 h ha hb he => by
        obtain ⟨rfl, rfl, rfl, rfl⟩ := htg k0 a0 b0 s0 h ha hb he
        rw [ByteArray.toList_eq, ByteArray.toList_eq, strU_list, he] at hc
        simp at hc, rfl⟩
      clear htg hra hrb hok hsz
      generalize litV k a b s = l at HF hc
      go_wp2_with fail
      generalize w1.alloc (.cells #[I k, I a, I b, .string s] 52) = wb at HKC ⊢
      refine (HV.out _).mono ?_
      rintro e w2 ⟨rfl, hb⟩
      have HK2 : Hid (KC w w1 k a b s w2) := HKC.out.G hb
      clear hb HKC HKA
      have hcB := HK2.out.c
      go_wp2_with fail
      refine (HF.out w2).mono ?_
      rintro e w3 ⟨rfl, hb⟩
      have HK3 : Hid (KC w w1 k a b s w3) := HK2.out.G hb
      clear hb HK2 hcB
      have hcA := HK3.out.kb.c
      have hfA := HK3.out.kb.f
      have hcB := HK3.out.c
      go_wp2
      all_goals refine bodyPost_ret (v := .tuple #[V 0 0 0 E0, .int .i64 14]) (by simp [results, Tryz.results39, go_sem, hcA]) rfl ⟨_, rfl, HT.out, by repeat (first | exact HK3.out.kb.g | refine G.setCell ?_ (Nat.le_refl _) _)⟩
theorem rscan_all (u : ByteArray) (hs : u.size ≤ 140737488351232) (w : World) : Calls Tryz.prog 39 #[.string u] w fun e w' => ∃ x, e = .returned x ∧ ScR u.data.toList x ∧ G w w' := by
  cases hn : (u.toList == [110, 117, 108, 108]) with
  | true => exact rscan_null u hn w
  | false =>
    by_cases h0 : u.size = 0
    · exact rscan_e u hs hn h0 w
    · exact rscan_any u hs hn (by omega) w
end Go.Proofs.YthgpegldlcfolaaGreatDoor
