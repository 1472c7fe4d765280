/- The document's guess. -/
import Derived.Test.YthgpegldlcfolaaGreatDoorRt5
import Derived.Test.YthgpegldlcfolaaGreatDoorBk9
namespace Go.Proofs.YthgpegldlcfolaaGreatDoor
open Go.RowKit Go.Lib Go.Shelf

theorem nd (x : UInt8) (h : ¬ (48 ≤ x.toNat ∧ x.toNat ≤ 57)) (y : List UInt8) : ∀ c t, x :: y = c :: t → isD c = false := fun c t e => by
  cases e
  simp [isD]
  omega
theorem tgd_id (c : UInt8) (k0 : Int) (hk : (c.toNat = 40 ∧ k0 = 5) ∨ (c.toNat = 91 ∧ k0 = 6)) (r : List UInt8) : TG (c :: r) k0 (dgN r) 0 E0 := by
  intro k a b s ok ha _ he
  obtain ⟨c', r', e, hc⟩ := lit_head ok
  have he' := he
  rw [e] at he'
  have h1 : c = c' := (List.cons.inj he').1
  subst h1
  rcases hk with ⟨hc0, rfl⟩ | ⟨hc0, rfl⟩
  · have hk : k = 5 := by omega
    subst hk
    obtain ⟨rfl, rfl⟩ := ok_5' ok
    refine ⟨rfl, ?_, rfl, rfl⟩
    rw [show litV 5 a 0 E0 = 40 :: (itoa a ++ [41]) by simp [litV]] at he
    rw [(List.cons.inj he).2]
    exact (dg_itoa a ha [41] (nd 41 (by decide) _)).1
  · have hk : k = 6 := by omega
    subst hk
    obtain ⟨rfl, rfl⟩ := ok_6' ok
    refine ⟨rfl, ?_, rfl, rfl⟩
    rw [show litV 6 a 0 E0 = 91 :: (itoa a ++ [93]) by simp [litV]] at he
    rw [(List.cons.inj he).2]
    exact (dg_itoa a ha [93] (nd 93 (by decide) _)).1
theorem cpx_at (a b : Int) (ha : R64 a) (hb : R64 b) (s : ByteArray) : dgN (litV 3 a b s) = a ∧ dgL (litV 3 a b s) = (itoa a).length ∧ dgN ((litV 3 a b s).drop (itoa a).length) = b ∧ (itoa a).length < (litV 3 a b s).length := by
  by_cases h : b < 0
  · have e : litV 3 a b s = itoa a ++ (itoa b ++ [105]) := by simp [litV, h]
    have hh : ∀ c t, itoa b ++ [105] = c :: t → isD c = false := fun c t he => by
      unfold itoa at he
      rw [if_pos h] at he
      exact nd 45 (by decide) _ c t he
    obtain ⟨h1, h2⟩ := dg_itoa a ha _ hh
    rw [e]
    refine ⟨h1, h2, ?_, by simp⟩
    rw [List.drop_left]
    exact (dg_itoa b hb [105] (nd 105 (by decide) _)).1
  · have e : litV 3 a b s = itoa a ++ (43 :: itoa b ++ [105]) := by simp [litV, h]
    obtain ⟨h1, h2⟩ := dg_itoa a ha (43 :: itoa b ++ [105]) (nd 43 (by decide) _)
    rw [e]
    refine ⟨h1, h2, ?_, by simp⟩
    rw [List.drop_left]
    exact dg_plus b hb h [105] (nd 105 (by decide) _)
theorem tgd_num {t : List UInt8} (h0 : t ≠ [110, 117, 108, 108]) (h1 : t ≠ [116, 114, 117, 101]) (h2 : t ≠ [102, 97, 108, 115, 101]) (h3 : ∀ c r, t = c :: r → c.toNat ≠ 39 ∧ c.toNat ≠ 40 ∧ c.toNat ≠ 91) : (dgL t = t.length → TG t 2 (dgN t) 0 E0) ∧ (dgL t ≠ t.length → TG t 3 (dgN t) (dgN (t.drop (dgL t))) E0) := by
  have key : ∀ k a b s, okV k a b s = true → R64 a → R64 b → t = litV k a b s → (k = 2 ∧ b = 0 ∧ s = E0 ∧ dgN t = a ∧ dgL t = t.length) ∨ (k = 3 ∧ s = E0 ∧ dgN t = a ∧ dgN (t.drop (dgL t)) = b ∧ dgL t ≠ t.length) := fun k a b s ok ha hb he => by
    obtain ⟨c, r, e, hc⟩ := lit_head ok
    have h5 := h3 c r (he.trans e)
    rcases okV_kinds ok with rfl | rfl | rfl | rfl | rfl | rfl | rfl
    · exact absurd he h0
    · obtain ⟨hx, rfl, rfl⟩ := ok_1 ok
      rcases hx with rfl | rfl
      · exact absurd he h2
      · exact absurd he h1
    · obtain ⟨rfl, rfl⟩ := ok_2 ok
      have e2 : t = itoa a ++ [] := by rw [he]; simp [litV]
      obtain ⟨q1, q2⟩ := dg_itoa a ha [] (fun c t h => by cases h)
      rw [← e2] at q1 q2
      exact .inl ⟨rfl, rfl, rfl, q1, by rw [q2, e2]; simp⟩
    · obtain ⟨_, _, rfl⟩ := ok_3 ok
      obtain ⟨q1, q2, q3, q4⟩ := cpx_at a b ha hb E0
      rw [← he] at q1 q2 q3 q4
      exact .inr ⟨rfl, rfl, q1, by rw [q2]; exact q3, by rw [q2]; omega⟩
    · omega
    · omega
    · omega
  refine ⟨fun hl k a b s ok ha hb he => ?_, fun hl k a b s ok ha hb he => ?_⟩
  · rcases key k a b s ok ha hb he with ⟨rfl, rfl, rfl, e1, _⟩ | ⟨_, _, _, _, e2⟩
    · exact ⟨rfl, e1, rfl, rfl⟩
    · exact absurd hl e2
  · rcases key k a b s ok ha hb he with ⟨_, _, _, _, e2⟩ | ⟨rfl, rfl, e1, e2, _⟩
    · exact absurd e2 hl
    · exact ⟨rfl, e1, e2, rfl⟩
set_option maxRecDepth 100000 in
set_option maxHeartbeats 4000000 in
theorem tx_truth (x : Bool) (w : World) : Calls Tryz.prog 62 #[.bool x] w fun e w' => e = .returned (V 1 (if x then 1 else 0) 0 E0) ∧ G w w' := by
  cases x
  · go_enter Tryz.func62, Tryz.ntmps62
    go_wp2
    exact bodyPost_ret (v := V 1 0 0 E0) (by simp [results, Tryz.results62, go_sem]) rfl ⟨rfl, by repeat (first | exact G.refl _ | refine G.setCell ?_ (Nat.le_refl _) _ | refine G.drew ?_ | refine G.alloc ?_ _)⟩
  · go_enter Tryz.func62, Tryz.ntmps62
    go_wp2
    exact bodyPost_ret (v := V 1 1 0 E0) (by simp [results, Tryz.results62, go_sem]) rfl ⟨rfl, by repeat (first | exact G.refl _ | refine G.setCell ?_ (Nat.le_refl _) _ | refine G.drew ?_ | refine G.alloc ?_ _)⟩
set_option maxRecDepth 100000 in
set_option maxHeartbeats 4000000 in
theorem tx_whole (a : Int) (w : World) : Calls Tryz.prog 65 #[.int .i64 a] w fun e w' => e = .returned (V 2 a 0 E0) ∧ G w w' := by
  go_enter Tryz.func65, Tryz.ntmps65
  go_wp2
  exact bodyPost_ret (v := V 2 a 0 E0) (by simp [results, Tryz.results65, go_sem]) rfl ⟨rfl, by repeat (first | exact G.refl _ | refine G.setCell ?_ (Nat.le_refl _) _ | refine G.drew ?_ | refine G.alloc ?_ _)⟩
set_option maxRecDepth 100000 in
set_option maxHeartbeats 4000000 in
theorem tx_pair (a b : Int) (w : World) : Calls Tryz.prog 66 #[.int .i64 a, .int .i64 b] w fun e w' => e = .returned (V 3 a b E0) ∧ G w w' := by
  go_enter Tryz.func66, Tryz.ntmps66
  go_wp2
  exact bodyPost_ret (v := V 3 a b E0) (by simp [results, Tryz.results66, go_sem]) rfl ⟨rfl, by repeat (first | exact G.refl _ | refine G.setCell ?_ (Nat.le_refl _) _ | refine G.drew ?_ | refine G.alloc ?_ _)⟩
/-- What a guess is. -/
def Gs (t : List UInt8) (z : Nat) (e : Ending) (w w' : World) : Prop := ∃ k a b s, e = .returned (V k a b s) ∧ TG t k a b s ∧ R64 a ∧ R64 b ∧ s.size ≤ z ∧ G w w'
theorem RZ0 : R64 0 := by unfold R64; omega
theorem RZ1 : R64 1 := by unfold R64; omega
set_option maxRecDepth 100000 in
set_option maxHeartbeats 4000000 in
theorem rg_t (u : ByteArray) (ht : (u.toList == [116, 114, 117, 101]) = true) (w : World) : Calls Tryz.prog 49 #[.string u] w fun e w' => Gs u.data.toList u.size e w w' := by
  have HT := hide (tx_truth true)
  have HK0 : Hid (KB w (w.alloc (.cells #[I 0, I 0, I 0, .string E0] 52))) := ⟨fun o => by simp, fun o => by simp, (G.refl w).alloc _, by simp⟩
  go_enter Tryz.func49, Tryz.ntmps49
  go_wp2_with fail
  generalize w.alloc (.cells #[I 0, I 0, I 0, .string E0] 52) = wa at HK0 ⊢
  refine (HT.out _).mono ?_
  rintro e w3 ⟨rfl, hb⟩
  have hkA : KB w w3 := KB.G HK0.out hb
  have hcA := hkA.c
  have hfA := hkA.f
  clear hb
  go_wp2
  refine bodyPost_ret (v := V 1 1 0 E0) (by simp [results, Tryz.results49, go_sem, hcA]) rfl ⟨1, 1, 0, E0, rfl, ?_, RZ1, RZ0, Nat.zero_le _, by repeat (first | exact hkA.g | exact G.refl _ | refine G.alloc ?_ _ | refine G.setCell ?_ (Nat.le_refl _) _)⟩
  rw [← ByteArray.toList_eq, eq_of_beq ht]
  exact tg_bool true
set_option maxRecDepth 100000 in
set_option maxHeartbeats 4000000 in
theorem rg_f (u : ByteArray) (ht : (u.toList == [116, 114, 117, 101]) = false) (hf : (u.toList == [102, 97, 108, 115, 101]) = true) (w : World) : Calls Tryz.prog 49 #[.string u] w fun e w' => Gs u.data.toList u.size e w w' := by
  have HT := hide (tx_truth false)
  have HK0 : Hid (KB w (w.alloc (.cells #[I 0, I 0, I 0, .string E0] 52))) := ⟨fun o => by simp, fun o => by simp, (G.refl w).alloc _, by simp⟩
  go_enter Tryz.func49, Tryz.ntmps49
  go_wp2_with fail
  generalize w.alloc (.cells #[I 0, I 0, I 0, .string E0] 52) = wa at HK0 ⊢
  refine (HT.out _).mono ?_
  rintro e w3 ⟨rfl, hb⟩
  have hkA : KB w w3 := KB.G HK0.out hb
  have hcA := hkA.c
  have hfA := hkA.f
  clear hb
  go_wp2
  refine bodyPost_ret (v := V 1 0 0 E0) (by simp [results, Tryz.results49, go_sem, hcA]) rfl ⟨1, 0, 0, E0, rfl, ?_, RZ0, RZ0, Nat.zero_le _, by repeat (first | exact hkA.g | exact G.refl _ | refine G.alloc ?_ _ | refine G.setCell ?_ (Nat.le_refl _) _)⟩
  rw [← ByteArray.toList_eq, eq_of_beq hf]
  exact tg_bool false
set_option maxRecDepth 100000 in
set_option maxHeartbeats 4000000 in
theorem rg_str (u : ByteArray) (hs : u.size ≤ 140737488351232) (ht : (u.toList == [116, 114, 117, 101]) = false) (hf : (u.toList == [102, 97, 108, 115, 101]) = false) (h0 : 0 < u.size) (h1 : u[0].toNat = 39) (w : World) : Calls Tryz.prog 49 #[.string u] w fun e w' => Gs u.data.toList u.size e w w' := by
  have hne1 : ¬ u.toList = [] := fun e => by
    rw [ByteArray.toList_eq] at e
    have h1 := congrArg List.length e
    rw [Array.length_toList] at h1
    have h2 : u.size = 0 := h1
    omega
  have hne2 : (u.toList == []) = false := beq_false_of_ne hne1
  have hne3 : u.toList.isEmpty = false := by cases h : u.toList with
    | nil => exact absurd h hne1
    | cons _ _ => rfl
  have h0I : (0 : Int) < (u.size : Int) := by omega
  have HCO : Hid (u.data.toList = u[0] :: u.data.toList.drop 1) := by
    have := u_get u 0 h0
    unfold Hid
    cases h : u.data.toList with
    | nil => rw [h] at this; simp at this
    | cons c r => rw [h] at this; simp at this; rw [this]; rfl
  have h1I : (u[0].toNat : Int) = 39 := by omega
  have HU := hide (runw_any u hs)
  have H39 : Hid (u.data.toList = 39 :: u.data.toList.drop 1) := by
    have := HCO.out
    rw [show u[0] = 39 from UInt8.toNat_inj.1 (by rw [h1]; rfl)] at this
    exact this
  have HK0 : Hid (KB w (w.alloc (.cells #[I 0, I 0, I 0, .string E0] 52))) := ⟨fun o => by simp, fun o => by simp, (G.refl w).alloc _, by simp⟩
  go_enter Tryz.func49, Tryz.ntmps49
  go_wp2_with fail
  generalize w.alloc (.cells #[I 0, I 0, I 0, .string E0] 52) = wa at HK0 ⊢
  refine (HU.out _).mono ?_
  rintro e w3 ⟨x, rfl, hb, hx1, hx2⟩
  have HT : Hid (TG u.data.toList 4 0 0 x) := by
    unfold Hid
    rw [H39.out] at hx2 ⊢
    exact tg_str hx2
  have hkA : KB w w3 := KB.G HK0.out hb
  have hcA := hkA.c
  have hfA := hkA.f
  clear hb
  go_wp2
  refine bodyPost_ret (v := V 4 0 0 x) (by simp [results, Tryz.results49, go_sem, hcA]) rfl ⟨4, 0, 0, x, rfl, HT.out, RZ0, RZ0, hx1, by repeat (first | exact hkA.g | exact G.refl _ | refine G.alloc ?_ _ | refine G.setCell ?_ (Nat.le_refl _) _)⟩
set_option maxRecDepth 100000 in
set_option maxHeartbeats 4000000 in
theorem rg_node (u : ByteArray) (hs : u.size ≤ 140737488351232) (ht : (u.toList == [116, 114, 117, 101]) = false) (hf : (u.toList == [102, 97, 108, 115, 101]) = false) (h0 : 0 < u.size) (h1 : u[0].toNat = 40) (w : World) : Calls Tryz.prog 49 #[.string u] w fun e w' => Gs u.data.toList u.size e w w' := by
  have hne1 : ¬ u.toList = [] := fun e => by
    rw [ByteArray.toList_eq] at e
    have h1 := congrArg List.length e
    rw [Array.length_toList] at h1
    have h2 : u.size = 0 := h1
    omega
  have hne2 : (u.toList == []) = false := beq_false_of_ne hne1
  have hne3 : u.toList.isEmpty = false := by cases h : u.toList with
    | nil => exact absurd h hne1
    | cons _ _ => rfl
  have h0I : (0 : Int) < (u.size : Int) := by omega
  have HCO : Hid (u.data.toList = u[0] :: u.data.toList.drop 1) := by
    have := u_get u 0 h0
    unfold Hid
    cases h : u.data.toList with
    | nil => rw [h] at this; simp at this
    | cons c r => rw [h] at this; simp at this; rw [this]; rfl
  have h1I : (u[0].toNat : Int) = 40 := by omega
  have HU := hide (rdig_any u (by omega) 1 (by omega))
  have HT : Hid (TG u.data.toList 5 (dgN (u.data.toList.drop 1)) 0 E0 ∧ R64 (dgN (u.data.toList.drop 1))) := by
    refine ⟨?_, dgN_R _⟩
    have h2 := tgd_id u[0] 5 (by omega) (u.data.toList.drop 1)
    rw [← HCO.out] at h2
    exact h2
  generalize dgN (u.data.toList.drop 1) = x at HU HT
  have HK0 : Hid (KB w (w.alloc (.cells #[I 0, I 0, I 0, .string E0] 52))) := ⟨fun o => by simp, fun o => by simp, (G.refl w).alloc _, by simp⟩
  go_enter Tryz.func49, Tryz.ntmps49
  go_wp2_with fail
  generalize w.alloc (.cells #[I 0, I 0, I 0, .string E0] 52) = wa at HK0 ⊢
  refine (HU.out _).mono ?_
  rintro e w3 ⟨rfl, rfl⟩
  have hb := G.refl w3
  have hkA : KB w w3 := KB.G HK0.out hb
  have hcA := hkA.c
  have hfA := hkA.f
  clear hb
  go_wp2
  refine bodyPost_ret (v := V 5 x 0 E0) (by simp [results, Tryz.results49, go_sem, hcA]) rfl ⟨5, x, 0, E0, rfl, HT.out.1, HT.out.2, RZ0, Nat.zero_le _, by repeat (first | exact hkA.g | exact G.refl _ | refine G.alloc ?_ _ | refine G.setCell ?_ (Nat.le_refl _) _)⟩
set_option maxRecDepth 100000 in
set_option maxHeartbeats 4000000 in
theorem rg_edge (u : ByteArray) (hs : u.size ≤ 140737488351232) (ht : (u.toList == [116, 114, 117, 101]) = false) (hf : (u.toList == [102, 97, 108, 115, 101]) = false) (h0 : 0 < u.size) (h1 : u[0].toNat = 91) (w : World) : Calls Tryz.prog 49 #[.string u] w fun e w' => Gs u.data.toList u.size e w w' := by
  have hne1 : ¬ u.toList = [] := fun e => by
    rw [ByteArray.toList_eq] at e
    have h1 := congrArg List.length e
    rw [Array.length_toList] at h1
    have h2 : u.size = 0 := h1
    omega
  have hne2 : (u.toList == []) = false := beq_false_of_ne hne1
  have hne3 : u.toList.isEmpty = false := by cases h : u.toList with
    | nil => exact absurd h hne1
    | cons _ _ => rfl
  have h0I : (0 : Int) < (u.size : Int) := by omega
  have HCO : Hid (u.data.toList = u[0] :: u.data.toList.drop 1) := by
    have := u_get u 0 h0
    unfold Hid
    cases h : u.data.toList with
    | nil => rw [h] at this; simp at this
    | cons c r => rw [h] at this; simp at this; rw [this]; rfl
  have h1I : (u[0].toNat : Int) = 91 := by omega
  have HU := hide (rdig_any u (by omega) 1 (by omega))
  have HT : Hid (TG u.data.toList 6 (dgN (u.data.toList.drop 1)) 0 E0 ∧ R64 (dgN (u.data.toList.drop 1))) := by
    refine ⟨?_, dgN_R _⟩
    have h2 := tgd_id u[0] 6 (by omega) (u.data.toList.drop 1)
    rw [← HCO.out] at h2
    exact h2
  generalize dgN (u.data.toList.drop 1) = x at HU HT
  have HK0 : Hid (KB w (w.alloc (.cells #[I 0, I 0, I 0, .string E0] 52))) := ⟨fun o => by simp, fun o => by simp, (G.refl w).alloc _, by simp⟩
  go_enter Tryz.func49, Tryz.ntmps49
  go_wp2_with fail
  generalize w.alloc (.cells #[I 0, I 0, I 0, .string E0] 52) = wa at HK0 ⊢
  refine (HU.out _).mono ?_
  rintro e w3 ⟨rfl, rfl⟩
  have hb := G.refl w3
  have hkA : KB w w3 := KB.G HK0.out hb
  have hcA := hkA.c
  have hfA := hkA.f
  clear hb
  go_wp2
  refine bodyPost_ret (v := V 6 x 0 E0) (by simp [results, Tryz.results49, go_sem, hcA]) rfl ⟨6, x, 0, E0, rfl, HT.out.1, HT.out.2, RZ0, Nat.zero_le _, by repeat (first | exact hkA.g | exact G.refl _ | refine G.alloc ?_ _ | refine G.setCell ?_ (Nat.le_refl _) _)⟩
set_option maxRecDepth 100000 in
set_option maxHeartbeats 4000000 in
theorem rg_e (u : ByteArray) (_hs : u.size ≤ 140737488351232) (_ht : (u.toList == [116, 114, 117, 101]) = false) (_hf : (u.toList == [102, 97, 108, 115, 101]) = false) (h0 : u.size = 0) (hT : TG u.data.toList 2 (dgN u.data.toList) 0 E0) (w : World) : Calls Tryz.prog 49 #[.string u] w fun e w' => Gs u.data.toList u.size e w w' := by
  have hue : u.toList = [] := by
    rw [ByteArray.toList_eq]
    exact List.eq_nil_of_length_eq_zero (by rw [Array.length_toList]; exact h0)
  have hl : dgL u.data.toList = u.size := by rw [← ByteArray.toList_eq, hue, h0]; rfl
  have HU := hide (rdig_any u (by omega) 0 (by omega))
  rw [List.drop_zero, Nat.zero_add] at HU
  rw [hl] at HU
  have HT := hide hT
  have HR := hide (dgN_R u.data.toList)
  have HP := hide (tx_whole (dgN u.data.toList))
  generalize dgN u.data.toList = x at HU HT HR HP hT
  clear hT
  have HK0 : Hid (KB w (w.alloc (.cells #[I 0, I 0, I 0, .string E0] 52))) := ⟨fun o => by simp, fun o => by simp, (G.refl w).alloc _, by simp⟩
  go_enter Tryz.func49, Tryz.ntmps49
  go_wp2_with fail
  generalize w.alloc (.cells #[I 0, I 0, I 0, .string E0] 52) = wa at HK0 ⊢
  refine (HU.out _).mono ?_
  rintro e w3 ⟨rfl, rfl⟩
  go_wp2_with fail
  refine (HP.out _).mono ?_
  rintro e w4 ⟨rfl, hb⟩
  have hkA : KB w w4 := KB.G HK0.out hb
  have hcA := hkA.c
  have hfA := hkA.f
  clear hb
  go_wp2
  refine bodyPost_ret (v := V 2 x 0 E0) (by simp [results, Tryz.results49, go_sem, hcA]) rfl ⟨2, x, 0, E0, rfl, HT.out, HR.out, RZ0, Nat.zero_le _, by repeat (first | exact hkA.g | exact G.refl _ | refine G.alloc ?_ _ | refine G.setCell ?_ (Nat.le_refl _) _)⟩
set_option maxRecDepth 100000 in
set_option maxHeartbeats 4000000 in
theorem rg_w (u : ByteArray) (hs : u.size ≤ 140737488351232) (ht : (u.toList == [116, 114, 117, 101]) = false) (hf : (u.toList == [102, 97, 108, 115, 101]) = false) (h0 : 0 < u.size) (h1 : ¬ u[0].toNat = 39) (h2 : ¬ u[0].toNat = 40) (h3 : ¬ u[0].toNat = 91) (hl : dgL u.data.toList = u.size) (hT : TG u.data.toList 2 (dgN u.data.toList) 0 E0) (w : World) : Calls Tryz.prog 49 #[.string u] w fun e w' => Gs u.data.toList u.size e w w' := by
  have hne1 : ¬ u.toList = [] := fun e => by
    rw [ByteArray.toList_eq] at e
    have h1 := congrArg List.length e
    rw [Array.length_toList] at h1
    have h2 : u.size = 0 := h1
    omega
  have hne2 : (u.toList == []) = false := beq_false_of_ne hne1
  have hne3 : u.toList.isEmpty = false := by cases h : u.toList with
    | nil => exact absurd h hne1
    | cons _ _ => rfl
  have h0I : (0 : Int) < (u.size : Int) := by omega
  have HCO : Hid (u.data.toList = u[0] :: u.data.toList.drop 1) := by
    have := u_get u 0 h0
    unfold Hid
    cases h : u.data.toList with
    | nil => rw [h] at this; simp at this
    | cons c r => rw [h] at this; simp at this; rw [this]; rfl
  have h1I : ((u[0].toNat : Int) == 39) = false := beq_false_of_ne (by omega)
  have h2I : ((u[0].toNat : Int) == 40) = false := beq_false_of_ne (by omega)
  have h3I : ((u[0].toNat : Int) == 91) = false := beq_false_of_ne (by omega)
  have HU := hide (rdig_any u (by omega) 0 (by omega))
  rw [List.drop_zero, Nat.zero_add] at HU
  rw [hl] at HU
  have HT := hide hT
  have HR := hide (dgN_R u.data.toList)
  have HP := hide (tx_whole (dgN u.data.toList))
  generalize dgN u.data.toList = x at HU HT HR HP hT
  clear hT
  have HK0 : Hid (KB w (w.alloc (.cells #[I 0, I 0, I 0, .string E0] 52))) := ⟨fun o => by simp, fun o => by simp, (G.refl w).alloc _, by simp⟩
  go_enter Tryz.func49, Tryz.ntmps49
  go_wp2_with fail
  generalize w.alloc (.cells #[I 0, I 0, I 0, .string E0] 52) = wa at HK0 ⊢
  refine (HU.out _).mono ?_
  rintro e w3 ⟨rfl, rfl⟩
  go_wp2_with fail
  refine (HP.out _).mono ?_
  rintro e w4 ⟨rfl, hb⟩
  have hkA : KB w w4 := KB.G HK0.out hb
  have hcA := hkA.c
  have hfA := hkA.f
  clear hb
  go_wp2
  refine bodyPost_ret (v := V 2 x 0 E0) (by simp [results, Tryz.results49, go_sem, hcA]) rfl ⟨2, x, 0, E0, rfl, HT.out, HR.out, RZ0, Nat.zero_le _, by repeat (first | exact hkA.g | exact G.refl _ | refine G.alloc ?_ _ | refine G.setCell ?_ (Nat.le_refl _) _)⟩
set_option maxRecDepth 100000 in
set_option maxHeartbeats 4000000 in
theorem rg_c (u : ByteArray) (hs : u.size ≤ 140737488351232) (ht : (u.toList == [116, 114, 117, 101]) = false) (hf : (u.toList == [102, 97, 108, 115, 101]) = false) (h0 : 0 < u.size) (h1 : ¬ u[0].toNat = 39) (h2 : ¬ u[0].toNat = 40) (h3 : ¬ u[0].toNat = 91) (hl : dgL u.data.toList < u.size) (hT : TG u.data.toList 3 (dgN u.data.toList) (dgN (u.data.toList.drop (dgL u.data.toList))) E0) (w : World) : Calls Tryz.prog 49 #[.string u] w fun e w' => Gs u.data.toList u.size e w w' := by
  have hne1 : ¬ u.toList = [] := fun e => by
    rw [ByteArray.toList_eq] at e
    have h1 := congrArg List.length e
    rw [Array.length_toList] at h1
    have h2 : u.size = 0 := h1
    omega
  have hne2 : (u.toList == []) = false := beq_false_of_ne hne1
  have hne3 : u.toList.isEmpty = false := by cases h : u.toList with
    | nil => exact absurd h hne1
    | cons _ _ => rfl
  have h0I : (0 : Int) < (u.size : Int) := by omega
  have HCO : Hid (u.data.toList = u[0] :: u.data.toList.drop 1) := by
    have := u_get u 0 h0
    unfold Hid
    cases h : u.data.toList with
    | nil => rw [h] at this; simp at this
    | cons c r => rw [h] at this; simp at this; rw [this]; rfl
  have h1I : ((u[0].toNat : Int) == 39) = false := beq_false_of_ne (by omega)
  have h2I : ((u[0].toNat : Int) == 40) = false := beq_false_of_ne (by omega)
  have h3I : ((u[0].toNat : Int) == 91) = false := beq_false_of_ne (by omega)
  have HU := hide (rdig_any u (by omega) 0 (by omega))
  rw [List.drop_zero, Nat.zero_add] at HU
  have HT := hide hT
  have HR := hide (dgN_R u.data.toList)
  have HU2 := hide (rdig_any u (by omega) (dgL u.data.toList) (by omega))
  have HR2 := hide (dgN_R (u.data.toList.drop (dgL u.data.toList)))
  have HP := hide (tx_pair (dgN u.data.toList) (dgN (u.data.toList.drop (dgL u.data.toList))))
  generalize dgN (u.data.toList.drop (dgL u.data.toList)) = y at HT HR2 HP HU2 hT
  generalize (dgL u.data.toList + dgL (u.data.toList.drop (dgL u.data.toList)) : Nat) = z at HU2
  generalize dgL u.data.toList = m at HU HU2 hl hT
  generalize dgN u.data.toList = x at HU HT HR HP hT
  clear hT
  have hlI : ((m : Int) == (u.size : Int)) = false := beq_false_of_ne (by omega)
  have HK0 : Hid (KB w (w.alloc (.cells #[I 0, I 0, I 0, .string E0] 52))) := ⟨fun o => by simp, fun o => by simp, (G.refl w).alloc _, by simp⟩
  go_enter Tryz.func49, Tryz.ntmps49
  go_wp2_with fail
  generalize w.alloc (.cells #[I 0, I 0, I 0, .string E0] 52) = wa at HK0 ⊢
  refine (HU.out _).mono ?_
  rintro e w3 ⟨rfl, rfl⟩
  go_wp2_with fail
  refine (HU2.out _).mono ?_
  rintro e w3 ⟨rfl, rfl⟩
  go_wp2_with fail
  refine (HP.out _).mono ?_
  rintro e w4 ⟨rfl, hb⟩
  have hkA : KB w w4 := KB.G HK0.out hb
  have hcA := hkA.c
  have hfA := hkA.f
  clear hb
  go_wp2
  refine bodyPost_ret (v := V 3 x y E0) (by simp [results, Tryz.results49, go_sem, hcA]) rfl ⟨3, x, y, E0, rfl, HT.out, HR.out, HR2.out, Nat.zero_le _, by repeat (first | exact hkA.g | exact G.refl _ | refine G.alloc ?_ _ | refine G.setCell ?_ (Nat.le_refl _) _)⟩
theorem rg_any (u : ByteArray) (hs : u.size ≤ 140737488351232) (hn : u.data.toList ≠ [110, 117, 108, 108]) (w : World) : Calls Tryz.prog 49 #[.string u] w fun e w' => Gs u.data.toList u.size e w w' := by
  cases ht : (u.toList == [116, 114, 117, 101]) with
  | true => exact rg_t u ht w
  | false =>
    cases hf : (u.toList == [102, 97, 108, 115, 101]) with
    | true => exact rg_f u ht hf w
    | false =>
      have ht' : u.data.toList ≠ [116, 114, 117, 101] := fun e => by rw [ByteArray.toList_eq, e] at ht; simp at ht
      have hf' : u.data.toList ≠ [102, 97, 108, 115, 101] := fun e => by rw [ByteArray.toList_eq, e] at hf; simp at hf
      have hll : u.data.toList.length = u.size := by rw [Array.length_toList]; rfl
      by_cases h0 : u.size = 0
      · refine rg_e u hs ht hf h0 (fun k a b s ok _ _ he => ?_) w
        exact absurd (he.symm.trans (List.eq_nil_of_length_eq_zero (by rw [hll, h0]))) (lit_ne ok)
      · have h0' : 0 < u.size := by omega
        by_cases h1 : u[0].toNat = 39
        · exact rg_str u hs ht hf h0' h1 w
        · by_cases h2 : u[0].toNat = 40
          · exact rg_node u hs ht hf h0' h2 w
          · by_cases h3 : u[0].toNat = 91
            · exact rg_edge u hs ht hf h0' h3 w
            · obtain ⟨q1, q2⟩ := tgd_num hn ht' hf' (fun c r e => by
                have := u_get u 0 h0'
                rw [e] at this
                simp at this
                rw [this]
                exact ⟨h1, h2, h3⟩)
              have hle : dgL u.data.toList ≤ u.size := by
                have h5 := tw_len (p := isD) (u.data.toList.drop (sgn u.data.toList).2)
                rw [List.length_drop, hll] at h5
                have h6 : (sgn u.data.toList).2 ≤ u.data.toList.length := by
                  unfold sgn
                  split
                  · exact Nat.zero_le _
                  · rename_i hcr; rw [hcr]; (repeat' split) <;> simp
                rw [hll] at h6
                show (sgn u.data.toList).2 + (dgs u.data.toList).length ≤ u.size
                unfold dgs
                omega
              by_cases hl : dgL u.data.toList = u.size
              · exact rg_w u hs ht hf h0' h1 h2 h3 hl (q1 (by rw [hll]; exact hl)) w
              · exact rg_c u hs ht hf h0' h1 h2 h3 (by omega) (q2 (by rw [hll]; exact hl)) w
end Go.Proofs.YthgpegldlcfolaaGreatDoor
