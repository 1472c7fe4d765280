/- The document's Print. -/
import Derived.Test.YthgpegldlcfolaaGreatDoorRt1
import Derived.Test.YthgpegldlcfolaaGreatDoorRefValid
import Derived.Test.YthgpegldlcfolaaGreatDoorOkK
namespace Go.Proofs.YthgpegldlcfolaaGreatDoor
open Go.RowKit Go.Lib Go.Shelf

theorem rnDig_len (u : Nat) : (decDigits u).length ≤ u + 1 := by
  induction u using Nat.strongRecOn with
  | _ u ih =>
    rw [decDigits]
    by_cases h : u < 10
    · rw [dif_pos h]; simp
    · rw [dif_neg h, List.length_append]
      have := ih (u / 10) (by omega)
      simp
      omega
/-- A number's letters are few: 20 at most. -/
theorem rdecD_len : ∀ (k u : Nat), u < 10 ^ (k + 1) → (decDigits u).length ≤ k + 1
  | 0, u, h => by rw [decDigits, dif_pos (by omega)]; simp
  | k + 1, u, h => by
    rw [decDigits]
    by_cases h1 : u < 10
    · rw [dif_pos h1]; simp
    · rw [dif_neg h1, List.length_append]
      have := rdecD_len k (u / 10) (by rw [Nat.pow_succ] at h; omega)
      simp
      omega
theorem ritoa_len (n : Int) (h : R64 n) : (itoa n).length ≤ 21 := by
  unfold R64 at h
  unfold itoa
  split
  · have := rdecD_len 19 n.natAbs (by omega)
    simp
    omega
  · have := rdecD_len 19 n.toNat (by omega)
    omega
theorem resc1_len (c : UInt8) : (esc1 c).length ≤ 4 := by unfold esc1; (repeat' split) <;> simp
theorem rescS_len : ∀ l : List UInt8, (escS l).length ≤ 4 * l.length
  | [] => by simp [escS]
  | c :: l => by
    have := rescS_len l
    have h1 := resc1_len c
    simp only [escS, List.flatMap_cons, List.length_append, List.length_cons] at this ⊢
    omega
set_option maxRecDepth 100000 in
set_option maxHeartbeats 4000000 in
theorem rp_null (a b : Int) (s : ByteArray) (hok : okV 0 a b s = true) (hs : s.size ≤ 4611686018427387904) (_ha : R64 a) (_hb : R64 b) (w : World) : Calls Tryz.prog 51 #[V 0 a b s] w fun e w' => e = .returned (.string (strU [110, 117, 108, 108])) ∧ G w w' := by
  have HV := hide (rv_any 0 a b s hs)
  rw [hok] at HV
  have HG1 := hide ((G.refl w).alloc (.cells #[I 0, I a, I b, .string s] 52))
  have HC1 : Hid (∀ o, (w.alloc (.cells #[I 0, I a, I b, .string s] 52)).cell? ⟨w.heap.size, o, none⟩ = ([I 0, I a, I b, .string s] : List Value)[o]?) := fun o => by simp
  have HZ1 : Hid (w.heap.size < (w.alloc (.cells #[I 0, I a, I b, .string s] 52)).heap.size) := by unfold Hid; simp
  go_enter Tryz.func51, Tryz.ntmps51
  go_wp2_with fail
  generalize w.alloc (.cells #[I 0, I a, I b, .string s] 52) = w1 at HG1 HC1 HZ1 ⊢
  refine (HV.out _).mono ?_
  rintro e' w2 ⟨rfl, hg⟩
  have HG2 := hide (HG1.out.trans hg)
  have hc := G.cells hg HC1.out HZ1.out
  have HZ2 : Hid (w.heap.size < w2.heap.size) := Nat.lt_of_lt_of_le HZ1.out hg.size
  clear hg HC1 HZ1 HG1 HV
  go_wp2
  go_ret
  exact ⟨rfl, HG2.out⟩
set_option maxRecDepth 100000 in
set_option maxHeartbeats 4000000 in
theorem rp_true (b : Int) (s : ByteArray) (hok : okV 1 1 b s = true) (hs : s.size ≤ 4611686018427387904) (_hb : R64 b) (w : World) : Calls Tryz.prog 51 #[V 1 1 b s] w fun e w' => e = .returned (.string (strU [116, 114, 117, 101])) ∧ G w w' := by
  have HV := hide (rv_any 1 1 b s hs)
  rw [hok] at HV
  have HG1 := hide ((G.refl w).alloc (.cells #[I 1, I 1, I b, .string s] 52))
  have HC1 : Hid (∀ o, (w.alloc (.cells #[I 1, I 1, I b, .string s] 52)).cell? ⟨w.heap.size, o, none⟩ = ([I 1, I 1, I b, .string s] : List Value)[o]?) := fun o => by simp
  have HZ1 : Hid (w.heap.size < (w.alloc (.cells #[I 1, I 1, I b, .string s] 52)).heap.size) := by unfold Hid; simp
  go_enter Tryz.func51, Tryz.ntmps51
  go_wp2_with fail
  generalize w.alloc (.cells #[I 1, I 1, I b, .string s] 52) = w1 at HG1 HC1 HZ1 ⊢
  refine (HV.out _).mono ?_
  rintro e' w2 ⟨rfl, hg⟩
  have HG2 := hide (HG1.out.trans hg)
  have hc := G.cells hg HC1.out HZ1.out
  have HZ2 : Hid (w.heap.size < w2.heap.size) := Nat.lt_of_lt_of_le HZ1.out hg.size
  clear hg HC1 HZ1 HG1 HV
  go_wp2
  go_ret
  exact ⟨rfl, HG2.out⟩
set_option maxRecDepth 100000 in
set_option maxHeartbeats 4000000 in
theorem rp_false (b : Int) (s : ByteArray) (hok : okV 1 0 b s = true) (hs : s.size ≤ 4611686018427387904) (_hb : R64 b) (w : World) : Calls Tryz.prog 51 #[V 1 0 b s] w fun e w' => e = .returned (.string (strU [102, 97, 108, 115, 101])) ∧ G w w' := by
  have HV := hide (rv_any 1 0 b s hs)
  rw [hok] at HV
  have HG1 := hide ((G.refl w).alloc (.cells #[I 1, I 0, I b, .string s] 52))
  have HC1 : Hid (∀ o, (w.alloc (.cells #[I 1, I 0, I b, .string s] 52)).cell? ⟨w.heap.size, o, none⟩ = ([I 1, I 0, I b, .string s] : List Value)[o]?) := fun o => by simp
  have HZ1 : Hid (w.heap.size < (w.alloc (.cells #[I 1, I 0, I b, .string s] 52)).heap.size) := by unfold Hid; simp
  go_enter Tryz.func51, Tryz.ntmps51
  go_wp2_with fail
  generalize w.alloc (.cells #[I 1, I 0, I b, .string s] 52) = w1 at HG1 HC1 HZ1 ⊢
  refine (HV.out _).mono ?_
  rintro e' w2 ⟨rfl, hg⟩
  have HG2 := hide (HG1.out.trans hg)
  have hc := G.cells hg HC1.out HZ1.out
  have HZ2 : Hid (w.heap.size < w2.heap.size) := Nat.lt_of_lt_of_le HZ1.out hg.size
  clear hg HC1 HZ1 HG1 HV
  go_wp2
  go_ret
  exact ⟨rfl, HG2.out⟩
set_option maxRecDepth 100000 in
set_option maxHeartbeats 4000000 in
theorem rp_whole (a b : Int) (s : ByteArray) (hok : okV 2 a b s = true) (hs : s.size ≤ 4611686018427387904) (ha : R64 a) (_hb : R64 b) (w : World) : Calls Tryz.prog 51 #[V 2 a b s] w fun e w' => e = .returned (.string (strU (itoa a))) ∧ G w w' := by
  have HV := hide (rv_any 2 a b s hs)
  rw [hok] at HV
  have HG1 := hide ((G.refl w).alloc (.cells #[I 2, I a, I b, .string s] 52))
  have HC1 : Hid (∀ o, (w.alloc (.cells #[I 2, I a, I b, .string s] 52)).cell? ⟨w.heap.size, o, none⟩ = ([I 2, I a, I b, .string s] : List Value)[o]?) := fun o => by simp
  have HZ1 : Hid (w.heap.size < (w.alloc (.cells #[I 2, I a, I b, .string s] 52)).heap.size) := by unfold Hid; simp
  go_enter Tryz.func51, Tryz.ntmps51
  go_wp2_with fail
  generalize w.alloc (.cells #[I 2, I a, I b, .string s] 52) = w1 at HG1 HC1 HZ1 ⊢
  refine (HV.out _).mono ?_
  rintro e' w2 ⟨rfl, hg⟩
  have HG2 := hide (HG1.out.trans hg)
  have hc := G.cells hg HC1.out HZ1.out
  have HZ2 : Hid (w.heap.size < w2.heap.size) := Nat.lt_of_lt_of_le HZ1.out hg.size
  clear hg HC1 HZ1 HG1 HV
  go_wp2_with fail
  refine (rdec_any a ha _).mono ?_
  rintro e' w3 ⟨rfl, hg⟩
  have HG3 := hide (HG2.out.trans hg)
  clear hg hc
  go_wp2
  go_ret
  exact ⟨rfl, HG3.out⟩
set_option maxRecDepth 100000 in
set_option maxHeartbeats 4000000 in
theorem rp_node (a b : Int) (s : ByteArray) (hok : okV 5 a b s = true) (hs : s.size ≤ 4611686018427387904) (ha : R64 a) (_hb : R64 b) (w : World) : Calls Tryz.prog 51 #[V 5 a b s] w fun e w' => e = .returned (.string (strU (40 :: itoa a ++ [41]))) ∧ G w w' := by
  have HV := hide (rv_any 5 a b s hs)
  rw [hok] at HV
  have HG1 := hide ((G.refl w).alloc (.cells #[I 5, I a, I b, .string s] 52))
  have HC1 : Hid (∀ o, (w.alloc (.cells #[I 5, I a, I b, .string s] 52)).cell? ⟨w.heap.size, o, none⟩ = ([I 5, I a, I b, .string s] : List Value)[o]?) := fun o => by simp
  have HZ1 : Hid (w.heap.size < (w.alloc (.cells #[I 5, I a, I b, .string s] 52)).heap.size) := by unfold Hid; simp
  have hadd1 : ∀ W, (Op.stringOp .add { data := #[40] } (strU (itoa a))).run Tryz.prog W = .ok (.string (strU (40 :: itoa a))) W := add_U [40] (itoa a) (by have := ritoa_len a ha; simp; omega)
  have hadd2 : ∀ W, (Op.stringOp .add (strU (40 :: itoa a)) { data := #[41] }).run Tryz.prog W = .ok (.string (strU (40 :: itoa a ++ [41]))) W := add_U (40 :: itoa a) [41] (by have := ritoa_len a ha; simp; omega)
  have HD := hide (rdec_any a ha)
  generalize 40 :: itoa a ++ [41] = l3 at hadd2 ⊢
  generalize 40 :: itoa a = l2 at hadd1 hadd2
  generalize itoa a = l1 at hadd1 HD
  go_enter Tryz.func51, Tryz.ntmps51
  go_wp2_with fail
  generalize w.alloc (.cells #[I 5, I a, I b, .string s] 52) = w1 at HG1 HC1 HZ1 ⊢
  refine (HV.out _).mono ?_
  rintro e' w2 ⟨rfl, hg⟩
  have HG2 := hide (HG1.out.trans hg)
  have hc := G.cells hg HC1.out HZ1.out
  have HZ2 : Hid (w.heap.size < w2.heap.size) := Nat.lt_of_lt_of_le HZ1.out hg.size
  clear hg HC1 HZ1 HG1 HV
  go_wp2_with fail
  refine (HD.out _).mono ?_
  rintro e' w3 ⟨rfl, hg⟩
  have HG3 := hide (HG2.out.trans hg)
  clear hg hc
  go_wp2
  go_ret
  exact ⟨rfl, HG3.out⟩
set_option maxRecDepth 100000 in
set_option maxHeartbeats 4000000 in
theorem rp_edge (a b : Int) (s : ByteArray) (hok : okV 6 a b s = true) (hs : s.size ≤ 4611686018427387904) (ha : R64 a) (_hb : R64 b) (w : World) : Calls Tryz.prog 51 #[V 6 a b s] w fun e w' => e = .returned (.string (strU (91 :: itoa a ++ [93]))) ∧ G w w' := by
  have HV := hide (rv_any 6 a b s hs)
  rw [hok] at HV
  have HG1 := hide ((G.refl w).alloc (.cells #[I 6, I a, I b, .string s] 52))
  have HC1 : Hid (∀ o, (w.alloc (.cells #[I 6, I a, I b, .string s] 52)).cell? ⟨w.heap.size, o, none⟩ = ([I 6, I a, I b, .string s] : List Value)[o]?) := fun o => by simp
  have HZ1 : Hid (w.heap.size < (w.alloc (.cells #[I 6, I a, I b, .string s] 52)).heap.size) := by unfold Hid; simp
  have hadd1 : ∀ W, (Op.stringOp .add { data := #[91] } (strU (itoa a))).run Tryz.prog W = .ok (.string (strU (91 :: itoa a))) W := add_U [91] (itoa a) (by have := ritoa_len a ha; simp; omega)
  have hadd2 : ∀ W, (Op.stringOp .add (strU (91 :: itoa a)) { data := #[93] }).run Tryz.prog W = .ok (.string (strU (91 :: itoa a ++ [93]))) W := add_U (91 :: itoa a) [93] (by have := ritoa_len a ha; simp; omega)
  have HD := hide (rdec_any a ha)
  generalize 91 :: itoa a ++ [93] = l3 at hadd2 ⊢
  generalize 91 :: itoa a = l2 at hadd1 hadd2
  generalize itoa a = l1 at hadd1 HD
  go_enter Tryz.func51, Tryz.ntmps51
  go_wp2_with fail
  generalize w.alloc (.cells #[I 6, I a, I b, .string s] 52) = w1 at HG1 HC1 HZ1 ⊢
  refine (HV.out _).mono ?_
  rintro e' w2 ⟨rfl, hg⟩
  have HG2 := hide (HG1.out.trans hg)
  have hc := G.cells hg HC1.out HZ1.out
  have HZ2 : Hid (w.heap.size < w2.heap.size) := Nat.lt_of_lt_of_le HZ1.out hg.size
  clear hg HC1 HZ1 HG1 HV
  go_wp2_with fail
  refine (HD.out _).mono ?_
  rintro e' w3 ⟨rfl, hg⟩
  have HG3 := hide (HG2.out.trans hg)
  clear hg hc
  go_wp2
  go_ret
  exact ⟨rfl, HG3.out⟩
set_option maxRecDepth 100000 in
set_option maxHeartbeats 4000000 in
theorem rp_neg (a b : Int) (s : ByteArray) (hok : okV 3 a b s = true) (hs : s.size ≤ 4611686018427387904) (ha : R64 a) (hb : R64 b) (h0 : b < 0) (w : World) : Calls Tryz.prog 51 #[V 3 a b s] w fun e w' => e = .returned (.string (strU (itoa a ++ itoa b ++ [105]))) ∧ G w w' := by
  have HV := hide (rv_any 3 a b s hs)
  rw [hok] at HV
  have HG1 := hide ((G.refl w).alloc (.cells #[I 3, I a, I b, .string s] 52))
  have HC1 : Hid (∀ o, (w.alloc (.cells #[I 3, I a, I b, .string s] 52)).cell? ⟨w.heap.size, o, none⟩ = ([I 3, I a, I b, .string s] : List Value)[o]?) := fun o => by simp
  have HZ1 : Hid (w.heap.size < (w.alloc (.cells #[I 3, I a, I b, .string s] 52)).heap.size) := by unfold Hid; simp
  have la := ritoa_len a ha
  have lb := ritoa_len b hb
  have HDA := hide (rdec_any a ha)
  have HDB := hide (rdec_any b hb)
  have hadd1 : ∀ W, (Op.stringOp .add (strU (itoa a)) (strU (itoa b))).run Tryz.prog W = .ok (.string (strU (itoa a ++ itoa b))) W := add_U _ _ (by omega)
  have hadd2 : ∀ W, (Op.stringOp .add (strU (itoa a ++ itoa b)) { data := #[105] }).run Tryz.prog W = .ok (.string (strU (itoa a ++ itoa b ++ [105]))) W := add_U (itoa a ++ itoa b) [105] (by simp; omega)
  generalize itoa a ++ itoa b ++ [105] = l3 at hadd2 ⊢
  generalize itoa a ++ itoa b = l2 at hadd1 hadd2
  generalize itoa a = la' at *
  generalize itoa b = lb' at *
  clear la lb
  go_enter Tryz.func51, Tryz.ntmps51
  go_wp2_with fail
  generalize w.alloc (.cells #[I 3, I a, I b, .string s] 52) = w1 at HG1 HC1 HZ1 ⊢
  refine (HV.out _).mono ?_
  rintro e' w2 ⟨rfl, hg⟩
  have HG2 := hide (HG1.out.trans hg)
  have hc := G.cells hg HC1.out HZ1.out
  have HZ2 : Hid (w.heap.size < w2.heap.size) := Nat.lt_of_lt_of_le HZ1.out hg.size
  clear hg HC1 HZ1 HG1 HV
  have HCC := hide hc
  go_wp2_with fail
  clear hc
  refine wp_region_noPanic ?_
  refine wp_region_held_drew (S := (fun W => ∀ o, W.cell? ⟨w.heap.size, o, none⟩ = ([I 3, I a, I b, .string s] : List Value)[o]?)) (by kernel_rfl) (HCC.out) (fun hHeld => ?_)
  refine wpAnyH_take (i := 0) (v := ?_) rfl (by kernel_rfl) (by kernel_rfl) (by kernel_rfl) (fun _ _ _ h => h) (Or.inl ⟨by rfl, ?_⟩) hHeld ?_
  rotate_left 1
  · (intro w hSw; (try dsimp only at hSw); go_simp; try with_reducible rfl)
  try simp only [Act.put, List.getElem_toArray, List.getElem_cons_zero, List.setIfInBounds_toArray, List.set_cons_zero, List.set_cons_succ]
  refine wpAnyH_take (i := 1) (v := ?_) rfl (by kernel_rfl) (by kernel_rfl) (by kernel_rfl) (fun _ _ _ h => h) (Or.inl ⟨by rfl, ?_⟩) hHeld ?_
  rotate_left 1
  · (intro w hSw; have q3 := hSw; go_simp; try with_reducible rfl)
  try simp only [Act.put, List.getElem_toArray, List.getElem_cons_zero, List.getElem_cons_succ, List.setIfInBounds_toArray, List.set_cons_zero, List.set_cons_succ]
  refine wpAnyH_take (i := 3) (v := ?_) rfl (by kernel_rfl) (by kernel_rfl) (by kernel_rfl) (fun _ _ _ h => h) (Or.inl ⟨by rfl, ?_⟩) hHeld ?_
  rotate_left 1
  · (intro w hSw; (try dsimp only at hSw); go_simp; try with_reducible rfl)
  try simp only [Act.put, List.getElem_toArray, List.getElem_cons_zero, List.getElem_cons_succ, List.setIfInBounds_toArray, List.set_cons_zero, List.set_cons_succ]
  refine wpAnyH_take (i := 4) (v := ?_) rfl (by kernel_rfl) (by kernel_rfl) (by kernel_rfl) (fun _ _ _ h => h) (Or.inl ⟨by rfl, ?_⟩) hHeld ?_
  rotate_left 1
  · (intro w hSw; have q3 := hSw; go_simp; try with_reducible rfl)
  try simp only [Act.put, List.getElem_toArray, List.getElem_cons_zero, List.getElem_cons_succ, List.setIfInBounds_toArray, List.set_cons_zero, List.set_cons_succ]
  refine wpAnyH_ready (rs := [2]) (by kernel_rfl) (by simp) (AllReadyH.cons rfl (fun K hK => ?_) AllReadyH.nil)
  clear hHeld
  go_simp
  with_reducible refine (HDA.out _).mono ?_
  rintro e' w3 ⟨rfl, hb'⟩
  have HG3 := hide (G.trans (G.drew (G.refl _)) hb')
  clear hb'
  go_wp2_with fail
  refine hK.out _ _ (G.cells HG3.out HCC.out HZ2.out) (fun hHeld => ?_)
  clear hK K
  try simp only [Act.put, List.getElem_toArray, List.getElem_cons_zero, List.getElem_cons_succ, List.setIfInBounds_toArray, List.set_cons_zero, List.set_cons_succ]
  refine wpAnyH_ready (rs := [5]) (by kernel_rfl) (by simp) (AllReadyH.cons rfl (fun K hK => ?_) AllReadyH.nil)
  clear hHeld
  go_simp
  with_reducible refine (HDB.out _).mono ?_
  rintro e' w4 ⟨rfl, hb'⟩
  have HG4 := hide (HG3.out.trans hb')
  clear hb'
  go_wp2_with fail
  refine hK.out _ _ (G.cells HG4.out HCC.out HZ2.out) (fun hHeld => ?_)
  clear hK K
  try simp only [Act.put, List.getElem_toArray, List.getElem_cons_zero, List.getElem_cons_succ, List.setIfInBounds_toArray, List.set_cons_zero, List.set_cons_succ]
  refine wpAnyH_take (i := 6) (v := ?_) rfl (by kernel_rfl) (by kernel_rfl) (by kernel_rfl) (fun _ _ _ h => h) (Or.inl ⟨by rfl, ?_⟩) hHeld ?_
  rotate_left 1
  · (intro w hSw; (try dsimp only at hSw); go_simp; try with_reducible rfl)
  try simp only [Act.put, List.getElem_toArray, List.getElem_cons_zero, List.getElem_cons_succ, List.setIfInBounds_toArray, List.set_cons_zero, List.set_cons_succ]
  refine wpAnyH_take (i := 7) (v := ?_) rfl (by kernel_rfl) (by kernel_rfl) (by kernel_rfl) (fun _ _ _ h => h) (Or.inl ⟨by rfl, ?_⟩) hHeld ?_
  rotate_left 1
  · (intro w hSw; (try dsimp only at hSw); go_simp; try with_reducible rfl)
  try simp only [Act.put, List.getElem_toArray, List.getElem_cons_zero, List.getElem_cons_succ, List.setIfInBounds_toArray, List.set_cons_zero, List.set_cons_succ]
  refine wpAnyH_take (i := 8) (v := ?_) rfl (by kernel_rfl) (by kernel_rfl) (by kernel_rfl) (fun _ _ _ h => h) (Or.inl ⟨by rfl, ?_⟩) hHeld ?_
  rotate_left 1
  · (intro w hSw; (try dsimp only at hSw); go_simp; try with_reducible rfl)
  try simp only [Act.put, List.getElem_toArray, List.getElem_cons_zero, List.getElem_cons_succ, List.setIfInBounds_toArray, List.set_cons_zero, List.set_cons_succ]
  refine wpAnyH_done (by kernel_rfl) ?_ _
  refine NoPanic.normal ?_
  go_wp2
  go_ret
  exact ⟨rfl, HG2.out.trans HG4.out⟩
set_option maxRecDepth 100000 in
set_option maxHeartbeats 4000000 in
theorem rp_pos (a b : Int) (s : ByteArray) (hok : okV 3 a b s = true) (hs : s.size ≤ 4611686018427387904) (ha : R64 a) (hb : R64 b) (h0 : ¬ b < 0) (w : World) : Calls Tryz.prog 51 #[V 3 a b s] w fun e w' => e = .returned (.string (strU (itoa a ++ 43 :: itoa b ++ [105]))) ∧ G w w' := by
  have HV := hide (rv_any 3 a b s hs)
  rw [hok] at HV
  have HG1 := hide ((G.refl w).alloc (.cells #[I 3, I a, I b, .string s] 52))
  have HC1 : Hid (∀ o, (w.alloc (.cells #[I 3, I a, I b, .string s] 52)).cell? ⟨w.heap.size, o, none⟩ = ([I 3, I a, I b, .string s] : List Value)[o]?) := fun o => by simp
  have HZ1 : Hid (w.heap.size < (w.alloc (.cells #[I 3, I a, I b, .string s] 52)).heap.size) := by unfold Hid; simp
  have la := ritoa_len a ha
  have lb := ritoa_len b hb
  have HDA := hide (rdec_any a ha)
  have HDB := hide (rdec_any b hb)
  have hadd0 : ∀ W, (Op.stringOp .add (strU (itoa a)) { data := #[43] }).run Tryz.prog W = .ok (.string (strU (itoa a ++ [43]))) W := add_U (itoa a) [43] (by simp; omega)
  have hadd1 : ∀ W, (Op.stringOp .add (strU (itoa a ++ [43])) (strU (itoa b))).run Tryz.prog W = .ok (.string (strU (itoa a ++ [43] ++ itoa b))) W := add_U _ _ (by simp; omega)
  have hadd2 : ∀ W, (Op.stringOp .add (strU (itoa a ++ [43] ++ itoa b)) { data := #[105] }).run Tryz.prog W = .ok (.string (strU (itoa a ++ 43 :: itoa b ++ [105]))) W := fun W => by
    have := add_U (itoa a ++ [43] ++ itoa b) [105] (by simp; omega) W
    rw [show itoa a ++ 43 :: itoa b ++ [105] = itoa a ++ [43] ++ itoa b ++ [105] by simp]
    exact this
  generalize itoa a ++ 43 :: itoa b ++ [105] = l3 at hadd2 ⊢
  generalize itoa a ++ [43] ++ itoa b = l2 at hadd1 hadd2
  generalize itoa a ++ [43] = l0 at hadd0 hadd1
  generalize itoa a = la' at *
  generalize itoa b = lb' at *
  clear la lb
  go_enter Tryz.func51, Tryz.ntmps51
  go_wp2_with fail
  generalize w.alloc (.cells #[I 3, I a, I b, .string s] 52) = w1 at HG1 HC1 HZ1 ⊢
  refine (HV.out _).mono ?_
  rintro e' w2 ⟨rfl, hg⟩
  have HG2 := hide (HG1.out.trans hg)
  have hc := G.cells hg HC1.out HZ1.out
  have HZ2 : Hid (w.heap.size < w2.heap.size) := Nat.lt_of_lt_of_le HZ1.out hg.size
  clear hg HC1 HZ1 HG1 HV
  have HCC := hide hc
  go_wp2_with fail
  clear hc
  refine wp_region_noPanic ?_
  refine wp_region_held_drew (S := (fun W => ∀ o, W.cell? ⟨w.heap.size, o, none⟩ = ([I 3, I a, I b, .string s] : List Value)[o]?)) (by kernel_rfl) (HCC.out) (fun hHeld => ?_)
  refine wpAnyH_take (i := 0) (v := ?_) rfl (by kernel_rfl) (by kernel_rfl) (by kernel_rfl) (fun _ _ _ h => h) (Or.inl ⟨by rfl, ?_⟩) hHeld ?_
  rotate_left 1
  · (intro w hSw; (try dsimp only at hSw); go_simp; try with_reducible rfl)
  try simp only [Act.put, List.getElem_toArray, List.getElem_cons_zero, List.setIfInBounds_toArray, List.set_cons_zero, List.set_cons_succ]
  refine wpAnyH_take (i := 1) (v := ?_) rfl (by kernel_rfl) (by kernel_rfl) (by kernel_rfl) (fun _ _ _ h => h) (Or.inl ⟨by rfl, ?_⟩) hHeld ?_
  rotate_left 1
  · (intro w hSw; have q3 := hSw; go_simp; try with_reducible rfl)
  try simp only [Act.put, List.getElem_toArray, List.getElem_cons_zero, List.getElem_cons_succ, List.setIfInBounds_toArray, List.set_cons_zero, List.set_cons_succ]
  refine wpAnyH_take (i := 4) (v := ?_) rfl (by kernel_rfl) (by kernel_rfl) (by kernel_rfl) (fun _ _ _ h => h) (Or.inl ⟨by rfl, ?_⟩) hHeld ?_
  rotate_left 1
  · (intro w hSw; (try dsimp only at hSw); go_simp; try with_reducible rfl)
  try simp only [Act.put, List.getElem_toArray, List.getElem_cons_zero, List.getElem_cons_succ, List.setIfInBounds_toArray, List.set_cons_zero, List.set_cons_succ]
  refine wpAnyH_take (i := 5) (v := ?_) rfl (by kernel_rfl) (by kernel_rfl) (by kernel_rfl) (fun _ _ _ h => h) (Or.inl ⟨by rfl, ?_⟩) hHeld ?_
  rotate_left 1
  · (intro w hSw; have q3 := hSw; go_simp; try with_reducible rfl)
  try simp only [Act.put, List.getElem_toArray, List.getElem_cons_zero, List.getElem_cons_succ, List.setIfInBounds_toArray, List.set_cons_zero, List.set_cons_succ]
  refine wpAnyH_ready (rs := [2]) (by kernel_rfl) (by simp) (AllReadyH.cons rfl (fun K hK => ?_) AllReadyH.nil)
  clear hHeld
  go_simp
  with_reducible refine (HDA.out _).mono ?_
  rintro e' w3 ⟨rfl, hb'⟩
  have HG3 := hide (G.trans (G.drew (G.refl _)) hb')
  clear hb'
  go_wp2_with fail
  refine hK.out _ _ (G.cells HG3.out HCC.out HZ2.out) (fun hHeld => ?_)
  clear hK K
  try simp only [Act.put, List.getElem_toArray, List.getElem_cons_zero, List.getElem_cons_succ, List.setIfInBounds_toArray, List.set_cons_zero, List.set_cons_succ]
  refine wpAnyH_take (i := 3) (v := ?_) rfl (by kernel_rfl) (by kernel_rfl) (by kernel_rfl) (fun _ _ _ h => h) (Or.inl ⟨by rfl, ?_⟩) hHeld ?_
  rotate_left 1
  · (intro w hSw; (try dsimp only at hSw); go_simp; try with_reducible rfl)
  try simp only [Act.put, List.getElem_toArray, List.getElem_cons_zero, List.getElem_cons_succ, List.setIfInBounds_toArray, List.set_cons_zero, List.set_cons_succ]
  refine wpAnyH_ready (rs := [6]) (by kernel_rfl) (by simp) (AllReadyH.cons rfl (fun K hK => ?_) AllReadyH.nil)
  clear hHeld
  go_simp
  with_reducible refine (HDB.out _).mono ?_
  rintro e' w4 ⟨rfl, hb'⟩
  have HG4 := hide (HG3.out.trans hb')
  clear hb'
  go_wp2_with fail
  refine hK.out _ _ (G.cells HG4.out HCC.out HZ2.out) (fun hHeld => ?_)
  clear hK K
  try simp only [Act.put, List.getElem_toArray, List.getElem_cons_zero, List.getElem_cons_succ, List.setIfInBounds_toArray, List.set_cons_zero, List.set_cons_succ]
  refine wpAnyH_take (i := 7) (v := ?_) rfl (by kernel_rfl) (by kernel_rfl) (by kernel_rfl) (fun _ _ _ h => h) (Or.inl ⟨by rfl, ?_⟩) hHeld ?_
  rotate_left 1
  · (intro w hSw; (try dsimp only at hSw); go_simp; try with_reducible rfl)
  try simp only [Act.put, List.getElem_toArray, List.getElem_cons_zero, List.getElem_cons_succ, List.setIfInBounds_toArray, List.set_cons_zero, List.set_cons_succ]
  refine wpAnyH_take (i := 8) (v := ?_) rfl (by kernel_rfl) (by kernel_rfl) (by kernel_rfl) (fun _ _ _ h => h) (Or.inl ⟨by rfl, ?_⟩) hHeld ?_
  rotate_left 1
  · (intro w hSw; (try dsimp only at hSw); go_simp; try with_reducible rfl)
  try simp only [Act.put, List.getElem_toArray, List.getElem_cons_zero, List.getElem_cons_succ, List.setIfInBounds_toArray, List.set_cons_zero, List.set_cons_succ]
  refine wpAnyH_take (i := 9) (v := ?_) rfl (by kernel_rfl) (by kernel_rfl) (by kernel_rfl) (fun _ _ _ h => h) (Or.inl ⟨by rfl, ?_⟩) hHeld ?_
  rotate_left 1
  · (intro w hSw; (try dsimp only at hSw); go_simp; try with_reducible rfl)
  try simp only [Act.put, List.getElem_toArray, List.getElem_cons_zero, List.getElem_cons_succ, List.setIfInBounds_toArray, List.set_cons_zero, List.set_cons_succ]
  refine wpAnyH_done (by kernel_rfl) ?_ _
  refine NoPanic.normal ?_
  go_wp2
  go_ret
  exact ⟨rfl, HG2.out.trans HG4.out⟩
set_option maxRecDepth 100000 in
set_option maxHeartbeats 4000000 in
theorem rp_str (a b : Int) (s : ByteArray) (hok : okV 4 a b s = true) (hs : s.size ≤ 4611686018427387904) (_ha : R64 a) (_hb : R64 b) (h32 : s.size ≤ 32) (w : World) : Calls Tryz.prog 51 #[V 4 a b s] w fun e w' => e = .returned (.string (strU (39 :: escS s.data.toList ++ [39]))) ∧ G w w' := by
  have HV := hide (rv_any 4 a b s hs)
  rw [hok] at HV
  have HG1 := hide ((G.refl w).alloc (.cells #[I 4, I a, I b, .string s] 52))
  have HC1 : Hid (∀ o, (w.alloc (.cells #[I 4, I a, I b, .string s] 52)).cell? ⟨w.heap.size, o, none⟩ = ([I 4, I a, I b, .string s] : List Value)[o]?) := fun o => by simp
  have HZ1 : Hid (w.heap.size < (w.alloc (.cells #[I 4, I a, I b, .string s] 52)).heap.size) := by unfold Hid; simp
  go_enter Tryz.func51, Tryz.ntmps51
  go_wp2_with fail
  generalize w.alloc (.cells #[I 4, I a, I b, .string s] 52) = w1 at HG1 HC1 HZ1 ⊢
  refine (HV.out _).mono ?_
  rintro e' w2 ⟨rfl, hg⟩
  have HG2 := hide (HG1.out.trans hg)
  have hc := G.cells hg HC1.out HZ1.out
  have HZ2 : Hid (w.heap.size < w2.heap.size) := Nat.lt_of_lt_of_le HZ1.out hg.size
  clear hg HC1 HZ1 HG1 HV
  have HCC := hide hc
  have hsl : s.data.toList.length = s.size := by rw [Array.length_toList]; rfl
  have HEL := hide (rescS_len s.data.toList)
  go_wp2_with fail
  clear hc
  go_loopw [3, 4] (fun x i W => ∃ k : Nat, k ≤ s.size ∧ i = .int .i64 k ∧ x = .string (strU (39 :: escS (s.data.toList.take k))) ∧ G w2 W) (fun _ i _ => s.size - (RowKit.intOf i).toNat)
  case atStart => exact ⟨0, by omega, rfl, rfl, G.refl _⟩
  case round =>
    obtain ⟨k, hk, rfl, rfl, hg⟩ := hrel
    have HG := hide hg
    have hc := G.cells hg HCC.out HZ2.out
    clear hg
    by_cases hlt : k < s.size
    · have hkI : (k : Int) < (s.size : Int) := by omega
      have hget : s.data.toList[k]? = some s[k] := by simp [ByteArray.getElem_eq_getElem_data, hlt]
      have htk : s.data.toList.take (k + 1) = s.data.toList.take k ++ [s[k]] := by
        obtain ⟨h1, h2⟩ := List.getElem?_eq_some_iff.1 hget
        rw [List.take_succ_eq_append_getElem h1, h2]
      have hes : escS (s.data.toList.take (k + 1)) = escS (s.data.toList.take k) ++ esc1 s[k] := by rw [htk]; simp [escS]
      have HLE := hide (rlet_any s[k].toNat s[k].toNat_lt)
      rw [UInt8.ofNat_toNat] at HLE
      have hadd := add_U (39 :: escS (s.data.toList.take k)) (esc1 s[k]) (by have h1 := resc1_len s[k]; have h2 := rescS_len (s.data.toList.take k); simp at h2 ⊢; omega)
      rw [List.cons_append, ← hes] at hadd
      clear htk hes hget
      generalize hl2 : escS (s.data.toList.take (k + 1)) = l2 at hadd
      have HL2 := hide hl2
      clear hl2
      go_wp2_with fail
      refine (HLE.out _).mono ?_
      rintro e' w3 ⟨rfl, hg3⟩
      have HG3 := hide (HG.out.trans hg3)
      clear hg3 hc HLE
      go_wp2
      go_roundw
      case rel => exact ⟨k + 1, by omega, by go_num, by rw [HL2.out], HG3.out⟩
      case measure => simp [RowKit.intOf]; omega
    · obtain rfl : k = s.size := by omega
      have hta : s.data.toList.take s.size = s.data.toList := by rw [← hsl, List.take_length]
      rw [hta]
      have hadd : ∀ W, (Op.stringOp .add (strU (39 :: escS s.data.toList)) { data := #[39] }).run Tryz.prog W = .ok (.string (strU (39 :: escS s.data.toList ++ [39]))) W := add_U (39 :: escS s.data.toList) [39] (by have := HEL.out; simp at this ⊢; omega)
      go_wp2
      go_ret
      exact ⟨rfl, HG2.out.trans HG.out⟩
theorem rprint_yes (k a b : Int) (s : ByteArray) (h : okV k a b s = true) (hs : s.size ≤ 4611686018427387904) (ha : R64 a) (hb : R64 b) (w : World) : Calls Tryz.prog 51 #[V k a b s] w fun e w' => e = .returned (.string (strU (litV k a b s))) ∧ G w w' := by
  have hk := okV_kind k a b s h
  have : k = 0 ∨ k = 1 ∨ k = 2 ∨ k = 3 ∨ k = 4 ∨ k = 5 ∨ k = 6 := by omega
  rcases this with rfl | rfl | rfl | rfl | rfl | rfl | rfl
  · exact rp_null a b s h hs ha hb w
  · obtain ⟨hx, _, _⟩ := ok_1 h
    rcases hx with rfl | rfl
    · exact rp_false b s h hs hb w
    · exact rp_true b s h hs hb w
  · exact rp_whole a b s h hs ha hb w
  · by_cases h0 : b < 0
    · have := rp_neg a b s h hs ha hb h0 w
      simpa [litV, h0] using this
    · have := rp_pos a b s h hs ha hb h0 w
      simpa [litV, h0] using this
  · exact rp_str a b s h hs ha hb (ok_4 h).2.2.1 w
  · exact rp_node a b s h hs ha hb w
  · exact rp_edge a b s h hs ha hb w
set_option maxRecDepth 100000 in
set_option maxHeartbeats 4000000 in
theorem rprint_no (k a b : Int) (s : ByteArray) (h : okV k a b s = false) (hs : s.size ≤ 4611686018427387904) (w : World) : Calls Tryz.prog 51 #[V k a b s] w fun e w' => e = .returned (.string (strU [])) ∧ G w w' := by
  have HV := hide (rv_any k a b s hs)
  rw [h] at HV
  have HG1 := hide ((G.refl w).alloc (.cells #[I k, I a, I b, .string s] 52))
  go_enter Tryz.func51, Tryz.ntmps51
  go_wp2_with fail
  generalize w.alloc (.cells #[I k, I a, I b, .string s] 52) = w1 at HG1 ⊢
  refine (HV.out _).mono ?_
  rintro e' w2 ⟨rfl, hg⟩
  have HG2 := hide (HG1.out.trans hg)
  clear hg HG1 HV
  go_wp2
  go_ret
  exact ⟨rfl, HG2.out⟩
end Go.Proofs.YthgpegldlcfolaaGreatDoor
