/- value.guessOfComplex. -/
import Derived.Test.YthpflfkgbapbnaaGreatDoorBk8
import Derived.Test.YthpflfkgbapbnaaGreatDoorShB6
import Derived.Shelf.Strings.LastIndex
namespace Go.Proofs.YthpflfkgbapbnaaGreatDoor
open Go.RowKit Go.Lib Go.Shelf

theorem ext_take (s : ByteArray) (n : Nat) : (s.extract 0 n).data.toList = s.data.toList.take n := by
  rw [ByteArray.data_extract, Array.toList_extract, List.extract_eq_take_drop]; simp
theorem lastI_bd (u : ByteArray) (c : Int) : -1 ≤ lastIndexByte u c ∧ lastIndexByte u c < u.size ∨ (lastIndexByte u c = -1) := by
  unfold lastIndexByte
  rcases lastIdx_spec u c u.size with ⟨h, _⟩ | ⟨i, hi, he, _⟩
  · exact .inr h
  · left; rw [he]; omega
/-- The result's cell, as it is under way. -/
structure KB (w W : World) : Prop where
  c : ∀ o, W.cell? { block := w.heap.size, off := o } = [I 0, I 0, I 0, .string E0][o]?
  f : ∀ o, W.frozen? { block := w.heap.size, off := o } = false
  g : G w W
  z : w.heap.size < W.heap.size
theorem KB.G {w W W' : World} (h : KB w W) (g : G W W') : KB w W' := ⟨G.cells g h.c h.z, G.frozens g h.f h.z, h.g.trans g, Nat.lt_of_lt_of_le h.z g.size⟩
set_option maxRecDepth 100000 in
set_option maxHeartbeats 4000000 in
theorem gc_any (u : ByteArray) (hs : u.size ≤ 140737488351232) : ∃ n : Nat, (∀ a b : Int, u.data.toList = itoa a ++ (if b < 0 then itoa b else 43 :: itoa b) → n = (itoa a).length) ∧
    ∀ w, Env w → Calls Tryz.prog 133 #[.string u] w fun e w' => e = .returned (V 3 (whO (u.data.toList.take n)) (whO (u.data.toList.drop n)) E0) ∧ G w w' := by
  have b1 := lastI_bd u 43
  have b2 := lastI_bd u 45
  refine ⟨(max (max (lastIndexByte u 43) (lastIndexByte u 45)) 0).toNat, fun a b h => by have := sign_at u a b h; omega, fun w hE => ?_⟩
  have HL1 : Hid (∀ w, Calls Tryz.prog 149 #[.string u, .int .u8 43] w fun e w' => e = .returned (.int .i64 (lastIndexByte u 43)) ∧ w' = w) := fun w => Any.strings_LastIndexByte Tryz.laysLastIndexByte u 43 (by omega) w
  have HL2 : Hid (∀ w, Calls Tryz.prog 149 #[.string u, .int .u8 45] w fun e w' => e = .returned (.int .i64 (lastIndexByte u 45)) ∧ w' = w) := fun w => Any.strings_LastIndexByte Tryz.laysLastIndexByte u 45 (by omega) w
  generalize lastIndexByte u 43 = i at b1 HL1
  generalize lastIndexByte u 45 = j at b2 HL2
  obtain ⟨n, hn⟩ : ∃ n : Nat, max (max i j) 0 = n := ⟨(max (max i j) 0).toNat, by omega⟩
  rw [hn, Int.toNat_natCast]
  have hnu : n ≤ u.size := by omega
  have hnI : (n : Int) ≤ (u.size : Int) := by omega
  have HE : Hid _ := hE
  have HW1 : Hid (∀ W, G w W → Calls Tryz.prog 131 #[.string (u.extract 0 n)] W fun e w' => e = .returned (.int .i64 (whO (u.data.toList.take n))) ∧ G W w') := fun W g => by
    have := wh_any (u.extract 0 n) (by rw [ByteArray.size_extract]; omega) W (HE.out.G g)
    rwa [ext_take] at this
  have HW2 : Hid (∀ W, G w W → Calls Tryz.prog 131 #[.string (u.extract n u.size)] W fun e w' => e = .returned (.int .i64 (whO (u.data.toList.drop n))) ∧ G W w') := fun W g => by
    have := wh_any (u.extract n u.size) (by rw [ByteArray.size_extract]; omega) W (HE.out.G g)
    rwa [ext_drop] at this
  generalize whO (u.data.toList.take n) = x at HW1
  generalize whO (u.data.toList.drop n) = y at HW2
  clear hE
  by_cases a1 : j ≤ i
  · by_cases a2 : i ≤ 0
    · obtain rfl : n = 0 := by omega
      have hz0 : (0 : Int) ≤ (u.size : Int) := by omega
      clear hn
      have HX1 := HW1.out
      rw [show u.extract 0 0 = ByteArray.empty from by simp] at HX1
      have HX2 := HW2.out
      rw [show u.extract 0 u.size = u from by simp] at HX2
      clear HW1 HW2
      have HW1 : Hid _ := HX1
      have HW2 : Hid _ := HX2
      clear HX1 HX2
      have hij : (i = -1 ∧ j = -1) ∨ (i = 0 ∧ j = -1) ∨ (i = 0 ∧ j = 0) := by omega
      rcases hij with ⟨rfl, rfl⟩ | ⟨rfl, rfl⟩ | ⟨rfl, rfl⟩
      · have HK0 : Hid (KB w (w.alloc (.cells #[I 0, I 0, I 0, .string E0] 23))) := ⟨fun o => by simp, fun o => by simp, (G.refl w).alloc _, by simp⟩
        go_enter Tryz.func133, Tryz.ntmps133
        go_wp2_with fail
        refine (HL1.out _).mono ?_
        rintro e w1 ⟨rfl, hw⟩
        rw [hw]
        clear hw w1
        go_wp2_with fail
        refine (HL2.out _).mono ?_
        rintro e w1 ⟨rfl, hw⟩
        rw [hw]
        clear hw w1
        go_wp2_with fail
        generalize w.alloc (.cells #[I 0, I 0, I 0, .string E0] 23) = wa at HK0 ⊢
        have hkd : KB w wa.drew := KB.G HK0.out (G.drew (G.refl _))
        have HKD : Hid _ := hkd
        clear hkd HK0
        go_region_held3 (fun _ => True) (trivial) (first | (go_at_call 131; with_reducible refine (HW1.out _ ?_).mono ?_; (exact (by first | exact hkB.g | exact HKD.out.g)); rintro e w3 ⟨rfl, hb⟩; have hkA : KB w w3 := KB.G (by first | exact hkB | exact HKD.out) hb; have hcA := hkA.c; have hfA := hkA.f; clear hb) | (go_at_call 131; with_reducible refine (HW2.out _ ?_).mono ?_; (exact (by first | exact hkA.g | exact HKD.out.g)); rintro e w4 ⟨rfl, hb⟩; have hkB : KB w w4 := KB.G (by first | exact hkA | exact HKD.out) hb; have hcB := hkB.c; have hfB := hkB.f; clear hb) | fail)
        go_wp2
        all_goals refine bodyPost_ret (v := V 3 x y E0) (by simp [results, Tryz.results133, go_sem, hcB]) rfl ⟨rfl, by repeat (first | exact hkB.g | exact hkA.g | refine G.setCell ?_ (Nat.le_refl _) _)⟩
      · have HK0 : Hid (KB w (w.alloc (.cells #[I 0, I 0, I 0, .string E0] 23))) := ⟨fun o => by simp, fun o => by simp, (G.refl w).alloc _, by simp⟩
        go_enter Tryz.func133, Tryz.ntmps133
        go_wp2_with fail
        refine (HL1.out _).mono ?_
        rintro e w1 ⟨rfl, hw⟩
        rw [hw]
        clear hw w1
        go_wp2_with fail
        refine (HL2.out _).mono ?_
        rintro e w1 ⟨rfl, hw⟩
        rw [hw]
        clear hw w1
        go_wp2_with fail
        generalize w.alloc (.cells #[I 0, I 0, I 0, .string E0] 23) = wa at HK0 ⊢
        have hkd : KB w wa.drew := KB.G HK0.out (G.drew (G.refl _))
        have HKD : Hid _ := hkd
        clear hkd HK0
        go_region_held3 (fun _ => True) (trivial) (first | (go_at_call 131; with_reducible refine (HW1.out _ ?_).mono ?_; (exact (by first | exact hkB.g | exact HKD.out.g)); rintro e w3 ⟨rfl, hb⟩; have hkA : KB w w3 := KB.G (by first | exact hkB | exact HKD.out) hb; have hcA := hkA.c; have hfA := hkA.f; clear hb) | (go_at_call 131; with_reducible refine (HW2.out _ ?_).mono ?_; (exact (by first | exact hkA.g | exact HKD.out.g)); rintro e w4 ⟨rfl, hb⟩; have hkB : KB w w4 := KB.G (by first | exact hkA | exact HKD.out) hb; have hcB := hkB.c; have hfB := hkB.f; clear hb) | fail)
        go_wp2
        all_goals refine bodyPost_ret (v := V 3 x y E0) (by simp [results, Tryz.results133, go_sem, hcB]) rfl ⟨rfl, by repeat (first | exact hkB.g | exact hkA.g | refine G.setCell ?_ (Nat.le_refl _) _)⟩
      · have HK0 : Hid (KB w (w.alloc (.cells #[I 0, I 0, I 0, .string E0] 23))) := ⟨fun o => by simp, fun o => by simp, (G.refl w).alloc _, by simp⟩
        go_enter Tryz.func133, Tryz.ntmps133
        go_wp2_with fail
        refine (HL1.out _).mono ?_
        rintro e w1 ⟨rfl, hw⟩
        rw [hw]
        clear hw w1
        go_wp2_with fail
        refine (HL2.out _).mono ?_
        rintro e w1 ⟨rfl, hw⟩
        rw [hw]
        clear hw w1
        go_wp2_with fail
        generalize w.alloc (.cells #[I 0, I 0, I 0, .string E0] 23) = wa at HK0 ⊢
        have hkd : KB w wa.drew := KB.G HK0.out (G.drew (G.refl _))
        have HKD : Hid _ := hkd
        clear hkd HK0
        go_region_held3 (fun _ => True) (trivial) (first | (go_at_call 131; with_reducible refine (HW1.out _ ?_).mono ?_; (exact (by first | exact hkB.g | exact HKD.out.g)); rintro e w3 ⟨rfl, hb⟩; have hkA : KB w w3 := KB.G (by first | exact hkB | exact HKD.out) hb; have hcA := hkA.c; have hfA := hkA.f; clear hb) | (go_at_call 131; with_reducible refine (HW2.out _ ?_).mono ?_; (exact (by first | exact hkA.g | exact HKD.out.g)); rintro e w4 ⟨rfl, hb⟩; have hkB : KB w w4 := KB.G (by first | exact hkA | exact HKD.out) hb; have hcB := hkB.c; have hfB := hkB.f; clear hb) | fail)
        go_wp2
        all_goals refine bodyPost_ret (v := V 3 x y E0) (by simp [results, Tryz.results133, go_sem, hcB]) rfl ⟨rfl, by repeat (first | exact hkB.g | exact hkA.g | refine G.setCell ?_ (Nat.le_refl _) _)⟩
    · obtain rfl : i = n := by omega
      clear hn
      have HK0 : Hid (KB w (w.alloc (.cells #[I 0, I 0, I 0, .string E0] 23))) := ⟨fun o => by simp, fun o => by simp, (G.refl w).alloc _, by simp⟩
      go_enter Tryz.func133, Tryz.ntmps133
      go_wp2_with fail
      refine (HL1.out _).mono ?_
      rintro e w1 ⟨rfl, hw⟩
      rw [hw]
      clear hw w1
      go_wp2_with fail
      refine (HL2.out _).mono ?_
      rintro e w1 ⟨rfl, hw⟩
      rw [hw]
      clear hw w1
      go_wp2_with fail
      generalize w.alloc (.cells #[I 0, I 0, I 0, .string E0] 23) = wa at HK0 ⊢
      have hkd : KB w wa.drew := KB.G HK0.out (G.drew (G.refl _))
      have HKD : Hid _ := hkd
      clear hkd HK0
      go_region_held3 (fun _ => True) (trivial) (first | (go_at_call 131; with_reducible refine (HW1.out _ ?_).mono ?_; (exact (by first | exact hkB.g | exact HKD.out.g)); rintro e w3 ⟨rfl, hb⟩; have hkA : KB w w3 := KB.G (by first | exact hkB | exact HKD.out) hb; have hcA := hkA.c; have hfA := hkA.f; clear hb) | (go_at_call 131; with_reducible refine (HW2.out _ ?_).mono ?_; (exact (by first | exact hkA.g | exact HKD.out.g)); rintro e w4 ⟨rfl, hb⟩; have hkB : KB w w4 := KB.G (by first | exact hkA | exact HKD.out) hb; have hcB := hkB.c; have hfB := hkB.f; clear hb) | fail)
      go_wp2
      all_goals refine bodyPost_ret (v := V 3 x y E0) (by simp [results, Tryz.results133, go_sem, hcB]) rfl ⟨rfl, by repeat (first | exact hkB.g | exact hkA.g | refine G.setCell ?_ (Nat.le_refl _) _)⟩
  · by_cases a2 : j ≤ 0
    · obtain rfl : n = 0 := by omega
      have hz0 : (0 : Int) ≤ (u.size : Int) := by omega
      clear hn
      have HX1 := HW1.out
      rw [show u.extract 0 0 = ByteArray.empty from by simp] at HX1
      have HX2 := HW2.out
      rw [show u.extract 0 u.size = u from by simp] at HX2
      clear HW1 HW2
      have HW1 : Hid _ := HX1
      have HW2 : Hid _ := HX2
      clear HX1 HX2
      obtain ⟨rfl, rfl⟩ : i = -1 ∧ j = 0 := by omega
      have HK0 : Hid (KB w (w.alloc (.cells #[I 0, I 0, I 0, .string E0] 23))) := ⟨fun o => by simp, fun o => by simp, (G.refl w).alloc _, by simp⟩
      go_enter Tryz.func133, Tryz.ntmps133
      go_wp2_with fail
      refine (HL1.out _).mono ?_
      rintro e w1 ⟨rfl, hw⟩
      rw [hw]
      clear hw w1
      go_wp2_with fail
      refine (HL2.out _).mono ?_
      rintro e w1 ⟨rfl, hw⟩
      rw [hw]
      clear hw w1
      go_wp2_with fail
      generalize w.alloc (.cells #[I 0, I 0, I 0, .string E0] 23) = wa at HK0 ⊢
      have hkd : KB w wa.drew := KB.G HK0.out (G.drew (G.refl _))
      have HKD : Hid _ := hkd
      clear hkd HK0
      go_region_held3 (fun _ => True) (trivial) (first | (go_at_call 131; with_reducible refine (HW1.out _ ?_).mono ?_; (exact (by first | exact hkB.g | exact HKD.out.g)); rintro e w3 ⟨rfl, hb⟩; have hkA : KB w w3 := KB.G (by first | exact hkB | exact HKD.out) hb; have hcA := hkA.c; have hfA := hkA.f; clear hb) | (go_at_call 131; with_reducible refine (HW2.out _ ?_).mono ?_; (exact (by first | exact hkA.g | exact HKD.out.g)); rintro e w4 ⟨rfl, hb⟩; have hkB : KB w w4 := KB.G (by first | exact hkA | exact HKD.out) hb; have hcB := hkB.c; have hfB := hkB.f; clear hb) | fail)
      go_wp2
      all_goals refine bodyPost_ret (v := V 3 x y E0) (by simp [results, Tryz.results133, go_sem, hcB]) rfl ⟨rfl, by repeat (first | exact hkB.g | exact hkA.g | refine G.setCell ?_ (Nat.le_refl _) _)⟩
    · obtain rfl : j = n := by omega
      clear hn
      have HK0 : Hid (KB w (w.alloc (.cells #[I 0, I 0, I 0, .string E0] 23))) := ⟨fun o => by simp, fun o => by simp, (G.refl w).alloc _, by simp⟩
      go_enter Tryz.func133, Tryz.ntmps133
      go_wp2_with fail
      refine (HL1.out _).mono ?_
      rintro e w1 ⟨rfl, hw⟩
      rw [hw]
      clear hw w1
      go_wp2_with fail
      refine (HL2.out _).mono ?_
      rintro e w1 ⟨rfl, hw⟩
      rw [hw]
      clear hw w1
      go_wp2_with fail
      generalize w.alloc (.cells #[I 0, I 0, I 0, .string E0] 23) = wa at HK0 ⊢
      have hkd : KB w wa.drew := KB.G HK0.out (G.drew (G.refl _))
      have HKD : Hid _ := hkd
      clear hkd HK0
      go_region_held3 (fun _ => True) (trivial) (first | (go_at_call 131; with_reducible refine (HW1.out _ ?_).mono ?_; (exact (by first | exact hkB.g | exact HKD.out.g)); rintro e w3 ⟨rfl, hb⟩; have hkA : KB w w3 := KB.G (by first | exact hkB | exact HKD.out) hb; have hcA := hkA.c; have hfA := hkA.f; clear hb) | (go_at_call 131; with_reducible refine (HW2.out _ ?_).mono ?_; (exact (by first | exact hkA.g | exact HKD.out.g)); rintro e w4 ⟨rfl, hb⟩; have hkB : KB w w4 := KB.G (by first | exact hkA | exact HKD.out) hb; have hcB := hkB.c; have hfB := hkB.f; clear hb) | fail)
      go_wp2
      all_goals refine bodyPost_ret (v := V 3 x y E0) (by simp [results, Tryz.results133, go_sem, hcB]) rfl ⟨rfl, by repeat (first | exact hkB.g | exact hkA.g | refine G.setCell ?_ (Nat.le_refl _) _)⟩
end Go.Proofs.YthpflfkgbapbnaaGreatDoor
