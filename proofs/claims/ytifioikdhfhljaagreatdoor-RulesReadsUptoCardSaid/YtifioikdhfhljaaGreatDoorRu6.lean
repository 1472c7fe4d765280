/- Rules: the rule that a node says, the document's words. -/
import Derived.Test.YtifioikdhfhljaaGreatDoorRu5
import Derived.Test.YtifioikdhfhljaaGreatDoorRu4
namespace Go.Proofs.YtifioikdhfhljaaGreatDoor
open Go.RowKit

theorem one8 {cs : List Value} (h : cs.all (fun v => match v with | .int .. => true | .string _ => true | _ => false) = true) {v : Value} (hv : v ∈ cs) : v.oneCell' = true := by
  have := List.all_eq_true.1 h v hv
  cases v <;> first | rfl | (simp at this)
theorem retY (tmps : Array Value) (W : World) (rb : Nat) (cs : List Value) (b : Bool) (hp : tmps.getD 2 undef = .pointer (some ⟨rb, 0, none⟩)) (hc : tmps.getD 3 undef = .bool b) (hr : Blk W rb 66 cs) (hl : cs.length = 8) :
    (results Tryz.f68 tmps).run Tryz.prog W = .ok (.tuple #[.agg cs.toArray, .bool b]) W := by
  rw [results_cell_tmp Tryz.results68, hp, hc]
  have h := run_loadVar_mid (P := Tryz.prog) W rb 0 66 cs _ (by have := hr.range 0 8; rw [List.drop_zero, List.take_of_length_le (by omega)] at this; exact this) Tryz.underlying66 rfl (by rw [hl]; kernel_rfl)
  simp only [asAddr, Sem.run_pure, Result.andThen_ok, h]
set_option maxRecDepth 100000 in
set_option maxHeartbeats 4000000 in
theorem says_not (id : Int) (lb kk of : ByteArray) (bk : Bool) (pa : Option Addr) (pn pc : Nat) (W : World) (HK : Hid (∀ V, G W V → Calls Tryz.prog 104 #[.slice pa pn pc, .string { data := #[107, 105, 110, 100] }] V fun e W' => e = .returned (.tuple #[.string kk, .bool bk]) ∧ G V W')) (HO : Hid (∀ V, G W V → Calls Tryz.prog 105 #[.slice pa pn pc, .string { data := #[111, 102] }] V fun e W' => e = .returned (.tuple #[.string of, .bool false]) ∧ G V W')) : Calls Tryz.prog 68 #[.agg #[I id, .string lb, .slice pa pn pc]] W fun e W' => e = .returned (.tuple #[.agg #[I id, I 0, .string of, .string { data := #[] }, I 0, .string { data := #[] }, .string { data := #[] }, I 0], .bool false]) ∧ G W W' := by
  obtain ⟨w2, hw2⟩ : ∃ w2, w2 = ((W.alloc (.cells #[I id, .string lb, .slice pa pn pc] 69)).alloc (.cells #[I 0, I 0, .string { data := #[] }, .string { data := #[] }, I 0, .string { data := #[] }, .string { data := #[] }, I 0] 66)) := ⟨_, rfl⟩
  obtain ⟨B0, hB0⟩ : ∃ B0, B0 = W.heap.size := ⟨_, rfl⟩
  obtain ⟨rb, hrb⟩ : ∃ rb, rb = B0 + 1 := ⟨_, rfl⟩
  have HGw2 : Hid (G W w2) := by rw [hw2]; exact ((G.refl W).alloc _).alloc _
  have HNw2 : Hid (Blk w2 B0 69 [I id, .string lb, .slice pa pn pc]) := by rw [hw2, hB0]; exact (Blk.new W [I id, .string lb, .slice pa pn pc] 69).G ((G.refl _).alloc _)
  have HRw2 : Hid (Blk w2 rb 66 [I 0, I 0, .string { data := #[] }, .string { data := #[] }, I 0, .string { data := #[] }, .string { data := #[] }, I 0]) := by
    have := Blk.new (W.alloc (.cells #[I id, .string lb, .slice pa pn pc] 69)) [I 0, I 0, .string { data := #[] }, .string { data := #[] }, I 0, .string { data := #[] }, .string { data := #[] }, I 0] 66
    rw [Hid, hw2, hrb, hB0]
    simpa using this
  have HLO : Hid (W.heap.size ≤ rb) := by show _ ≤ _; omega
  have HEW : Hid (((W.alloc (.cells #[I id, .string lb, .slice pa pn pc] 69)).alloc (.cells #[I 0, I 0, .string { data := #[] }, .string { data := #[] }, I 0, .string { data := #[] }, .string { data := #[] }, I 0] 66)) = w2) := hw2.symm
  have HE1 : Hid (W.heap.size = B0) := hB0.symm
  have HE2 : Hid (B0 + 1 = rb) := hrb.symm
  have e0 := ((Blk.new W [I id, .string lb, .slice pa pn pc] 69).G ((G.refl _).alloc (.cells #[I 0, I 0, .string { data := #[] }, .string { data := #[] }, I 0, .string { data := #[] }, .string { data := #[] }, I 0] 66))).cell
  have cN := HNw2.out.cell
  clear hw2 hB0 hrb
  go_enter Tryz.func68, Tryz.ntmps68
  go_wp2_with (first | (rw [HEW.out]; (try rw [HE1.out]); (try rw [HE2.out]); clear HEW e0) | fail)
  try rw [HEW.out]
  try rw [HE1.out]
  try rw [HE2.out]
  clear cN
  refine (HK.out w2 HGw2.out).mono ?_
  rintro e w3 ⟨rfl, hg'⟩
  have HNw3 := hide (HNw2.out.G hg'); have HRw3 := hide (HRw2.out.G hg'); have HGw3 := hide (HGw2.out.trans hg')
  clear hg'
  have cN := HNw3.out.cell
  go_wp2_with fail
  clear cN
  refine (HO.out w3 HGw3.out).mono ?_
  rintro e w4 ⟨rfl, hg'⟩
  have HNw4 := hide (HNw3.out.G hg'); have HRw4 := hide (HRw3.out.G hg'); have HGw4 := hide (HGw3.out.trans hg')
  clear hg'
  have HX4 := HNw4
  obtain ⟨wm, hw⟩ : ∃ w, w = (w4.alloc (.cells #[I id, I 0, .string of, .string { data := #[] }, I 0, .string { data := #[] }, .string { data := #[] }, I 0] 66)) := ⟨_, rfl⟩
  obtain ⟨r8, hr8⟩ : ∃ r, r = w4.heap.size := ⟨_, rfl⟩
  have hg' : G w4 wm := by rw [hw]; exact (G.refl _).alloc _
  have H8m : Hid (Blk wm r8 66 [I id, I 0, .string of, .string { data := #[] }, I 0, .string { data := #[] }, .string { data := #[] }, I 0]) := by rw [Hid, hw, hr8]; exact Blk.new w4 [I id, I 0, .string of, .string { data := #[] }, I 0, .string { data := #[] }, .string { data := #[] }, I 0] 66
  have HNm := hide (HNw4.out.G hg'); have HRm := hide (HRw4.out.G hg'); have HGm := hide (HGw4.out.trans hg')
  have HEX : Hid ((w4.alloc (.cells #[I id, I 0, .string of, .string { data := #[] }, I 0, .string { data := #[] }, .string { data := #[] }, I 0] 66)) = wm) := hw.symm
  have HE8 : Hid (w4.heap.size = r8) := hr8.symm
  have HNE : Hid (B0 ≠ r8 ∧ rb ≠ r8 ∧ W.heap.size ≤ r8 ∧ B0 ≠ rb) := ⟨by have := HNw4.out.lt; omega, by have := HRw4.out.lt; omega, by have := HGw4.out.size; omega, by have := HE2.out; omega⟩
  have cN := HNw4.out.cell
  clear hw hr8 hg'
  have c8 := H8m.out.cell
  have HB7 := hide ((((((((HRm.out.set 0 (I id)).set 1 (I 0)).set 2 (.string of)).set 3 (.string { data := #[] })).set 4 (I 0)).set 5 (.string { data := #[] })).set 6 (.string { data := #[] })).set 7 (I 0))
  have c9 := HRm.out.cell
  have z9 := HRm.out.frozen
  have HG7 : Hid (G W ((((((((wm.setCell ⟨rb, 0, none⟩ (I id)).setCell ⟨rb, 1, none⟩ (I 0)).setCell ⟨rb, 2, none⟩ (.string of)).setCell ⟨rb, 3, none⟩ (.string { data := #[] })).setCell ⟨rb, 4, none⟩ (I 0)).setCell ⟨rb, 5, none⟩ (.string { data := #[] })).setCell ⟨rb, 6, none⟩ (.string { data := #[] })).setCell ⟨rb, 7, none⟩ (I 0))) := ((((((((HGm.out.setCell HLO.out (I id)).setCell HLO.out (I 0)).setCell HLO.out (.string of)).setCell HLO.out (.string { data := #[] })).setCell HLO.out (I 0)).setCell HLO.out (.string { data := #[] })).setCell HLO.out (.string { data := #[] })).setCell HLO.out (I 0))
  go_wp2_with (first | (rw [HEX.out]; (try rw [HE8.out]); clear HEX) | fail)
  exact bodyPost_ret_by (v := .tuple #[.agg #[I id, I 0, .string of, .string { data := #[] }, I 0, .string { data := #[] }, .string { data := #[] }, I 0], .bool false]) (retY _ _ rb _ _ rfl rfl HB7.out rfl) rfl ⟨rfl, HG7.out⟩
set_option maxRecDepth 100000 in
set_option maxHeartbeats 4000000 in
theorem says_none (id : Int) (lb kk of : ByteArray) (bk : Bool) (pa : Option Addr) (pn pc : Nat) (W : World) (HK : Hid (∀ V, G W V → Calls Tryz.prog 104 #[.slice pa pn pc, .string { data := #[107, 105, 110, 100] }] V fun e W' => e = .returned (.tuple #[.string kk, .bool bk]) ∧ G V W')) (HO : Hid (∀ V, G W V → Calls Tryz.prog 105 #[.slice pa pn pc, .string { data := #[111, 102] }] V fun e W' => e = .returned (.tuple #[.string of, .bool true]) ∧ G V W')) (e0 : (kk.toList == [117, 110, 105, 113, 117, 101]) = false) (e1 : (kk.toList == [110, 101, 101, 100, 115]) = false) (e2 : (kk.toList == [111, 110, 108, 121]) = false) (e3 : (kk.toList == [108, 105, 110, 107]) = false) (e4 : (kk.toList == [109, 111, 115, 116]) = false) (e5 : (kk.toList == [111, 114, 100, 101, 114]) = false) : Calls Tryz.prog 68 #[.agg #[I id, .string lb, .slice pa pn pc]] W fun e W' => e = .returned (.tuple #[.agg #[I id, I 0, .string of, .string { data := #[] }, I 0, .string { data := #[] }, .string { data := #[] }, I 0], .bool false]) ∧ G W W' := by
  obtain ⟨w2, hw2⟩ : ∃ w2, w2 = ((W.alloc (.cells #[I id, .string lb, .slice pa pn pc] 69)).alloc (.cells #[I 0, I 0, .string { data := #[] }, .string { data := #[] }, I 0, .string { data := #[] }, .string { data := #[] }, I 0] 66)) := ⟨_, rfl⟩
  obtain ⟨B0, hB0⟩ : ∃ B0, B0 = W.heap.size := ⟨_, rfl⟩
  obtain ⟨rb, hrb⟩ : ∃ rb, rb = B0 + 1 := ⟨_, rfl⟩
  have HGw2 : Hid (G W w2) := by rw [hw2]; exact ((G.refl W).alloc _).alloc _
  have HNw2 : Hid (Blk w2 B0 69 [I id, .string lb, .slice pa pn pc]) := by rw [hw2, hB0]; exact (Blk.new W [I id, .string lb, .slice pa pn pc] 69).G ((G.refl _).alloc _)
  have HRw2 : Hid (Blk w2 rb 66 [I 0, I 0, .string { data := #[] }, .string { data := #[] }, I 0, .string { data := #[] }, .string { data := #[] }, I 0]) := by
    have := Blk.new (W.alloc (.cells #[I id, .string lb, .slice pa pn pc] 69)) [I 0, I 0, .string { data := #[] }, .string { data := #[] }, I 0, .string { data := #[] }, .string { data := #[] }, I 0] 66
    rw [Hid, hw2, hrb, hB0]
    simpa using this
  have HLO : Hid (W.heap.size ≤ rb) := by show _ ≤ _; omega
  have HEW : Hid (((W.alloc (.cells #[I id, .string lb, .slice pa pn pc] 69)).alloc (.cells #[I 0, I 0, .string { data := #[] }, .string { data := #[] }, I 0, .string { data := #[] }, .string { data := #[] }, I 0] 66)) = w2) := hw2.symm
  have HE1 : Hid (W.heap.size = B0) := hB0.symm
  have HE2 : Hid (B0 + 1 = rb) := hrb.symm
  have e0 := ((Blk.new W [I id, .string lb, .slice pa pn pc] 69).G ((G.refl _).alloc (.cells #[I 0, I 0, .string { data := #[] }, .string { data := #[] }, I 0, .string { data := #[] }, .string { data := #[] }, I 0] 66))).cell
  have cN := HNw2.out.cell
  clear hw2 hB0 hrb
  go_enter Tryz.func68, Tryz.ntmps68
  go_wp2_with (first | (rw [HEW.out]; (try rw [HE1.out]); (try rw [HE2.out]); clear HEW e0) | fail)
  try rw [HEW.out]
  try rw [HE1.out]
  try rw [HE2.out]
  clear cN
  refine (HK.out w2 HGw2.out).mono ?_
  rintro e w3 ⟨rfl, hg'⟩
  have HNw3 := hide (HNw2.out.G hg'); have HRw3 := hide (HRw2.out.G hg'); have HGw3 := hide (HGw2.out.trans hg')
  clear hg'
  have cN := HNw3.out.cell
  go_wp2_with fail
  clear cN
  refine (HO.out w3 HGw3.out).mono ?_
  rintro e w4 ⟨rfl, hg'⟩
  have HNw4 := hide (HNw3.out.G hg'); have HRw4 := hide (HRw3.out.G hg'); have HGw4 := hide (HGw3.out.trans hg')
  clear hg'
  obtain ⟨wm, hw⟩ : ∃ w, w = (w4.alloc (.cells #[I id, I 0, .string of, .string { data := #[] }, I 0, .string { data := #[] }, .string { data := #[] }, I 0] 66)) := ⟨_, rfl⟩
  obtain ⟨r8, hr8⟩ : ∃ r, r = w4.heap.size := ⟨_, rfl⟩
  have hg' : G w4 wm := by rw [hw]; exact (G.refl _).alloc _
  have H8m : Hid (Blk wm r8 66 [I id, I 0, .string of, .string { data := #[] }, I 0, .string { data := #[] }, .string { data := #[] }, I 0]) := by rw [Hid, hw, hr8]; exact Blk.new w4 [I id, I 0, .string of, .string { data := #[] }, I 0, .string { data := #[] }, .string { data := #[] }, I 0] 66
  have HNm := hide (HNw4.out.G hg'); have HRm := hide (HRw4.out.G hg'); have HGm := hide (HGw4.out.trans hg')
  have HEX : Hid ((w4.alloc (.cells #[I id, I 0, .string of, .string { data := #[] }, I 0, .string { data := #[] }, .string { data := #[] }, I 0] 66)) = wm) := hw.symm
  have HE8 : Hid (w4.heap.size = r8) := hr8.symm
  have HNE : Hid (B0 ≠ r8 ∧ rb ≠ r8 ∧ W.heap.size ≤ r8 ∧ B0 ≠ rb) := ⟨by have := HNw4.out.lt; omega, by have := HRw4.out.lt; omega, by have := HGw4.out.size; omega, by have := HE2.out; omega⟩
  have cN := HNw4.out.cell
  clear hw hr8 hg'
  have H8wm := H8m; have HNwm := HNm; have HRwm := HRm; have HGwm := HGm
  have c8 := H8m.out.cell
  go_wp2_with (first | (rw [HEX.out]; (try rw [HE8.out]); clear HEX) | fail)
  try rw [HEX.out]
  (try rw [HE8.out])
  clear cN c8
  refine wp_region_noPanic ?_
  refine wp_region_held_drew (S := (fun V => (∀ o, V.cell? ⟨B0, o, none⟩ = ([I id, .string lb, .slice pa pn pc] : List Value)[o]?) ∧ (∀ o, V.cell? ⟨r8, o, none⟩ = ([I id, I 0, .string of, .string { data := #[] }, I 0, .string { data := #[] }, .string { data := #[] }, I 0] : List Value)[o]?) ∧ G W V)) (by kernel_rfl) (⟨(HNwm.out.G (G.refl _).drew).cell, (H8wm.out.G (G.refl _).drew).cell, HGwm.out.drew⟩) (fun hHeld => ?_)
  refine wpAnyH_take (i := 0) (v := ?_) rfl (by kernel_rfl) (by kernel_rfl) (by kernel_rfl) (fun _ _ _ h => h) (Or.inl ⟨by rfl, ?_⟩) hHeld ?_
  rotate_left 1
  · (intro w hSw; obtain ⟨k1, k2, -⟩ := hSw; go_simp; try with_reducible rfl)
  try simp only [Act.put, List.getElem_toArray, List.getElem_cons_zero, List.setIfInBounds_toArray, List.set_cons_zero, List.set_cons_succ]
  refine wpAnyH_take (i := 1) (v := ?_) rfl (by kernel_rfl) (by kernel_rfl) (by kernel_rfl) (fun _ _ _ h => h) (Or.inl ⟨by rfl, ?_⟩) hHeld ?_
  rotate_left 1
  · (intro w hSw; (try dsimp only at hSw); go_simp; try with_reducible rfl)
  try simp only [Act.put, List.getElem_toArray, List.getElem_cons_zero, List.getElem_cons_succ, List.setIfInBounds_toArray, List.set_cons_zero, List.set_cons_succ]
  refine wpAnyH_take (i := 2) (v := ?_) rfl (by kernel_rfl) (by kernel_rfl) (by kernel_rfl) (fun _ _ _ h => h) (Or.inl ⟨by rfl, ?_⟩) hHeld ?_
  rotate_left 1
  · (intro w hSw; (try dsimp only at hSw); go_simp; try with_reducible rfl)
  try simp only [Act.put, List.getElem_toArray, List.getElem_cons_zero, List.getElem_cons_succ, List.setIfInBounds_toArray, List.set_cons_zero, List.set_cons_succ]
  refine wpAnyH_take (i := 3) (v := undef) rfl (by kernel_rfl) (by kernel_rfl) (by kernel_rfl) (fun _ _ _ h => h) (Or.inr ⟨by rfl, rfl⟩) hHeld ?_
  try simp only [Act.put, List.getElem_toArray, List.getElem_cons_zero, List.getElem_cons_succ, List.setIfInBounds_toArray, List.set_cons_zero, List.set_cons_succ]
  refine wpAnyH_take (i := 4) (v := undef) rfl (by kernel_rfl) (by kernel_rfl) (by kernel_rfl) (fun _ _ _ h => h) (Or.inr ⟨by rfl, rfl⟩) hHeld ?_
  try simp only [Act.put, List.getElem_toArray, List.getElem_cons_zero, List.getElem_cons_succ, List.setIfInBounds_toArray, List.set_cons_zero, List.set_cons_succ]
  refine wpAnyH_take (i := 5) (v := undef) rfl (by kernel_rfl) (by kernel_rfl) (by kernel_rfl) (fun _ _ _ h => h) (Or.inr ⟨by rfl, rfl⟩) hHeld ?_
  try simp only [Act.put, List.getElem_toArray, List.getElem_cons_zero, List.getElem_cons_succ, List.setIfInBounds_toArray, List.set_cons_zero, List.set_cons_succ]
  refine wpAnyH_take (i := 6) (v := undef) rfl (by kernel_rfl) (by kernel_rfl) (by kernel_rfl) (fun _ _ _ h => h) (Or.inr ⟨by rfl, rfl⟩) hHeld ?_
  try simp only [Act.put, List.getElem_toArray, List.getElem_cons_zero, List.getElem_cons_succ, List.setIfInBounds_toArray, List.set_cons_zero, List.set_cons_succ]
  refine wpAnyH_take (i := 7) (v := undef) rfl (by kernel_rfl) (by kernel_rfl) (by kernel_rfl) (fun _ _ _ h => h) (Or.inr ⟨by rfl, rfl⟩) hHeld ?_
  try simp only [Act.put, List.getElem_toArray, List.getElem_cons_zero, List.getElem_cons_succ, List.setIfInBounds_toArray, List.set_cons_zero, List.set_cons_succ]
  refine wpAnyH_take (i := 8) (v := undef) rfl (by kernel_rfl) (by kernel_rfl) (by kernel_rfl) (fun _ _ _ h => h) (Or.inr ⟨by rfl, rfl⟩) hHeld ?_
  try simp only [Act.put, List.getElem_toArray, List.getElem_cons_zero, List.getElem_cons_succ, List.setIfInBounds_toArray, List.set_cons_zero, List.set_cons_succ]
  refine wpAnyH_take (i := 9) (v := ?_) rfl (by kernel_rfl) (by kernel_rfl) (by kernel_rfl) (fun _ _ _ h => h) (Or.inl ⟨by rfl, ?_⟩) hHeld ?_
  rotate_left 1
  · (intro w hSw; (try dsimp only at hSw); go_simp; try with_reducible rfl)
  try simp only [Act.put, List.getElem_toArray, List.getElem_cons_zero, List.getElem_cons_succ, List.setIfInBounds_toArray, List.set_cons_zero, List.set_cons_succ]
  refine wpAnyH_ready (rs := [10]) (by kernel_rfl) (by simp) (AllReadyH.cons rfl (fun K hK => ?_) AllReadyH.nil)
  clear hHeld
  have hrb7 := HRwm.out.G (G.refl wm).drew
  have HTH : Hid (wm.drew.there rb 0 8) := fun j hj => ⟨by rw [hrb7.cell, List.getElem?_eq_getElem (by simp; omega)]; rfl, hrb7.frozen _⟩
  have HB7 := hide ((((((((hrb7.set 0 (I id)).set 1 (I 0)).set 2 (.string of)).set 3 (.string { data := #[] })).set 4 (I 0)).set 5 (.string { data := #[] })).set 6 (.string { data := #[] })).set 7 (I 0))
  have HG7 : Hid (G W ((((((((wm.drew.setCell ⟨rb, 0, none⟩ (I id)).setCell ⟨rb, 1, none⟩ (I 0)).setCell ⟨rb, 2, none⟩ (.string of)).setCell ⟨rb, 3, none⟩ (.string { data := #[] })).setCell ⟨rb, 4, none⟩ (I 0)).setCell ⟨rb, 5, none⟩ (.string { data := #[] })).setCell ⟨rb, 6, none⟩ (.string { data := #[] })).setCell ⟨rb, 7, none⟩ (I 0))) := (((((((((HGwm.out.drew).setCell HLO.out (I id)).setCell HLO.out (I 0)).setCell HLO.out (.string of)).setCell HLO.out (.string { data := #[] })).setCell HLO.out (I 0)).setCell HLO.out (.string { data := #[] })).setCell HLO.out (.string { data := #[] })).setCell HLO.out (I 0))
  have HS7 : Hid ((∀ o, ((((((((wm.drew.setCell ⟨rb, 0, none⟩ (I id)).setCell ⟨rb, 1, none⟩ (I 0)).setCell ⟨rb, 2, none⟩ (.string of)).setCell ⟨rb, 3, none⟩ (.string { data := #[] })).setCell ⟨rb, 4, none⟩ (I 0)).setCell ⟨rb, 5, none⟩ (.string { data := #[] })).setCell ⟨rb, 6, none⟩ (.string { data := #[] })).setCell ⟨rb, 7, none⟩ (I 0)).cell? ⟨B0, o, none⟩ = ([I id, .string lb, .slice pa pn pc] : List Value)[o]?) ∧ (∀ o, ((((((((wm.drew.setCell ⟨rb, 0, none⟩ (I id)).setCell ⟨rb, 1, none⟩ (I 0)).setCell ⟨rb, 2, none⟩ (.string of)).setCell ⟨rb, 3, none⟩ (.string { data := #[] })).setCell ⟨rb, 4, none⟩ (I 0)).setCell ⟨rb, 5, none⟩ (.string { data := #[] })).setCell ⟨rb, 6, none⟩ (.string { data := #[] })).setCell ⟨rb, 7, none⟩ (I 0)).cell? ⟨r8, o, none⟩ = ([I id, I 0, .string of, .string { data := #[] }, I 0, .string { data := #[] }, .string { data := #[] }, I 0] : List Value)[o]?)) := ⟨((((((((((((((((HNwm.out.G (G.refl wm).drew).off (b := rb) (o := 0) (v := I id) HNE.out.2.2.2)).off (b := rb) (o := 1) (v := I 0) HNE.out.2.2.2)).off (b := rb) (o := 2) (v := .string of) HNE.out.2.2.2)).off (b := rb) (o := 3) (v := .string { data := #[] }) HNE.out.2.2.2)).off (b := rb) (o := 4) (v := I 0) HNE.out.2.2.2)).off (b := rb) (o := 5) (v := .string { data := #[] }) HNE.out.2.2.2)).off (b := rb) (o := 6) (v := .string { data := #[] }) HNE.out.2.2.2)).off (b := rb) (o := 7) (v := I 0) HNE.out.2.2.2).cell, ((((((((((((((((H8wm.out.G (G.refl wm).drew).off (b := rb) (o := 0) (v := I id) HNE.out.2.1.symm)).off (b := rb) (o := 1) (v := I 0) HNE.out.2.1.symm)).off (b := rb) (o := 2) (v := .string of) HNE.out.2.1.symm)).off (b := rb) (o := 3) (v := .string { data := #[] }) HNE.out.2.1.symm)).off (b := rb) (o := 4) (v := I 0) HNE.out.2.1.symm)).off (b := rb) (o := 5) (v := .string { data := #[] }) HNE.out.2.1.symm)).off (b := rb) (o := 6) (v := .string { data := #[] }) HNE.out.2.1.symm)).off (b := rb) (o := 7) (v := I 0) HNE.out.2.1.symm).cell⟩
  clear hrb7
  refine (if_pos rfl).mpr ?_
  refine wp_store_mid 66 _ _ rfl rb 0 #[I id, I 0, .string of, .string { data := #[] }, I 0, .string { data := #[] }, .string { data := #[] }, I 0] rfl rfl HTH.out (by kernel_rfl) (all_oneCell_toArray (cs := [I id, I 0, .string of, .string { data := #[] }, I 0, .string { data := #[] }, .string { data := #[] }, I 0]) (fun v hv => one8 (by rfl) hv)) ?_
  refine hK.out _ _ (⟨HS7.out.1, HS7.out.2, HG7.out⟩) (fun hHeld => ?_)
  clear hK K
  try simp only [Act.put, List.getElem_toArray, List.getElem_cons_zero, List.getElem_cons_succ]
  refine wpAnyH_take (i := 11) (v := ?_) rfl (by kernel_rfl) (by kernel_rfl) (by kernel_rfl) (fun _ _ _ h => h) (Or.inl ⟨by rfl, ?_⟩) hHeld ?_
  rotate_left 1
  · (intro w hSw; (try dsimp only at hSw); go_simp; try with_reducible rfl)
  try simp only [Act.put, List.getElem_toArray, List.getElem_cons_zero, List.getElem_cons_succ, List.setIfInBounds_toArray, List.set_cons_zero, List.set_cons_succ]
  refine wpAnyH_done (by kernel_rfl) ?_ _
  refine NoPanic.normal ?_
  go_wp2_with fail
  exact bodyPost_ret_by (v := .tuple #[.agg #[I id, I 0, .string of, .string { data := #[] }, I 0, .string { data := #[] }, .string { data := #[] }, I 0], .bool false]) (retY _ _ rb _ _ rfl rfl HB7.out rfl) rfl ⟨rfl, HG7.out⟩
set_option maxRecDepth 100000 in
set_option maxHeartbeats 4000000 in
theorem says_order (id : Int) (lb kk of : ByteArray) (bk : Bool) (pa : Option Addr) (pn pc : Nat) (W : World) (HK : Hid (∀ V, G W V → Calls Tryz.prog 104 #[.slice pa pn pc, .string { data := #[107, 105, 110, 100] }] V fun e W' => e = .returned (.tuple #[.string kk, .bool bk]) ∧ G V W')) (HO : Hid (∀ V, G W V → Calls Tryz.prog 105 #[.slice pa pn pc, .string { data := #[111, 102] }] V fun e W' => e = .returned (.tuple #[.string of, .bool true]) ∧ G V W')) (e0 : (kk.toList == [117, 110, 105, 113, 117, 101]) = false) (e1 : (kk.toList == [110, 101, 101, 100, 115]) = false) (e2 : (kk.toList == [111, 110, 108, 121]) = false) (e3 : (kk.toList == [108, 105, 110, 107]) = false) (e4 : (kk.toList == [109, 111, 115, 116]) = false) (e5 : (kk.toList == [111, 114, 100, 101, 114]) = true) : Calls Tryz.prog 68 #[.agg #[I id, .string lb, .slice pa pn pc]] W fun e W' => e = .returned (.tuple #[.agg #[I id, I 6, .string of, .string { data := #[] }, I 0, .string { data := #[] }, .string { data := #[] }, I 0], .bool ((pn : Int) == 2)]) ∧ G W W' := by
  obtain ⟨w2, hw2⟩ : ∃ w2, w2 = ((W.alloc (.cells #[I id, .string lb, .slice pa pn pc] 69)).alloc (.cells #[I 0, I 0, .string { data := #[] }, .string { data := #[] }, I 0, .string { data := #[] }, .string { data := #[] }, I 0] 66)) := ⟨_, rfl⟩
  obtain ⟨B0, hB0⟩ : ∃ B0, B0 = W.heap.size := ⟨_, rfl⟩
  obtain ⟨rb, hrb⟩ : ∃ rb, rb = B0 + 1 := ⟨_, rfl⟩
  have HGw2 : Hid (G W w2) := by rw [hw2]; exact ((G.refl W).alloc _).alloc _
  have HNw2 : Hid (Blk w2 B0 69 [I id, .string lb, .slice pa pn pc]) := by rw [hw2, hB0]; exact (Blk.new W [I id, .string lb, .slice pa pn pc] 69).G ((G.refl _).alloc _)
  have HRw2 : Hid (Blk w2 rb 66 [I 0, I 0, .string { data := #[] }, .string { data := #[] }, I 0, .string { data := #[] }, .string { data := #[] }, I 0]) := by
    have := Blk.new (W.alloc (.cells #[I id, .string lb, .slice pa pn pc] 69)) [I 0, I 0, .string { data := #[] }, .string { data := #[] }, I 0, .string { data := #[] }, .string { data := #[] }, I 0] 66
    rw [Hid, hw2, hrb, hB0]
    simpa using this
  have HLO : Hid (W.heap.size ≤ rb) := by show _ ≤ _; omega
  have HEW : Hid (((W.alloc (.cells #[I id, .string lb, .slice pa pn pc] 69)).alloc (.cells #[I 0, I 0, .string { data := #[] }, .string { data := #[] }, I 0, .string { data := #[] }, .string { data := #[] }, I 0] 66)) = w2) := hw2.symm
  have HE1 : Hid (W.heap.size = B0) := hB0.symm
  have HE2 : Hid (B0 + 1 = rb) := hrb.symm
  have e0 := ((Blk.new W [I id, .string lb, .slice pa pn pc] 69).G ((G.refl _).alloc (.cells #[I 0, I 0, .string { data := #[] }, .string { data := #[] }, I 0, .string { data := #[] }, .string { data := #[] }, I 0] 66))).cell
  have cN := HNw2.out.cell
  clear hw2 hB0 hrb
  go_enter Tryz.func68, Tryz.ntmps68
  go_wp2_with (first | (rw [HEW.out]; (try rw [HE1.out]); (try rw [HE2.out]); clear HEW e0) | fail)
  try rw [HEW.out]
  try rw [HE1.out]
  try rw [HE2.out]
  clear cN
  refine (HK.out w2 HGw2.out).mono ?_
  rintro e w3 ⟨rfl, hg'⟩
  have HNw3 := hide (HNw2.out.G hg'); have HRw3 := hide (HRw2.out.G hg'); have HGw3 := hide (HGw2.out.trans hg')
  clear hg'
  have cN := HNw3.out.cell
  go_wp2_with fail
  clear cN
  refine (HO.out w3 HGw3.out).mono ?_
  rintro e w4 ⟨rfl, hg'⟩
  have HNw4 := hide (HNw3.out.G hg'); have HRw4 := hide (HRw3.out.G hg'); have HGw4 := hide (HGw3.out.trans hg')
  clear hg'
  obtain ⟨wm, hw⟩ : ∃ w, w = (w4.alloc (.cells #[I id, I 0, .string of, .string { data := #[] }, I 0, .string { data := #[] }, .string { data := #[] }, I 0] 66)) := ⟨_, rfl⟩
  obtain ⟨r8, hr8⟩ : ∃ r, r = w4.heap.size := ⟨_, rfl⟩
  have hg' : G w4 wm := by rw [hw]; exact (G.refl _).alloc _
  have H8m : Hid (Blk wm r8 66 [I id, I 0, .string of, .string { data := #[] }, I 0, .string { data := #[] }, .string { data := #[] }, I 0]) := by rw [Hid, hw, hr8]; exact Blk.new w4 [I id, I 0, .string of, .string { data := #[] }, I 0, .string { data := #[] }, .string { data := #[] }, I 0] 66
  have HNm := hide (HNw4.out.G hg'); have HRm := hide (HRw4.out.G hg'); have HGm := hide (HGw4.out.trans hg')
  have HEX : Hid ((w4.alloc (.cells #[I id, I 0, .string of, .string { data := #[] }, I 0, .string { data := #[] }, .string { data := #[] }, I 0] 66)) = wm) := hw.symm
  have HE8 : Hid (w4.heap.size = r8) := hr8.symm
  have HNE : Hid (B0 ≠ r8 ∧ rb ≠ r8 ∧ W.heap.size ≤ r8 ∧ B0 ≠ rb) := ⟨by have := HNw4.out.lt; omega, by have := HRw4.out.lt; omega, by have := HGw4.out.size; omega, by have := HE2.out; omega⟩
  have cN := HNw4.out.cell
  clear hw hr8 hg'
  obtain ⟨w5, hw⟩ : ∃ w, w = (wm.setCell ⟨r8, 1, none⟩ (I 6)) := ⟨_, rfl⟩
  have H8w5 : Hid (Blk w5 r8 66 [I id, I 6, .string of, .string { data := #[] }, I 0, .string { data := #[] }, .string { data := #[] }, I 0]) := by rw [hw]; exact (H8m.out.set 1 (I 6))
  have HNw5 : Hid (Blk w5 B0 69 [I id, .string lb, .slice pa pn pc]) := by rw [hw]; exact (HNm.out.off (b := r8) (o := 1) (v := I 6) HNE.out.1)
  have HRw5 : Hid (Blk w5 rb 66 [I 0, I 0, .string { data := #[] }, .string { data := #[] }, I 0, .string { data := #[] }, .string { data := #[] }, I 0]) := by rw [hw]; exact (HRm.out.off (b := r8) (o := 1) (v := I 6) HNE.out.2.1)
  have HGw5 : Hid (G W w5) := by rw [hw]; exact (HGm.out.setCell HNE.out.2.2.1 (I 6))
  have HES : Hid ((wm.setCell ⟨r8, 1, none⟩ (I 6)) = w5) := hw.symm
  clear hw
  have cN := HNm.out.cell
  have c8 := H8m.out.cell
  have z8 := H8m.out.frozen
  have cNx : ∀ o, (wm.setCell ⟨r8, 1, none⟩ (I 6)).cell? ⟨B0, o, none⟩ = ([I id, .string lb, .slice pa pn pc] : List Value)[o]? := by rw [HES.out]; exact HNw5.out.cell
  have c8x : ∀ o, (wm.setCell ⟨r8, 1, none⟩ (I 6)).cell? ⟨r8, o, none⟩ = ([I id, I 6, .string of, .string { data := #[] }, I 0, .string { data := #[] }, .string { data := #[] }, I 0] : List Value)[o]? := by rw [HES.out]; exact H8w5.out.cell
  have cNo := HNw5.out.cell
  have c8o := H8w5.out.cell
  go_wp2_with (first | (rw [HES.out]; clear HES) | (rw [HEX.out]; (try rw [HE8.out]); clear HEX) | (rw [HEV.out]; (try rw [HEB.out]); clear HEV) | fail)
  try rw [HEX.out]
  (try rw [HE8.out])
  try rw [HES.out]
  clear cN c8 z8 cNx c8x cNo c8o
  refine wp_region_noPanic ?_
  refine wp_region_held_drew (S := (fun V => (∀ o, V.cell? ⟨B0, o, none⟩ = ([I id, .string lb, .slice pa pn pc] : List Value)[o]?) ∧ (∀ o, V.cell? ⟨r8, o, none⟩ = ([I id, I 6, .string of, .string { data := #[] }, I 0, .string { data := #[] }, .string { data := #[] }, I 0] : List Value)[o]?) ∧ G W V)) (by kernel_rfl) (⟨(HNw5.out.G (G.refl _).drew).cell, (H8w5.out.G (G.refl _).drew).cell, HGw5.out.drew⟩) (fun hHeld => ?_)
  refine wpAnyH_take (i := 0) (v := ?_) rfl (by kernel_rfl) (by kernel_rfl) (by kernel_rfl) (fun _ _ _ h => h) (Or.inl ⟨by rfl, ?_⟩) hHeld ?_
  rotate_left 1
  · (intro w hSw; obtain ⟨k1, k2, -⟩ := hSw; go_simp; try with_reducible rfl)
  try simp only [Act.put, List.getElem_toArray, List.getElem_cons_zero, List.setIfInBounds_toArray, List.set_cons_zero, List.set_cons_succ]
  refine wpAnyH_take (i := 1) (v := ?_) rfl (by kernel_rfl) (by kernel_rfl) (by kernel_rfl) (fun _ _ _ h => h) (Or.inl ⟨by rfl, ?_⟩) hHeld ?_
  rotate_left 1
  · (intro w hSw; (try dsimp only at hSw); go_simp; try with_reducible rfl)
  try simp only [Act.put, List.getElem_toArray, List.getElem_cons_zero, List.getElem_cons_succ, List.setIfInBounds_toArray, List.set_cons_zero, List.set_cons_succ]
  refine wpAnyH_take (i := 2) (v := ?_) rfl (by kernel_rfl) (by kernel_rfl) (by kernel_rfl) (fun _ _ _ h => h) (Or.inl ⟨by rfl, ?_⟩) hHeld ?_
  rotate_left 1
  · (intro w hSw; (try dsimp only at hSw); go_simp; try with_reducible rfl)
  try simp only [Act.put, List.getElem_toArray, List.getElem_cons_zero, List.getElem_cons_succ, List.setIfInBounds_toArray, List.set_cons_zero, List.set_cons_succ]
  refine wpAnyH_take (i := 3) (v := ?_) rfl (by kernel_rfl) (by kernel_rfl) (by kernel_rfl) (fun _ _ _ h => h) (Or.inl ⟨by rfl, ?_⟩) hHeld ?_
  rotate_left 1
  · (intro w hSw; (try dsimp only at hSw); go_simp; try with_reducible rfl)
  try simp only [Act.put, List.getElem_toArray, List.getElem_cons_zero, List.getElem_cons_succ, List.setIfInBounds_toArray, List.set_cons_zero, List.set_cons_succ]
  refine wpAnyH_take (i := 4) (v := ?_) rfl (by kernel_rfl) (by kernel_rfl) (by kernel_rfl) (fun _ _ _ h => h) (Or.inl ⟨by rfl, ?_⟩) hHeld ?_
  rotate_left 1
  · (intro w hSw; obtain ⟨k1, k2, -⟩ := hSw; go_simp; try with_reducible rfl)
  try simp only [Act.put, List.getElem_toArray, List.getElem_cons_zero, List.getElem_cons_succ, List.setIfInBounds_toArray, List.set_cons_zero, List.set_cons_succ]
  refine wpAnyH_take (i := 5) (v := ?_) rfl (by kernel_rfl) (by kernel_rfl) (by kernel_rfl) (fun _ _ _ h => h) (Or.inl ⟨by rfl, ?_⟩) hHeld ?_
  rotate_left 1
  · (intro w hSw; (try dsimp only at hSw); go_simp; try with_reducible rfl)
  try simp only [Act.put, List.getElem_toArray, List.getElem_cons_zero, List.getElem_cons_succ, List.setIfInBounds_toArray, List.set_cons_zero, List.set_cons_succ]
  refine wpAnyH_take (i := 6) (v := ?_) rfl (by kernel_rfl) (by kernel_rfl) (by kernel_rfl) (fun _ _ _ h => h) (Or.inl ⟨by rfl, ?_⟩) hHeld ?_
  rotate_left 1
  · (intro w hSw; (try dsimp only at hSw); go_simp; try with_reducible rfl)
  try simp only [Act.put, List.getElem_toArray, List.getElem_cons_zero, List.getElem_cons_succ, List.setIfInBounds_toArray, List.set_cons_zero, List.set_cons_succ]
  refine wpAnyH_take (i := 7) (v := ?_) rfl (by kernel_rfl) (by kernel_rfl) (by kernel_rfl) (fun _ _ _ h => h) (Or.inl ⟨by rfl, ?_⟩) hHeld ?_
  rotate_left 1
  · (intro w hSw; (try dsimp only at hSw); go_simp; try with_reducible rfl)
  try simp only [Act.put, List.getElem_toArray, List.getElem_cons_zero, List.getElem_cons_succ, List.setIfInBounds_toArray, List.set_cons_zero, List.set_cons_succ]
  refine wpAnyH_take (i := 8) (v := ?_) rfl (by kernel_rfl) (by kernel_rfl) (by kernel_rfl) (fun _ _ _ h => h) (Or.inl ⟨by rfl, ?_⟩) hHeld ?_
  rotate_left 1
  · (intro w hSw; (try dsimp only at hSw); go_simp; try with_reducible rfl)
  try simp only [Act.put, List.getElem_toArray, List.getElem_cons_zero, List.getElem_cons_succ, List.setIfInBounds_toArray, List.set_cons_zero, List.set_cons_succ]
  refine wpAnyH_take (i := 9) (v := ?_) rfl (by kernel_rfl) (by kernel_rfl) (by kernel_rfl) (fun _ _ _ h => h) (Or.inl ⟨by rfl, ?_⟩) hHeld ?_
  rotate_left 1
  · (intro w hSw; (try dsimp only at hSw); go_simp; try with_reducible rfl)
  try simp only [Act.put, List.getElem_toArray, List.getElem_cons_zero, List.getElem_cons_succ, List.setIfInBounds_toArray, List.set_cons_zero, List.set_cons_succ]
  refine wpAnyH_ready (rs := [10]) (by kernel_rfl) (by simp) (AllReadyH.cons rfl (fun K hK => ?_) AllReadyH.nil)
  clear hHeld
  have hrb7 := HRw5.out.G (G.refl w5).drew
  have HTH : Hid (w5.drew.there rb 0 8) := fun j hj => ⟨by rw [hrb7.cell, List.getElem?_eq_getElem (by simp; omega)]; rfl, hrb7.frozen _⟩
  have HB7 := hide ((((((((hrb7.set 0 (I id)).set 1 (I 6)).set 2 (.string of)).set 3 (.string { data := #[] })).set 4 (I 0)).set 5 (.string { data := #[] })).set 6 (.string { data := #[] })).set 7 (I 0))
  have HG7 : Hid (G W ((((((((w5.drew.setCell ⟨rb, 0, none⟩ (I id)).setCell ⟨rb, 1, none⟩ (I 6)).setCell ⟨rb, 2, none⟩ (.string of)).setCell ⟨rb, 3, none⟩ (.string { data := #[] })).setCell ⟨rb, 4, none⟩ (I 0)).setCell ⟨rb, 5, none⟩ (.string { data := #[] })).setCell ⟨rb, 6, none⟩ (.string { data := #[] })).setCell ⟨rb, 7, none⟩ (I 0))) := (((((((((HGw5.out.drew).setCell HLO.out (I id)).setCell HLO.out (I 6)).setCell HLO.out (.string of)).setCell HLO.out (.string { data := #[] })).setCell HLO.out (I 0)).setCell HLO.out (.string { data := #[] })).setCell HLO.out (.string { data := #[] })).setCell HLO.out (I 0))
  have HS7 : Hid ((∀ o, ((((((((w5.drew.setCell ⟨rb, 0, none⟩ (I id)).setCell ⟨rb, 1, none⟩ (I 6)).setCell ⟨rb, 2, none⟩ (.string of)).setCell ⟨rb, 3, none⟩ (.string { data := #[] })).setCell ⟨rb, 4, none⟩ (I 0)).setCell ⟨rb, 5, none⟩ (.string { data := #[] })).setCell ⟨rb, 6, none⟩ (.string { data := #[] })).setCell ⟨rb, 7, none⟩ (I 0)).cell? ⟨B0, o, none⟩ = ([I id, .string lb, .slice pa pn pc] : List Value)[o]?) ∧ (∀ o, ((((((((w5.drew.setCell ⟨rb, 0, none⟩ (I id)).setCell ⟨rb, 1, none⟩ (I 6)).setCell ⟨rb, 2, none⟩ (.string of)).setCell ⟨rb, 3, none⟩ (.string { data := #[] })).setCell ⟨rb, 4, none⟩ (I 0)).setCell ⟨rb, 5, none⟩ (.string { data := #[] })).setCell ⟨rb, 6, none⟩ (.string { data := #[] })).setCell ⟨rb, 7, none⟩ (I 0)).cell? ⟨r8, o, none⟩ = ([I id, I 6, .string of, .string { data := #[] }, I 0, .string { data := #[] }, .string { data := #[] }, I 0] : List Value)[o]?)) := ⟨((((((((((((((((HNw5.out.G (G.refl w5).drew).off (b := rb) (o := 0) (v := I id) HNE.out.2.2.2)).off (b := rb) (o := 1) (v := I 6) HNE.out.2.2.2)).off (b := rb) (o := 2) (v := .string of) HNE.out.2.2.2)).off (b := rb) (o := 3) (v := .string { data := #[] }) HNE.out.2.2.2)).off (b := rb) (o := 4) (v := I 0) HNE.out.2.2.2)).off (b := rb) (o := 5) (v := .string { data := #[] }) HNE.out.2.2.2)).off (b := rb) (o := 6) (v := .string { data := #[] }) HNE.out.2.2.2)).off (b := rb) (o := 7) (v := I 0) HNE.out.2.2.2).cell, ((((((((((((((((H8w5.out.G (G.refl w5).drew).off (b := rb) (o := 0) (v := I id) HNE.out.2.1.symm)).off (b := rb) (o := 1) (v := I 6) HNE.out.2.1.symm)).off (b := rb) (o := 2) (v := .string of) HNE.out.2.1.symm)).off (b := rb) (o := 3) (v := .string { data := #[] }) HNE.out.2.1.symm)).off (b := rb) (o := 4) (v := I 0) HNE.out.2.1.symm)).off (b := rb) (o := 5) (v := .string { data := #[] }) HNE.out.2.1.symm)).off (b := rb) (o := 6) (v := .string { data := #[] }) HNE.out.2.1.symm)).off (b := rb) (o := 7) (v := I 0) HNE.out.2.1.symm).cell⟩
  clear hrb7
  refine (if_pos rfl).mpr ?_
  refine wp_store_mid 66 _ _ rfl rb 0 #[I id, I 6, .string of, .string { data := #[] }, I 0, .string { data := #[] }, .string { data := #[] }, I 0] rfl rfl HTH.out (by kernel_rfl) (all_oneCell_toArray (cs := [I id, I 6, .string of, .string { data := #[] }, I 0, .string { data := #[] }, .string { data := #[] }, I 0]) (fun v hv => one8 (by rfl) hv)) ?_
  refine hK.out _ _ (⟨HS7.out.1, HS7.out.2, HG7.out⟩) (fun hHeld => ?_)
  clear hK K
  try simp only [Act.put, List.getElem_toArray, List.getElem_cons_zero, List.getElem_cons_succ]
  refine wpAnyH_take (i := 11) (v := ?_) rfl (by kernel_rfl) (by kernel_rfl) (by kernel_rfl) (fun _ _ _ h => h) (Or.inl ⟨by rfl, ?_⟩) hHeld ?_
  rotate_left 1
  · (intro w hSw; (try dsimp only at hSw); go_simp; try with_reducible rfl)
  try simp only [Act.put, List.getElem_toArray, List.getElem_cons_zero, List.getElem_cons_succ, List.setIfInBounds_toArray, List.set_cons_zero, List.set_cons_succ]
  refine wpAnyH_done (by kernel_rfl) ?_ _
  refine NoPanic.normal ?_
  go_wp2_with fail
  exact bodyPost_ret_by (v := .tuple #[.agg #[I id, I 6, .string of, .string { data := #[] }, I 0, .string { data := #[] }, .string { data := #[] }, I 0], .bool _]) (retY _ _ rb _ _ rfl rfl HB7.out rfl) rfl ⟨rfl, HG7.out⟩
set_option maxRecDepth 100000 in
set_option maxHeartbeats 4000000 in
theorem says_unique_t (id : Int) (lb kk of : ByteArray) (bk : Bool) (pa : Option Addr) (pn pc : Nat) (W : World) (HK : Hid (∀ V, G W V → Calls Tryz.prog 104 #[.slice pa pn pc, .string { data := #[107, 105, 110, 100] }] V fun e W' => e = .returned (.tuple #[.string kk, .bool bk]) ∧ G V W')) (ky : ByteArray) (HO : Hid (∀ V, G W V → Calls Tryz.prog 105 #[.slice pa pn pc, .string { data := #[111, 102] }] V fun e W' => e = .returned (.tuple #[.string of, .bool true]) ∧ G V W')) (HY : Hid (∀ V, G W V → Calls Tryz.prog 105 #[.slice pa pn pc, .string { data := #[107, 101, 121] }] V fun e W' => e = .returned (.tuple #[.string ky, .bool true]) ∧ G V W')) (e0 : (kk.toList == [117, 110, 105, 113, 117, 101]) = true) (e1 : (kk.toList == [110, 101, 101, 100, 115]) = false) (e2 : (kk.toList == [111, 110, 108, 121]) = false) : Calls Tryz.prog 68 #[.agg #[I id, .string lb, .slice pa pn pc]] W fun e W' => e = .returned (.tuple #[.agg #[I id, I 1, .string of, .string ky, I 0, .string { data := #[] }, .string { data := #[] }, I 0], .bool ((pn : Int) == 3)]) ∧ G W W' := by
  obtain ⟨w2, hw2⟩ : ∃ w2, w2 = ((W.alloc (.cells #[I id, .string lb, .slice pa pn pc] 69)).alloc (.cells #[I 0, I 0, .string { data := #[] }, .string { data := #[] }, I 0, .string { data := #[] }, .string { data := #[] }, I 0] 66)) := ⟨_, rfl⟩
  obtain ⟨B0, hB0⟩ : ∃ B0, B0 = W.heap.size := ⟨_, rfl⟩
  obtain ⟨rb, hrb⟩ : ∃ rb, rb = B0 + 1 := ⟨_, rfl⟩
  have HGw2 : Hid (G W w2) := by rw [hw2]; exact ((G.refl W).alloc _).alloc _
  have HNw2 : Hid (Blk w2 B0 69 [I id, .string lb, .slice pa pn pc]) := by rw [hw2, hB0]; exact (Blk.new W [I id, .string lb, .slice pa pn pc] 69).G ((G.refl _).alloc _)
  have HRw2 : Hid (Blk w2 rb 66 [I 0, I 0, .string { data := #[] }, .string { data := #[] }, I 0, .string { data := #[] }, .string { data := #[] }, I 0]) := by
    have := Blk.new (W.alloc (.cells #[I id, .string lb, .slice pa pn pc] 69)) [I 0, I 0, .string { data := #[] }, .string { data := #[] }, I 0, .string { data := #[] }, .string { data := #[] }, I 0] 66
    rw [Hid, hw2, hrb, hB0]
    simpa using this
  have HLO : Hid (W.heap.size ≤ rb) := by show _ ≤ _; omega
  have HEW : Hid (((W.alloc (.cells #[I id, .string lb, .slice pa pn pc] 69)).alloc (.cells #[I 0, I 0, .string { data := #[] }, .string { data := #[] }, I 0, .string { data := #[] }, .string { data := #[] }, I 0] 66)) = w2) := hw2.symm
  have HE1 : Hid (W.heap.size = B0) := hB0.symm
  have HE2 : Hid (B0 + 1 = rb) := hrb.symm
  have e0 := ((Blk.new W [I id, .string lb, .slice pa pn pc] 69).G ((G.refl _).alloc (.cells #[I 0, I 0, .string { data := #[] }, .string { data := #[] }, I 0, .string { data := #[] }, .string { data := #[] }, I 0] 66))).cell
  have cN := HNw2.out.cell
  clear hw2 hB0 hrb
  go_enter Tryz.func68, Tryz.ntmps68
  go_wp2_with (first | (rw [HEW.out]; (try rw [HE1.out]); (try rw [HE2.out]); clear HEW e0) | fail)
  try rw [HEW.out]
  try rw [HE1.out]
  try rw [HE2.out]
  clear cN
  refine (HK.out w2 HGw2.out).mono ?_
  rintro e w3 ⟨rfl, hg'⟩
  have HNw3 := hide (HNw2.out.G hg'); have HRw3 := hide (HRw2.out.G hg'); have HGw3 := hide (HGw2.out.trans hg')
  clear hg'
  have cN := HNw3.out.cell
  go_wp2_with fail
  clear cN
  refine (HO.out w3 HGw3.out).mono ?_
  rintro e w4 ⟨rfl, hg'⟩
  have HNw4 := hide (HNw3.out.G hg'); have HRw4 := hide (HRw3.out.G hg'); have HGw4 := hide (HGw3.out.trans hg')
  clear hg'
  obtain ⟨w5, hw⟩ : ∃ w, w = w4.alloc (.cells #[I id, I 0, .string of, .string { data := #[] }, I 0, .string { data := #[] }, .string { data := #[] }, I 0] 66) := ⟨_, rfl⟩
  obtain ⟨r8, hr8⟩ : ∃ r, r = w4.heap.size := ⟨_, rfl⟩
  have hg' : G w4 w5 := by rw [hw]; exact (G.refl _).alloc _
  have H8w5 : Hid (Blk w5 r8 66 [I id, I 0, .string of, .string { data := #[] }, I 0, .string { data := #[] }, .string { data := #[] }, I 0]) := by rw [Hid, hw, hr8]; exact Blk.new w4 [I id, I 0, .string of, .string { data := #[] }, I 0, .string { data := #[] }, .string { data := #[] }, I 0] 66
  have HNw5 := hide (HNw4.out.G hg'); have HRw5 := hide (HRw4.out.G hg'); have HGw5 := hide (HGw4.out.trans hg')
  have HEX : Hid (w4.alloc (.cells #[I id, I 0, .string of, .string { data := #[] }, I 0, .string { data := #[] }, .string { data := #[] }, I 0] 66) = w5) := hw.symm
  have HE8 : Hid (w4.heap.size = r8) := hr8.symm
  have HNE : Hid (B0 ≠ r8 ∧ rb ≠ r8 ∧ W.heap.size ≤ r8 ∧ B0 ≠ rb) := ⟨by have := HNw4.out.lt; omega, by have := HRw4.out.lt; omega, by have := HGw4.out.size; omega, by have := HE2.out; omega⟩
  have cN := HNw4.out.cell
  have cN2 := HNw5.out.cell
  clear hw hr8 hg'
  go_wp2_with (first | (rw [HEX.out]; (try rw [HE8.out]); clear HEX) | fail)
  try rw [HEX.out]
  (try rw [HE8.out])
  clear cN cN2
  refine (HY.out w5 HGw5.out).mono ?_
  rintro e w6 ⟨rfl, hg'⟩
  have HNw6 := hide (HNw5.out.G hg'); have HRw6 := hide (HRw5.out.G hg'); have HGw6 := hide (HGw5.out.trans hg')
  have H8w6 := hide (H8w5.out.G hg')
  clear hg'
  obtain ⟨w7, hw⟩ : ∃ w, w = ((w6.setCell ⟨r8, 3, none⟩ (.string ky)).setCell ⟨r8, 1, none⟩ (I 1)) := ⟨_, rfl⟩
  have H8w7 : Hid (Blk w7 r8 66 [I id, I 1, .string of, .string ky, I 0, .string { data := #[] }, .string { data := #[] }, I 0]) := by rw [hw]; exact ((H8w6.out.set 3 (.string ky)).set 1 (I 1))
  have HNw7 : Hid (Blk w7 B0 69 [I id, .string lb, .slice pa pn pc]) := by rw [hw]; exact ((HNw6.out.off (b := r8) (o := 3) (v := .string ky) HNE.out.1).off (b := r8) (o := 1) (v := I 1) HNE.out.1)
  have HRw7 : Hid (Blk w7 rb 66 [I 0, I 0, .string { data := #[] }, .string { data := #[] }, I 0, .string { data := #[] }, .string { data := #[] }, I 0]) := by rw [hw]; exact ((HRw6.out.off (b := r8) (o := 3) (v := .string ky) HNE.out.2.1).off (b := r8) (o := 1) (v := I 1) HNE.out.2.1)
  have HGw7 : Hid (G W w7) := by rw [hw]; exact ((HGw6.out.setCell HNE.out.2.2.1 (.string ky)).setCell HNE.out.2.2.1 (I 1))
  have HES : Hid (((w6.setCell ⟨r8, 3, none⟩ (.string ky)).setCell ⟨r8, 1, none⟩ (I 1)) = w7) := hw.symm
  clear hw
  have cN := HNw6.out.cell
  have c8 := H8w6.out.cell
  have z8 := H8w6.out.frozen
  have cNx : ∀ o, ((w6.setCell ⟨r8, 3, none⟩ (.string ky)).setCell ⟨r8, 1, none⟩ (I 1)).cell? ⟨B0, o, none⟩ = ([I id, .string lb, .slice pa pn pc] : List Value)[o]? := by rw [HES.out]; exact HNw7.out.cell
  have c8x : ∀ o, ((w6.setCell ⟨r8, 3, none⟩ (.string ky)).setCell ⟨r8, 1, none⟩ (I 1)).cell? ⟨r8, o, none⟩ = ([I id, I 1, .string of, .string ky, I 0, .string { data := #[] }, .string { data := #[] }, I 0] : List Value)[o]? := by rw [HES.out]; exact H8w7.out.cell
  have cNo := HNw7.out.cell
  have c8o := H8w7.out.cell
  go_wp2_with (first | (rw [HES.out]; clear HES) | (rw [HEX.out]; (try rw [HE8.out]); clear HEX) | (rw [HEV.out]; (try rw [HEB.out]); clear HEV) | fail)
  try rw [HEX.out]
  (try rw [HE8.out])
  try rw [HES.out]
  clear cN c8 z8 cNx c8x cNo c8o
  refine wp_region_noPanic ?_
  refine wp_region_held_drew (S := (fun V => (∀ o, V.cell? ⟨B0, o, none⟩ = ([I id, .string lb, .slice pa pn pc] : List Value)[o]?) ∧ (∀ o, V.cell? ⟨r8, o, none⟩ = ([I id, I 1, .string of, .string ky, I 0, .string { data := #[] }, .string { data := #[] }, I 0] : List Value)[o]?) ∧ G W V)) (by kernel_rfl) (⟨(HNw7.out.G (G.refl _).drew).cell, (H8w7.out.G (G.refl _).drew).cell, HGw7.out.drew⟩) (fun hHeld => ?_)
  refine wpAnyH_take (i := 0) (v := ?_) rfl (by kernel_rfl) (by kernel_rfl) (by kernel_rfl) (fun _ _ _ h => h) (Or.inl ⟨by rfl, ?_⟩) hHeld ?_
  rotate_left 1
  · (intro w hSw; obtain ⟨k1, k2, -⟩ := hSw; go_simp; try with_reducible rfl)
  try simp only [Act.put, List.getElem_toArray, List.getElem_cons_zero, List.setIfInBounds_toArray, List.set_cons_zero, List.set_cons_succ]
  refine wpAnyH_take (i := 1) (v := ?_) rfl (by kernel_rfl) (by kernel_rfl) (by kernel_rfl) (fun _ _ _ h => h) (Or.inl ⟨by rfl, ?_⟩) hHeld ?_
  rotate_left 1
  · (intro w hSw; (try dsimp only at hSw); go_simp; try with_reducible rfl)
  try simp only [Act.put, List.getElem_toArray, List.getElem_cons_zero, List.getElem_cons_succ, List.setIfInBounds_toArray, List.set_cons_zero, List.set_cons_succ]
  refine wpAnyH_take (i := 2) (v := ?_) rfl (by kernel_rfl) (by kernel_rfl) (by kernel_rfl) (fun _ _ _ h => h) (Or.inl ⟨by rfl, ?_⟩) hHeld ?_
  rotate_left 1
  · (intro w hSw; (try dsimp only at hSw); go_simp; try with_reducible rfl)
  try simp only [Act.put, List.getElem_toArray, List.getElem_cons_zero, List.getElem_cons_succ, List.setIfInBounds_toArray, List.set_cons_zero, List.set_cons_succ]
  refine wpAnyH_take (i := 3) (v := ?_) rfl (by kernel_rfl) (by kernel_rfl) (by kernel_rfl) (fun _ _ _ h => h) (Or.inl ⟨by rfl, ?_⟩) hHeld ?_
  rotate_left 1
  · (intro w hSw; (try dsimp only at hSw); go_simp; try with_reducible rfl)
  try simp only [Act.put, List.getElem_toArray, List.getElem_cons_zero, List.getElem_cons_succ, List.setIfInBounds_toArray, List.set_cons_zero, List.set_cons_succ]
  refine wpAnyH_take (i := 4) (v := ?_) rfl (by kernel_rfl) (by kernel_rfl) (by kernel_rfl) (fun _ _ _ h => h) (Or.inl ⟨by rfl, ?_⟩) hHeld ?_
  rotate_left 1
  · (intro w hSw; obtain ⟨k1, k2, -⟩ := hSw; go_simp; try with_reducible rfl)
  try simp only [Act.put, List.getElem_toArray, List.getElem_cons_zero, List.getElem_cons_succ, List.setIfInBounds_toArray, List.set_cons_zero, List.set_cons_succ]
  refine wpAnyH_take (i := 5) (v := ?_) rfl (by kernel_rfl) (by kernel_rfl) (by kernel_rfl) (fun _ _ _ h => h) (Or.inl ⟨by rfl, ?_⟩) hHeld ?_
  rotate_left 1
  · (intro w hSw; (try dsimp only at hSw); go_simp; try with_reducible rfl)
  try simp only [Act.put, List.getElem_toArray, List.getElem_cons_zero, List.getElem_cons_succ, List.setIfInBounds_toArray, List.set_cons_zero, List.set_cons_succ]
  refine wpAnyH_take (i := 6) (v := ?_) rfl (by kernel_rfl) (by kernel_rfl) (by kernel_rfl) (fun _ _ _ h => h) (Or.inl ⟨by rfl, ?_⟩) hHeld ?_
  rotate_left 1
  · (intro w hSw; (try dsimp only at hSw); go_simp; try with_reducible rfl)
  try simp only [Act.put, List.getElem_toArray, List.getElem_cons_zero, List.getElem_cons_succ, List.setIfInBounds_toArray, List.set_cons_zero, List.set_cons_succ]
  refine wpAnyH_take (i := 7) (v := ?_) rfl (by kernel_rfl) (by kernel_rfl) (by kernel_rfl) (fun _ _ _ h => h) (Or.inl ⟨by rfl, ?_⟩) hHeld ?_
  rotate_left 1
  · (intro w hSw; (try dsimp only at hSw); go_simp; try with_reducible rfl)
  try simp only [Act.put, List.getElem_toArray, List.getElem_cons_zero, List.getElem_cons_succ, List.setIfInBounds_toArray, List.set_cons_zero, List.set_cons_succ]
  refine wpAnyH_take (i := 8) (v := ?_) rfl (by kernel_rfl) (by kernel_rfl) (by kernel_rfl) (fun _ _ _ h => h) (Or.inl ⟨by rfl, ?_⟩) hHeld ?_
  rotate_left 1
  · (intro w hSw; (try dsimp only at hSw); go_simp; try with_reducible rfl)
  try simp only [Act.put, List.getElem_toArray, List.getElem_cons_zero, List.getElem_cons_succ, List.setIfInBounds_toArray, List.set_cons_zero, List.set_cons_succ]
  refine wpAnyH_take (i := 9) (v := ?_) rfl (by kernel_rfl) (by kernel_rfl) (by kernel_rfl) (fun _ _ _ h => h) (Or.inl ⟨by rfl, ?_⟩) hHeld ?_
  rotate_left 1
  · (intro w hSw; (try dsimp only at hSw); go_simp; try with_reducible rfl)
  try simp only [Act.put, List.getElem_toArray, List.getElem_cons_zero, List.getElem_cons_succ, List.setIfInBounds_toArray, List.set_cons_zero, List.set_cons_succ]
  refine wpAnyH_ready (rs := [10]) (by kernel_rfl) (by simp) (AllReadyH.cons rfl (fun K hK => ?_) AllReadyH.nil)
  clear hHeld
  have hrb7 := HRw7.out.G (G.refl w7).drew
  have HTH : Hid (w7.drew.there rb 0 8) := fun j hj => ⟨by rw [hrb7.cell, List.getElem?_eq_getElem (by simp; omega)]; rfl, hrb7.frozen _⟩
  have HB7 := hide ((((((((hrb7.set 0 (I id)).set 1 (I 1)).set 2 (.string of)).set 3 (.string ky)).set 4 (I 0)).set 5 (.string { data := #[] })).set 6 (.string { data := #[] })).set 7 (I 0))
  have HG7 : Hid (G W ((((((((w7.drew.setCell ⟨rb, 0, none⟩ (I id)).setCell ⟨rb, 1, none⟩ (I 1)).setCell ⟨rb, 2, none⟩ (.string of)).setCell ⟨rb, 3, none⟩ (.string ky)).setCell ⟨rb, 4, none⟩ (I 0)).setCell ⟨rb, 5, none⟩ (.string { data := #[] })).setCell ⟨rb, 6, none⟩ (.string { data := #[] })).setCell ⟨rb, 7, none⟩ (I 0))) := (((((((((HGw7.out.drew).setCell HLO.out (I id)).setCell HLO.out (I 1)).setCell HLO.out (.string of)).setCell HLO.out (.string ky)).setCell HLO.out (I 0)).setCell HLO.out (.string { data := #[] })).setCell HLO.out (.string { data := #[] })).setCell HLO.out (I 0))
  have HS7 : Hid ((∀ o, ((((((((w7.drew.setCell ⟨rb, 0, none⟩ (I id)).setCell ⟨rb, 1, none⟩ (I 1)).setCell ⟨rb, 2, none⟩ (.string of)).setCell ⟨rb, 3, none⟩ (.string ky)).setCell ⟨rb, 4, none⟩ (I 0)).setCell ⟨rb, 5, none⟩ (.string { data := #[] })).setCell ⟨rb, 6, none⟩ (.string { data := #[] })).setCell ⟨rb, 7, none⟩ (I 0)).cell? ⟨B0, o, none⟩ = ([I id, .string lb, .slice pa pn pc] : List Value)[o]?) ∧ (∀ o, ((((((((w7.drew.setCell ⟨rb, 0, none⟩ (I id)).setCell ⟨rb, 1, none⟩ (I 1)).setCell ⟨rb, 2, none⟩ (.string of)).setCell ⟨rb, 3, none⟩ (.string ky)).setCell ⟨rb, 4, none⟩ (I 0)).setCell ⟨rb, 5, none⟩ (.string { data := #[] })).setCell ⟨rb, 6, none⟩ (.string { data := #[] })).setCell ⟨rb, 7, none⟩ (I 0)).cell? ⟨r8, o, none⟩ = ([I id, I 1, .string of, .string ky, I 0, .string { data := #[] }, .string { data := #[] }, I 0] : List Value)[o]?)) := ⟨((((((((((((((((HNw7.out.G (G.refl w7).drew).off (b := rb) (o := 0) (v := I id) HNE.out.2.2.2)).off (b := rb) (o := 1) (v := I 1) HNE.out.2.2.2)).off (b := rb) (o := 2) (v := .string of) HNE.out.2.2.2)).off (b := rb) (o := 3) (v := .string ky) HNE.out.2.2.2)).off (b := rb) (o := 4) (v := I 0) HNE.out.2.2.2)).off (b := rb) (o := 5) (v := .string { data := #[] }) HNE.out.2.2.2)).off (b := rb) (o := 6) (v := .string { data := #[] }) HNE.out.2.2.2)).off (b := rb) (o := 7) (v := I 0) HNE.out.2.2.2).cell, ((((((((((((((((H8w7.out.G (G.refl w7).drew).off (b := rb) (o := 0) (v := I id) HNE.out.2.1.symm)).off (b := rb) (o := 1) (v := I 1) HNE.out.2.1.symm)).off (b := rb) (o := 2) (v := .string of) HNE.out.2.1.symm)).off (b := rb) (o := 3) (v := .string ky) HNE.out.2.1.symm)).off (b := rb) (o := 4) (v := I 0) HNE.out.2.1.symm)).off (b := rb) (o := 5) (v := .string { data := #[] }) HNE.out.2.1.symm)).off (b := rb) (o := 6) (v := .string { data := #[] }) HNE.out.2.1.symm)).off (b := rb) (o := 7) (v := I 0) HNE.out.2.1.symm).cell⟩
  clear hrb7
  refine (if_pos rfl).mpr ?_
  refine wp_store_mid 66 _ _ rfl rb 0 #[I id, I 1, .string of, .string ky, I 0, .string { data := #[] }, .string { data := #[] }, I 0] rfl rfl HTH.out (by kernel_rfl) (all_oneCell_toArray (cs := [I id, I 1, .string of, .string ky, I 0, .string { data := #[] }, .string { data := #[] }, I 0]) (fun v hv => one8 (by rfl) hv)) ?_
  refine hK.out _ _ (⟨HS7.out.1, HS7.out.2, HG7.out⟩) (fun hHeld => ?_)
  clear hK K
  try simp only [Act.put, List.getElem_toArray, List.getElem_cons_zero, List.getElem_cons_succ]
  refine wpAnyH_take (i := 11) (v := ?_) rfl (by kernel_rfl) (by kernel_rfl) (by kernel_rfl) (fun _ _ _ h => h) (Or.inl ⟨by rfl, ?_⟩) hHeld ?_
  rotate_left 1
  · (intro w hSw; (try dsimp only at hSw); go_simp; try with_reducible rfl)
  try simp only [Act.put, List.getElem_toArray, List.getElem_cons_zero, List.getElem_cons_succ, List.setIfInBounds_toArray, List.set_cons_zero, List.set_cons_succ]
  refine wpAnyH_done (by kernel_rfl) ?_ _
  refine NoPanic.normal ?_
  go_wp2_with fail
  exact bodyPost_ret_by (v := .tuple #[.agg #[I id, I 1, .string of, .string ky, I 0, .string { data := #[] }, .string { data := #[] }, I 0], .bool _]) (retY _ _ rb _ _ rfl rfl HB7.out rfl) rfl ⟨rfl, HG7.out⟩
set_option maxRecDepth 100000 in
set_option maxHeartbeats 4000000 in
theorem says_unique_f (id : Int) (lb kk of : ByteArray) (bk : Bool) (pa : Option Addr) (pn pc : Nat) (W : World) (HK : Hid (∀ V, G W V → Calls Tryz.prog 104 #[.slice pa pn pc, .string { data := #[107, 105, 110, 100] }] V fun e W' => e = .returned (.tuple #[.string kk, .bool bk]) ∧ G V W')) (ky : ByteArray) (HO : Hid (∀ V, G W V → Calls Tryz.prog 105 #[.slice pa pn pc, .string { data := #[111, 102] }] V fun e W' => e = .returned (.tuple #[.string of, .bool true]) ∧ G V W')) (HY : Hid (∀ V, G W V → Calls Tryz.prog 105 #[.slice pa pn pc, .string { data := #[107, 101, 121] }] V fun e W' => e = .returned (.tuple #[.string ky, .bool false]) ∧ G V W')) (e0 : (kk.toList == [117, 110, 105, 113, 117, 101]) = true) (e1 : (kk.toList == [110, 101, 101, 100, 115]) = false) (e2 : (kk.toList == [111, 110, 108, 121]) = false) : Calls Tryz.prog 68 #[.agg #[I id, .string lb, .slice pa pn pc]] W fun e W' => e = .returned (.tuple #[.agg #[I id, I 1, .string of, .string ky, I 0, .string { data := #[] }, .string { data := #[] }, I 0], .bool false]) ∧ G W W' := by
  obtain ⟨w2, hw2⟩ : ∃ w2, w2 = ((W.alloc (.cells #[I id, .string lb, .slice pa pn pc] 69)).alloc (.cells #[I 0, I 0, .string { data := #[] }, .string { data := #[] }, I 0, .string { data := #[] }, .string { data := #[] }, I 0] 66)) := ⟨_, rfl⟩
  obtain ⟨B0, hB0⟩ : ∃ B0, B0 = W.heap.size := ⟨_, rfl⟩
  obtain ⟨rb, hrb⟩ : ∃ rb, rb = B0 + 1 := ⟨_, rfl⟩
  have HGw2 : Hid (G W w2) := by rw [hw2]; exact ((G.refl W).alloc _).alloc _
  have HNw2 : Hid (Blk w2 B0 69 [I id, .string lb, .slice pa pn pc]) := by rw [hw2, hB0]; exact (Blk.new W [I id, .string lb, .slice pa pn pc] 69).G ((G.refl _).alloc _)
  have HRw2 : Hid (Blk w2 rb 66 [I 0, I 0, .string { data := #[] }, .string { data := #[] }, I 0, .string { data := #[] }, .string { data := #[] }, I 0]) := by
    have := Blk.new (W.alloc (.cells #[I id, .string lb, .slice pa pn pc] 69)) [I 0, I 0, .string { data := #[] }, .string { data := #[] }, I 0, .string { data := #[] }, .string { data := #[] }, I 0] 66
    rw [Hid, hw2, hrb, hB0]
    simpa using this
  have HLO : Hid (W.heap.size ≤ rb) := by show _ ≤ _; omega
  have HEW : Hid (((W.alloc (.cells #[I id, .string lb, .slice pa pn pc] 69)).alloc (.cells #[I 0, I 0, .string { data := #[] }, .string { data := #[] }, I 0, .string { data := #[] }, .string { data := #[] }, I 0] 66)) = w2) := hw2.symm
  have HE1 : Hid (W.heap.size = B0) := hB0.symm
  have HE2 : Hid (B0 + 1 = rb) := hrb.symm
  have e0 := ((Blk.new W [I id, .string lb, .slice pa pn pc] 69).G ((G.refl _).alloc (.cells #[I 0, I 0, .string { data := #[] }, .string { data := #[] }, I 0, .string { data := #[] }, .string { data := #[] }, I 0] 66))).cell
  have cN := HNw2.out.cell
  clear hw2 hB0 hrb
  go_enter Tryz.func68, Tryz.ntmps68
  go_wp2_with (first | (rw [HEW.out]; (try rw [HE1.out]); (try rw [HE2.out]); clear HEW e0) | fail)
  try rw [HEW.out]
  try rw [HE1.out]
  try rw [HE2.out]
  clear cN
  refine (HK.out w2 HGw2.out).mono ?_
  rintro e w3 ⟨rfl, hg'⟩
  have HNw3 := hide (HNw2.out.G hg'); have HRw3 := hide (HRw2.out.G hg'); have HGw3 := hide (HGw2.out.trans hg')
  clear hg'
  have cN := HNw3.out.cell
  go_wp2_with fail
  clear cN
  refine (HO.out w3 HGw3.out).mono ?_
  rintro e w4 ⟨rfl, hg'⟩
  have HNw4 := hide (HNw3.out.G hg'); have HRw4 := hide (HRw3.out.G hg'); have HGw4 := hide (HGw3.out.trans hg')
  clear hg'
  obtain ⟨w5, hw⟩ : ∃ w, w = w4.alloc (.cells #[I id, I 0, .string of, .string { data := #[] }, I 0, .string { data := #[] }, .string { data := #[] }, I 0] 66) := ⟨_, rfl⟩
  obtain ⟨r8, hr8⟩ : ∃ r, r = w4.heap.size := ⟨_, rfl⟩
  have hg' : G w4 w5 := by rw [hw]; exact (G.refl _).alloc _
  have H8w5 : Hid (Blk w5 r8 66 [I id, I 0, .string of, .string { data := #[] }, I 0, .string { data := #[] }, .string { data := #[] }, I 0]) := by rw [Hid, hw, hr8]; exact Blk.new w4 [I id, I 0, .string of, .string { data := #[] }, I 0, .string { data := #[] }, .string { data := #[] }, I 0] 66
  have HNw5 := hide (HNw4.out.G hg'); have HRw5 := hide (HRw4.out.G hg'); have HGw5 := hide (HGw4.out.trans hg')
  have HEX : Hid (w4.alloc (.cells #[I id, I 0, .string of, .string { data := #[] }, I 0, .string { data := #[] }, .string { data := #[] }, I 0] 66) = w5) := hw.symm
  have HE8 : Hid (w4.heap.size = r8) := hr8.symm
  have HNE : Hid (B0 ≠ r8 ∧ rb ≠ r8 ∧ W.heap.size ≤ r8 ∧ B0 ≠ rb) := ⟨by have := HNw4.out.lt; omega, by have := HRw4.out.lt; omega, by have := HGw4.out.size; omega, by have := HE2.out; omega⟩
  have cN := HNw4.out.cell
  have cN2 := HNw5.out.cell
  clear hw hr8 hg'
  go_wp2_with (first | (rw [HEX.out]; (try rw [HE8.out]); clear HEX) | fail)
  try rw [HEX.out]
  (try rw [HE8.out])
  clear cN cN2
  refine (HY.out w5 HGw5.out).mono ?_
  rintro e w6 ⟨rfl, hg'⟩
  have HNw6 := hide (HNw5.out.G hg'); have HRw6 := hide (HRw5.out.G hg'); have HGw6 := hide (HGw5.out.trans hg')
  have H8w6 := hide (H8w5.out.G hg')
  clear hg'
  obtain ⟨w7, hw⟩ : ∃ w, w = ((w6.setCell ⟨r8, 3, none⟩ (.string ky)).setCell ⟨r8, 1, none⟩ (I 1)) := ⟨_, rfl⟩
  have H8w7 : Hid (Blk w7 r8 66 [I id, I 1, .string of, .string ky, I 0, .string { data := #[] }, .string { data := #[] }, I 0]) := by rw [hw]; exact ((H8w6.out.set 3 (.string ky)).set 1 (I 1))
  have HNw7 : Hid (Blk w7 B0 69 [I id, .string lb, .slice pa pn pc]) := by rw [hw]; exact ((HNw6.out.off (b := r8) (o := 3) (v := .string ky) HNE.out.1).off (b := r8) (o := 1) (v := I 1) HNE.out.1)
  have HRw7 : Hid (Blk w7 rb 66 [I 0, I 0, .string { data := #[] }, .string { data := #[] }, I 0, .string { data := #[] }, .string { data := #[] }, I 0]) := by rw [hw]; exact ((HRw6.out.off (b := r8) (o := 3) (v := .string ky) HNE.out.2.1).off (b := r8) (o := 1) (v := I 1) HNE.out.2.1)
  have HGw7 : Hid (G W w7) := by rw [hw]; exact ((HGw6.out.setCell HNE.out.2.2.1 (.string ky)).setCell HNE.out.2.2.1 (I 1))
  have HES : Hid (((w6.setCell ⟨r8, 3, none⟩ (.string ky)).setCell ⟨r8, 1, none⟩ (I 1)) = w7) := hw.symm
  clear hw
  have cN := HNw6.out.cell
  have c8 := H8w6.out.cell
  have z8 := H8w6.out.frozen
  have cNx : ∀ o, ((w6.setCell ⟨r8, 3, none⟩ (.string ky)).setCell ⟨r8, 1, none⟩ (I 1)).cell? ⟨B0, o, none⟩ = ([I id, .string lb, .slice pa pn pc] : List Value)[o]? := by rw [HES.out]; exact HNw7.out.cell
  have c8x : ∀ o, ((w6.setCell ⟨r8, 3, none⟩ (.string ky)).setCell ⟨r8, 1, none⟩ (I 1)).cell? ⟨r8, o, none⟩ = ([I id, I 1, .string of, .string ky, I 0, .string { data := #[] }, .string { data := #[] }, I 0] : List Value)[o]? := by rw [HES.out]; exact H8w7.out.cell
  have cNo := HNw7.out.cell
  have c8o := H8w7.out.cell
  go_wp2_with (first | (rw [HES.out]; clear HES) | (rw [HEX.out]; (try rw [HE8.out]); clear HEX) | (rw [HEV.out]; (try rw [HEB.out]); clear HEV) | fail)
  try rw [HEX.out]
  (try rw [HE8.out])
  try rw [HES.out]
  clear cN c8 z8 cNx c8x cNo c8o
  refine wp_region_noPanic ?_
  refine wp_region_held_drew (S := (fun V => (∀ o, V.cell? ⟨B0, o, none⟩ = ([I id, .string lb, .slice pa pn pc] : List Value)[o]?) ∧ (∀ o, V.cell? ⟨r8, o, none⟩ = ([I id, I 1, .string of, .string ky, I 0, .string { data := #[] }, .string { data := #[] }, I 0] : List Value)[o]?) ∧ G W V)) (by kernel_rfl) (⟨(HNw7.out.G (G.refl _).drew).cell, (H8w7.out.G (G.refl _).drew).cell, HGw7.out.drew⟩) (fun hHeld => ?_)
  refine wpAnyH_take (i := 0) (v := ?_) rfl (by kernel_rfl) (by kernel_rfl) (by kernel_rfl) (fun _ _ _ h => h) (Or.inl ⟨by rfl, ?_⟩) hHeld ?_
  rotate_left 1
  · (intro w hSw; obtain ⟨k1, k2, -⟩ := hSw; go_simp; try with_reducible rfl)
  try simp only [Act.put, List.getElem_toArray, List.getElem_cons_zero, List.setIfInBounds_toArray, List.set_cons_zero, List.set_cons_succ]
  refine wpAnyH_take (i := 1) (v := ?_) rfl (by kernel_rfl) (by kernel_rfl) (by kernel_rfl) (fun _ _ _ h => h) (Or.inl ⟨by rfl, ?_⟩) hHeld ?_
  rotate_left 1
  · (intro w hSw; (try dsimp only at hSw); go_simp; try with_reducible rfl)
  try simp only [Act.put, List.getElem_toArray, List.getElem_cons_zero, List.getElem_cons_succ, List.setIfInBounds_toArray, List.set_cons_zero, List.set_cons_succ]
  refine wpAnyH_take (i := 2) (v := ?_) rfl (by kernel_rfl) (by kernel_rfl) (by kernel_rfl) (fun _ _ _ h => h) (Or.inl ⟨by rfl, ?_⟩) hHeld ?_
  rotate_left 1
  · (intro w hSw; (try dsimp only at hSw); go_simp; try with_reducible rfl)
  try simp only [Act.put, List.getElem_toArray, List.getElem_cons_zero, List.getElem_cons_succ, List.setIfInBounds_toArray, List.set_cons_zero, List.set_cons_succ]
  refine wpAnyH_take (i := 3) (v := undef) rfl (by kernel_rfl) (by kernel_rfl) (by kernel_rfl) (fun _ _ _ h => h) (Or.inr ⟨by rfl, rfl⟩) hHeld ?_
  try simp only [Act.put, List.getElem_toArray, List.getElem_cons_zero, List.getElem_cons_succ, List.setIfInBounds_toArray, List.set_cons_zero, List.set_cons_succ]
  refine wpAnyH_take (i := 4) (v := undef) rfl (by kernel_rfl) (by kernel_rfl) (by kernel_rfl) (fun _ _ _ h => h) (Or.inr ⟨by rfl, rfl⟩) hHeld ?_
  try simp only [Act.put, List.getElem_toArray, List.getElem_cons_zero, List.getElem_cons_succ, List.setIfInBounds_toArray, List.set_cons_zero, List.set_cons_succ]
  refine wpAnyH_take (i := 5) (v := undef) rfl (by kernel_rfl) (by kernel_rfl) (by kernel_rfl) (fun _ _ _ h => h) (Or.inr ⟨by rfl, rfl⟩) hHeld ?_
  try simp only [Act.put, List.getElem_toArray, List.getElem_cons_zero, List.getElem_cons_succ, List.setIfInBounds_toArray, List.set_cons_zero, List.set_cons_succ]
  refine wpAnyH_take (i := 6) (v := undef) rfl (by kernel_rfl) (by kernel_rfl) (by kernel_rfl) (fun _ _ _ h => h) (Or.inr ⟨by rfl, rfl⟩) hHeld ?_
  try simp only [Act.put, List.getElem_toArray, List.getElem_cons_zero, List.getElem_cons_succ, List.setIfInBounds_toArray, List.set_cons_zero, List.set_cons_succ]
  refine wpAnyH_take (i := 7) (v := undef) rfl (by kernel_rfl) (by kernel_rfl) (by kernel_rfl) (fun _ _ _ h => h) (Or.inr ⟨by rfl, rfl⟩) hHeld ?_
  try simp only [Act.put, List.getElem_toArray, List.getElem_cons_zero, List.getElem_cons_succ, List.setIfInBounds_toArray, List.set_cons_zero, List.set_cons_succ]
  refine wpAnyH_take (i := 8) (v := undef) rfl (by kernel_rfl) (by kernel_rfl) (by kernel_rfl) (fun _ _ _ h => h) (Or.inr ⟨by rfl, rfl⟩) hHeld ?_
  try simp only [Act.put, List.getElem_toArray, List.getElem_cons_zero, List.getElem_cons_succ, List.setIfInBounds_toArray, List.set_cons_zero, List.set_cons_succ]
  refine wpAnyH_take (i := 9) (v := ?_) rfl (by kernel_rfl) (by kernel_rfl) (by kernel_rfl) (fun _ _ _ h => h) (Or.inl ⟨by rfl, ?_⟩) hHeld ?_
  rotate_left 1
  · (intro w hSw; (try dsimp only at hSw); go_simp; try with_reducible rfl)
  try simp only [Act.put, List.getElem_toArray, List.getElem_cons_zero, List.getElem_cons_succ, List.setIfInBounds_toArray, List.set_cons_zero, List.set_cons_succ]
  refine wpAnyH_ready (rs := [10]) (by kernel_rfl) (by simp) (AllReadyH.cons rfl (fun K hK => ?_) AllReadyH.nil)
  clear hHeld
  have hrb7 := HRw7.out.G (G.refl w7).drew
  have HTH : Hid (w7.drew.there rb 0 8) := fun j hj => ⟨by rw [hrb7.cell, List.getElem?_eq_getElem (by simp; omega)]; rfl, hrb7.frozen _⟩
  have HB7 := hide ((((((((hrb7.set 0 (I id)).set 1 (I 1)).set 2 (.string of)).set 3 (.string ky)).set 4 (I 0)).set 5 (.string { data := #[] })).set 6 (.string { data := #[] })).set 7 (I 0))
  have HG7 : Hid (G W ((((((((w7.drew.setCell ⟨rb, 0, none⟩ (I id)).setCell ⟨rb, 1, none⟩ (I 1)).setCell ⟨rb, 2, none⟩ (.string of)).setCell ⟨rb, 3, none⟩ (.string ky)).setCell ⟨rb, 4, none⟩ (I 0)).setCell ⟨rb, 5, none⟩ (.string { data := #[] })).setCell ⟨rb, 6, none⟩ (.string { data := #[] })).setCell ⟨rb, 7, none⟩ (I 0))) := (((((((((HGw7.out.drew).setCell HLO.out (I id)).setCell HLO.out (I 1)).setCell HLO.out (.string of)).setCell HLO.out (.string ky)).setCell HLO.out (I 0)).setCell HLO.out (.string { data := #[] })).setCell HLO.out (.string { data := #[] })).setCell HLO.out (I 0))
  have HS7 : Hid ((∀ o, ((((((((w7.drew.setCell ⟨rb, 0, none⟩ (I id)).setCell ⟨rb, 1, none⟩ (I 1)).setCell ⟨rb, 2, none⟩ (.string of)).setCell ⟨rb, 3, none⟩ (.string ky)).setCell ⟨rb, 4, none⟩ (I 0)).setCell ⟨rb, 5, none⟩ (.string { data := #[] })).setCell ⟨rb, 6, none⟩ (.string { data := #[] })).setCell ⟨rb, 7, none⟩ (I 0)).cell? ⟨B0, o, none⟩ = ([I id, .string lb, .slice pa pn pc] : List Value)[o]?) ∧ (∀ o, ((((((((w7.drew.setCell ⟨rb, 0, none⟩ (I id)).setCell ⟨rb, 1, none⟩ (I 1)).setCell ⟨rb, 2, none⟩ (.string of)).setCell ⟨rb, 3, none⟩ (.string ky)).setCell ⟨rb, 4, none⟩ (I 0)).setCell ⟨rb, 5, none⟩ (.string { data := #[] })).setCell ⟨rb, 6, none⟩ (.string { data := #[] })).setCell ⟨rb, 7, none⟩ (I 0)).cell? ⟨r8, o, none⟩ = ([I id, I 1, .string of, .string ky, I 0, .string { data := #[] }, .string { data := #[] }, I 0] : List Value)[o]?)) := ⟨((((((((((((((((HNw7.out.G (G.refl w7).drew).off (b := rb) (o := 0) (v := I id) HNE.out.2.2.2)).off (b := rb) (o := 1) (v := I 1) HNE.out.2.2.2)).off (b := rb) (o := 2) (v := .string of) HNE.out.2.2.2)).off (b := rb) (o := 3) (v := .string ky) HNE.out.2.2.2)).off (b := rb) (o := 4) (v := I 0) HNE.out.2.2.2)).off (b := rb) (o := 5) (v := .string { data := #[] }) HNE.out.2.2.2)).off (b := rb) (o := 6) (v := .string { data := #[] }) HNE.out.2.2.2)).off (b := rb) (o := 7) (v := I 0) HNE.out.2.2.2).cell, ((((((((((((((((H8w7.out.G (G.refl w7).drew).off (b := rb) (o := 0) (v := I id) HNE.out.2.1.symm)).off (b := rb) (o := 1) (v := I 1) HNE.out.2.1.symm)).off (b := rb) (o := 2) (v := .string of) HNE.out.2.1.symm)).off (b := rb) (o := 3) (v := .string ky) HNE.out.2.1.symm)).off (b := rb) (o := 4) (v := I 0) HNE.out.2.1.symm)).off (b := rb) (o := 5) (v := .string { data := #[] }) HNE.out.2.1.symm)).off (b := rb) (o := 6) (v := .string { data := #[] }) HNE.out.2.1.symm)).off (b := rb) (o := 7) (v := I 0) HNE.out.2.1.symm).cell⟩
  clear hrb7
  refine (if_pos rfl).mpr ?_
  refine wp_store_mid 66 _ _ rfl rb 0 #[I id, I 1, .string of, .string ky, I 0, .string { data := #[] }, .string { data := #[] }, I 0] rfl rfl HTH.out (by kernel_rfl) (all_oneCell_toArray (cs := [I id, I 1, .string of, .string ky, I 0, .string { data := #[] }, .string { data := #[] }, I 0]) (fun v hv => one8 (by rfl) hv)) ?_
  refine hK.out _ _ (⟨HS7.out.1, HS7.out.2, HG7.out⟩) (fun hHeld => ?_)
  clear hK K
  try simp only [Act.put, List.getElem_toArray, List.getElem_cons_zero, List.getElem_cons_succ]
  refine wpAnyH_take (i := 11) (v := ?_) rfl (by kernel_rfl) (by kernel_rfl) (by kernel_rfl) (fun _ _ _ h => h) (Or.inl ⟨by rfl, ?_⟩) hHeld ?_
  rotate_left 1
  · (intro w hSw; (try dsimp only at hSw); go_simp; try with_reducible rfl)
  try simp only [Act.put, List.getElem_toArray, List.getElem_cons_zero, List.getElem_cons_succ, List.setIfInBounds_toArray, List.set_cons_zero, List.set_cons_succ]
  refine wpAnyH_done (by kernel_rfl) ?_ _
  refine NoPanic.normal ?_
  go_wp2_with fail
  exact bodyPost_ret_by (v := .tuple #[.agg #[I id, I 1, .string of, .string ky, I 0, .string { data := #[] }, .string { data := #[] }, I 0], .bool false]) (retY _ _ rb _ _ rfl rfl HB7.out rfl) rfl ⟨rfl, HG7.out⟩
set_option maxRecDepth 100000 in
set_option maxHeartbeats 4000000 in
theorem says_needs_t (id : Int) (lb kk of : ByteArray) (bk : Bool) (pa : Option Addr) (pn pc : Nat) (W : World) (HK : Hid (∀ V, G W V → Calls Tryz.prog 104 #[.slice pa pn pc, .string { data := #[107, 105, 110, 100] }] V fun e W' => e = .returned (.tuple #[.string kk, .bool bk]) ∧ G V W')) (ky : ByteArray) (HO : Hid (∀ V, G W V → Calls Tryz.prog 105 #[.slice pa pn pc, .string { data := #[111, 102] }] V fun e W' => e = .returned (.tuple #[.string of, .bool true]) ∧ G V W')) (HY : Hid (∀ V, G W V → Calls Tryz.prog 105 #[.slice pa pn pc, .string { data := #[107, 101, 121] }] V fun e W' => e = .returned (.tuple #[.string ky, .bool true]) ∧ G V W')) (e0 : (kk.toList == [117, 110, 105, 113, 117, 101]) = false) (e1 : (kk.toList == [110, 101, 101, 100, 115]) = true) (e2 : (kk.toList == [111, 110, 108, 121]) = false) : Calls Tryz.prog 68 #[.agg #[I id, .string lb, .slice pa pn pc]] W fun e W' => e = .returned (.tuple #[.agg #[I id, I 2, .string of, .string ky, I 0, .string { data := #[] }, .string { data := #[] }, I 0], .bool ((pn : Int) == 3)]) ∧ G W W' := by
  obtain ⟨w2, hw2⟩ : ∃ w2, w2 = ((W.alloc (.cells #[I id, .string lb, .slice pa pn pc] 69)).alloc (.cells #[I 0, I 0, .string { data := #[] }, .string { data := #[] }, I 0, .string { data := #[] }, .string { data := #[] }, I 0] 66)) := ⟨_, rfl⟩
  obtain ⟨B0, hB0⟩ : ∃ B0, B0 = W.heap.size := ⟨_, rfl⟩
  obtain ⟨rb, hrb⟩ : ∃ rb, rb = B0 + 1 := ⟨_, rfl⟩
  have HGw2 : Hid (G W w2) := by rw [hw2]; exact ((G.refl W).alloc _).alloc _
  have HNw2 : Hid (Blk w2 B0 69 [I id, .string lb, .slice pa pn pc]) := by rw [hw2, hB0]; exact (Blk.new W [I id, .string lb, .slice pa pn pc] 69).G ((G.refl _).alloc _)
  have HRw2 : Hid (Blk w2 rb 66 [I 0, I 0, .string { data := #[] }, .string { data := #[] }, I 0, .string { data := #[] }, .string { data := #[] }, I 0]) := by
    have := Blk.new (W.alloc (.cells #[I id, .string lb, .slice pa pn pc] 69)) [I 0, I 0, .string { data := #[] }, .string { data := #[] }, I 0, .string { data := #[] }, .string { data := #[] }, I 0] 66
    rw [Hid, hw2, hrb, hB0]
    simpa using this
  have HLO : Hid (W.heap.size ≤ rb) := by show _ ≤ _; omega
  have HEW : Hid (((W.alloc (.cells #[I id, .string lb, .slice pa pn pc] 69)).alloc (.cells #[I 0, I 0, .string { data := #[] }, .string { data := #[] }, I 0, .string { data := #[] }, .string { data := #[] }, I 0] 66)) = w2) := hw2.symm
  have HE1 : Hid (W.heap.size = B0) := hB0.symm
  have HE2 : Hid (B0 + 1 = rb) := hrb.symm
  have e0 := ((Blk.new W [I id, .string lb, .slice pa pn pc] 69).G ((G.refl _).alloc (.cells #[I 0, I 0, .string { data := #[] }, .string { data := #[] }, I 0, .string { data := #[] }, .string { data := #[] }, I 0] 66))).cell
  have cN := HNw2.out.cell
  clear hw2 hB0 hrb
  go_enter Tryz.func68, Tryz.ntmps68
  go_wp2_with (first | (rw [HEW.out]; (try rw [HE1.out]); (try rw [HE2.out]); clear HEW e0) | fail)
  try rw [HEW.out]
  try rw [HE1.out]
  try rw [HE2.out]
  clear cN
  refine (HK.out w2 HGw2.out).mono ?_
  rintro e w3 ⟨rfl, hg'⟩
  have HNw3 := hide (HNw2.out.G hg'); have HRw3 := hide (HRw2.out.G hg'); have HGw3 := hide (HGw2.out.trans hg')
  clear hg'
  have cN := HNw3.out.cell
  go_wp2_with fail
  clear cN
  refine (HO.out w3 HGw3.out).mono ?_
  rintro e w4 ⟨rfl, hg'⟩
  have HNw4 := hide (HNw3.out.G hg'); have HRw4 := hide (HRw3.out.G hg'); have HGw4 := hide (HGw3.out.trans hg')
  clear hg'
  obtain ⟨w5, hw⟩ : ∃ w, w = w4.alloc (.cells #[I id, I 0, .string of, .string { data := #[] }, I 0, .string { data := #[] }, .string { data := #[] }, I 0] 66) := ⟨_, rfl⟩
  obtain ⟨r8, hr8⟩ : ∃ r, r = w4.heap.size := ⟨_, rfl⟩
  have hg' : G w4 w5 := by rw [hw]; exact (G.refl _).alloc _
  have H8w5 : Hid (Blk w5 r8 66 [I id, I 0, .string of, .string { data := #[] }, I 0, .string { data := #[] }, .string { data := #[] }, I 0]) := by rw [Hid, hw, hr8]; exact Blk.new w4 [I id, I 0, .string of, .string { data := #[] }, I 0, .string { data := #[] }, .string { data := #[] }, I 0] 66
  have HNw5 := hide (HNw4.out.G hg'); have HRw5 := hide (HRw4.out.G hg'); have HGw5 := hide (HGw4.out.trans hg')
  have HEX : Hid (w4.alloc (.cells #[I id, I 0, .string of, .string { data := #[] }, I 0, .string { data := #[] }, .string { data := #[] }, I 0] 66) = w5) := hw.symm
  have HE8 : Hid (w4.heap.size = r8) := hr8.symm
  have HNE : Hid (B0 ≠ r8 ∧ rb ≠ r8 ∧ W.heap.size ≤ r8 ∧ B0 ≠ rb) := ⟨by have := HNw4.out.lt; omega, by have := HRw4.out.lt; omega, by have := HGw4.out.size; omega, by have := HE2.out; omega⟩
  have cN := HNw4.out.cell
  have cN2 := HNw5.out.cell
  clear hw hr8 hg'
  go_wp2_with (first | (rw [HEX.out]; (try rw [HE8.out]); clear HEX) | fail)
  try rw [HEX.out]
  (try rw [HE8.out])
  clear cN cN2
  refine (HY.out w5 HGw5.out).mono ?_
  rintro e w6 ⟨rfl, hg'⟩
  have HNw6 := hide (HNw5.out.G hg'); have HRw6 := hide (HRw5.out.G hg'); have HGw6 := hide (HGw5.out.trans hg')
  have H8w6 := hide (H8w5.out.G hg')
  clear hg'
  obtain ⟨w7, hw⟩ : ∃ w, w = (((w6.setCell ⟨r8, 3, none⟩ (.string ky)).setCell ⟨r8, 1, none⟩ (I 1)).setCell ⟨r8, 1, none⟩ (I 2)) := ⟨_, rfl⟩
  have H8w7 : Hid (Blk w7 r8 66 [I id, I 2, .string of, .string ky, I 0, .string { data := #[] }, .string { data := #[] }, I 0]) := by rw [hw]; exact (((H8w6.out.set 3 (.string ky)).set 1 (I 1)).set 1 (I 2))
  have HNw7 : Hid (Blk w7 B0 69 [I id, .string lb, .slice pa pn pc]) := by rw [hw]; exact (((HNw6.out.off (b := r8) (o := 3) (v := .string ky) HNE.out.1).off (b := r8) (o := 1) (v := I 1) HNE.out.1).off (b := r8) (o := 1) (v := I 2) HNE.out.1)
  have HRw7 : Hid (Blk w7 rb 66 [I 0, I 0, .string { data := #[] }, .string { data := #[] }, I 0, .string { data := #[] }, .string { data := #[] }, I 0]) := by rw [hw]; exact (((HRw6.out.off (b := r8) (o := 3) (v := .string ky) HNE.out.2.1).off (b := r8) (o := 1) (v := I 1) HNE.out.2.1).off (b := r8) (o := 1) (v := I 2) HNE.out.2.1)
  have HGw7 : Hid (G W w7) := by rw [hw]; exact (((HGw6.out.setCell HNE.out.2.2.1 (.string ky)).setCell HNE.out.2.2.1 (I 1)).setCell HNE.out.2.2.1 (I 2))
  have HES : Hid ((((w6.setCell ⟨r8, 3, none⟩ (.string ky)).setCell ⟨r8, 1, none⟩ (I 1)).setCell ⟨r8, 1, none⟩ (I 2)) = w7) := hw.symm
  clear hw
  have cN := HNw6.out.cell
  have c8 := H8w6.out.cell
  have z8 := H8w6.out.frozen
  have cNx : ∀ o, (((w6.setCell ⟨r8, 3, none⟩ (.string ky)).setCell ⟨r8, 1, none⟩ (I 1)).setCell ⟨r8, 1, none⟩ (I 2)).cell? ⟨B0, o, none⟩ = ([I id, .string lb, .slice pa pn pc] : List Value)[o]? := by rw [HES.out]; exact HNw7.out.cell
  have c8x : ∀ o, (((w6.setCell ⟨r8, 3, none⟩ (.string ky)).setCell ⟨r8, 1, none⟩ (I 1)).setCell ⟨r8, 1, none⟩ (I 2)).cell? ⟨r8, o, none⟩ = ([I id, I 2, .string of, .string ky, I 0, .string { data := #[] }, .string { data := #[] }, I 0] : List Value)[o]? := by rw [HES.out]; exact H8w7.out.cell
  have cNo := HNw7.out.cell
  have c8o := H8w7.out.cell
  go_wp2_with (first | (rw [HES.out]; clear HES) | (rw [HEX.out]; (try rw [HE8.out]); clear HEX) | (rw [HEV.out]; (try rw [HEB.out]); clear HEV) | fail)
  try rw [HEX.out]
  (try rw [HE8.out])
  try rw [HES.out]
  clear cN c8 z8 cNx c8x cNo c8o
  refine wp_region_noPanic ?_
  refine wp_region_held_drew (S := (fun V => (∀ o, V.cell? ⟨B0, o, none⟩ = ([I id, .string lb, .slice pa pn pc] : List Value)[o]?) ∧ (∀ o, V.cell? ⟨r8, o, none⟩ = ([I id, I 2, .string of, .string ky, I 0, .string { data := #[] }, .string { data := #[] }, I 0] : List Value)[o]?) ∧ G W V)) (by kernel_rfl) (⟨(HNw7.out.G (G.refl _).drew).cell, (H8w7.out.G (G.refl _).drew).cell, HGw7.out.drew⟩) (fun hHeld => ?_)
  refine wpAnyH_take (i := 0) (v := ?_) rfl (by kernel_rfl) (by kernel_rfl) (by kernel_rfl) (fun _ _ _ h => h) (Or.inl ⟨by rfl, ?_⟩) hHeld ?_
  rotate_left 1
  · (intro w hSw; obtain ⟨k1, k2, -⟩ := hSw; go_simp; try with_reducible rfl)
  try simp only [Act.put, List.getElem_toArray, List.getElem_cons_zero, List.setIfInBounds_toArray, List.set_cons_zero, List.set_cons_succ]
  refine wpAnyH_take (i := 1) (v := ?_) rfl (by kernel_rfl) (by kernel_rfl) (by kernel_rfl) (fun _ _ _ h => h) (Or.inl ⟨by rfl, ?_⟩) hHeld ?_
  rotate_left 1
  · (intro w hSw; (try dsimp only at hSw); go_simp; try with_reducible rfl)
  try simp only [Act.put, List.getElem_toArray, List.getElem_cons_zero, List.getElem_cons_succ, List.setIfInBounds_toArray, List.set_cons_zero, List.set_cons_succ]
  refine wpAnyH_take (i := 2) (v := ?_) rfl (by kernel_rfl) (by kernel_rfl) (by kernel_rfl) (fun _ _ _ h => h) (Or.inl ⟨by rfl, ?_⟩) hHeld ?_
  rotate_left 1
  · (intro w hSw; (try dsimp only at hSw); go_simp; try with_reducible rfl)
  try simp only [Act.put, List.getElem_toArray, List.getElem_cons_zero, List.getElem_cons_succ, List.setIfInBounds_toArray, List.set_cons_zero, List.set_cons_succ]
  refine wpAnyH_take (i := 3) (v := ?_) rfl (by kernel_rfl) (by kernel_rfl) (by kernel_rfl) (fun _ _ _ h => h) (Or.inl ⟨by rfl, ?_⟩) hHeld ?_
  rotate_left 1
  · (intro w hSw; (try dsimp only at hSw); go_simp; try with_reducible rfl)
  try simp only [Act.put, List.getElem_toArray, List.getElem_cons_zero, List.getElem_cons_succ, List.setIfInBounds_toArray, List.set_cons_zero, List.set_cons_succ]
  refine wpAnyH_take (i := 4) (v := ?_) rfl (by kernel_rfl) (by kernel_rfl) (by kernel_rfl) (fun _ _ _ h => h) (Or.inl ⟨by rfl, ?_⟩) hHeld ?_
  rotate_left 1
  · (intro w hSw; obtain ⟨k1, k2, -⟩ := hSw; go_simp; try with_reducible rfl)
  try simp only [Act.put, List.getElem_toArray, List.getElem_cons_zero, List.getElem_cons_succ, List.setIfInBounds_toArray, List.set_cons_zero, List.set_cons_succ]
  refine wpAnyH_take (i := 5) (v := ?_) rfl (by kernel_rfl) (by kernel_rfl) (by kernel_rfl) (fun _ _ _ h => h) (Or.inl ⟨by rfl, ?_⟩) hHeld ?_
  rotate_left 1
  · (intro w hSw; (try dsimp only at hSw); go_simp; try with_reducible rfl)
  try simp only [Act.put, List.getElem_toArray, List.getElem_cons_zero, List.getElem_cons_succ, List.setIfInBounds_toArray, List.set_cons_zero, List.set_cons_succ]
  refine wpAnyH_take (i := 6) (v := ?_) rfl (by kernel_rfl) (by kernel_rfl) (by kernel_rfl) (fun _ _ _ h => h) (Or.inl ⟨by rfl, ?_⟩) hHeld ?_
  rotate_left 1
  · (intro w hSw; (try dsimp only at hSw); go_simp; try with_reducible rfl)
  try simp only [Act.put, List.getElem_toArray, List.getElem_cons_zero, List.getElem_cons_succ, List.setIfInBounds_toArray, List.set_cons_zero, List.set_cons_succ]
  refine wpAnyH_take (i := 7) (v := ?_) rfl (by kernel_rfl) (by kernel_rfl) (by kernel_rfl) (fun _ _ _ h => h) (Or.inl ⟨by rfl, ?_⟩) hHeld ?_
  rotate_left 1
  · (intro w hSw; (try dsimp only at hSw); go_simp; try with_reducible rfl)
  try simp only [Act.put, List.getElem_toArray, List.getElem_cons_zero, List.getElem_cons_succ, List.setIfInBounds_toArray, List.set_cons_zero, List.set_cons_succ]
  refine wpAnyH_take (i := 8) (v := ?_) rfl (by kernel_rfl) (by kernel_rfl) (by kernel_rfl) (fun _ _ _ h => h) (Or.inl ⟨by rfl, ?_⟩) hHeld ?_
  rotate_left 1
  · (intro w hSw; (try dsimp only at hSw); go_simp; try with_reducible rfl)
  try simp only [Act.put, List.getElem_toArray, List.getElem_cons_zero, List.getElem_cons_succ, List.setIfInBounds_toArray, List.set_cons_zero, List.set_cons_succ]
  refine wpAnyH_take (i := 9) (v := ?_) rfl (by kernel_rfl) (by kernel_rfl) (by kernel_rfl) (fun _ _ _ h => h) (Or.inl ⟨by rfl, ?_⟩) hHeld ?_
  rotate_left 1
  · (intro w hSw; (try dsimp only at hSw); go_simp; try with_reducible rfl)
  try simp only [Act.put, List.getElem_toArray, List.getElem_cons_zero, List.getElem_cons_succ, List.setIfInBounds_toArray, List.set_cons_zero, List.set_cons_succ]
  refine wpAnyH_ready (rs := [10]) (by kernel_rfl) (by simp) (AllReadyH.cons rfl (fun K hK => ?_) AllReadyH.nil)
  clear hHeld
  have hrb7 := HRw7.out.G (G.refl w7).drew
  have HTH : Hid (w7.drew.there rb 0 8) := fun j hj => ⟨by rw [hrb7.cell, List.getElem?_eq_getElem (by simp; omega)]; rfl, hrb7.frozen _⟩
  have HB7 := hide ((((((((hrb7.set 0 (I id)).set 1 (I 2)).set 2 (.string of)).set 3 (.string ky)).set 4 (I 0)).set 5 (.string { data := #[] })).set 6 (.string { data := #[] })).set 7 (I 0))
  have HG7 : Hid (G W ((((((((w7.drew.setCell ⟨rb, 0, none⟩ (I id)).setCell ⟨rb, 1, none⟩ (I 2)).setCell ⟨rb, 2, none⟩ (.string of)).setCell ⟨rb, 3, none⟩ (.string ky)).setCell ⟨rb, 4, none⟩ (I 0)).setCell ⟨rb, 5, none⟩ (.string { data := #[] })).setCell ⟨rb, 6, none⟩ (.string { data := #[] })).setCell ⟨rb, 7, none⟩ (I 0))) := (((((((((HGw7.out.drew).setCell HLO.out (I id)).setCell HLO.out (I 2)).setCell HLO.out (.string of)).setCell HLO.out (.string ky)).setCell HLO.out (I 0)).setCell HLO.out (.string { data := #[] })).setCell HLO.out (.string { data := #[] })).setCell HLO.out (I 0))
  have HS7 : Hid ((∀ o, ((((((((w7.drew.setCell ⟨rb, 0, none⟩ (I id)).setCell ⟨rb, 1, none⟩ (I 2)).setCell ⟨rb, 2, none⟩ (.string of)).setCell ⟨rb, 3, none⟩ (.string ky)).setCell ⟨rb, 4, none⟩ (I 0)).setCell ⟨rb, 5, none⟩ (.string { data := #[] })).setCell ⟨rb, 6, none⟩ (.string { data := #[] })).setCell ⟨rb, 7, none⟩ (I 0)).cell? ⟨B0, o, none⟩ = ([I id, .string lb, .slice pa pn pc] : List Value)[o]?) ∧ (∀ o, ((((((((w7.drew.setCell ⟨rb, 0, none⟩ (I id)).setCell ⟨rb, 1, none⟩ (I 2)).setCell ⟨rb, 2, none⟩ (.string of)).setCell ⟨rb, 3, none⟩ (.string ky)).setCell ⟨rb, 4, none⟩ (I 0)).setCell ⟨rb, 5, none⟩ (.string { data := #[] })).setCell ⟨rb, 6, none⟩ (.string { data := #[] })).setCell ⟨rb, 7, none⟩ (I 0)).cell? ⟨r8, o, none⟩ = ([I id, I 2, .string of, .string ky, I 0, .string { data := #[] }, .string { data := #[] }, I 0] : List Value)[o]?)) := ⟨((((((((((((((((HNw7.out.G (G.refl w7).drew).off (b := rb) (o := 0) (v := I id) HNE.out.2.2.2)).off (b := rb) (o := 1) (v := I 2) HNE.out.2.2.2)).off (b := rb) (o := 2) (v := .string of) HNE.out.2.2.2)).off (b := rb) (o := 3) (v := .string ky) HNE.out.2.2.2)).off (b := rb) (o := 4) (v := I 0) HNE.out.2.2.2)).off (b := rb) (o := 5) (v := .string { data := #[] }) HNE.out.2.2.2)).off (b := rb) (o := 6) (v := .string { data := #[] }) HNE.out.2.2.2)).off (b := rb) (o := 7) (v := I 0) HNE.out.2.2.2).cell, ((((((((((((((((H8w7.out.G (G.refl w7).drew).off (b := rb) (o := 0) (v := I id) HNE.out.2.1.symm)).off (b := rb) (o := 1) (v := I 2) HNE.out.2.1.symm)).off (b := rb) (o := 2) (v := .string of) HNE.out.2.1.symm)).off (b := rb) (o := 3) (v := .string ky) HNE.out.2.1.symm)).off (b := rb) (o := 4) (v := I 0) HNE.out.2.1.symm)).off (b := rb) (o := 5) (v := .string { data := #[] }) HNE.out.2.1.symm)).off (b := rb) (o := 6) (v := .string { data := #[] }) HNE.out.2.1.symm)).off (b := rb) (o := 7) (v := I 0) HNE.out.2.1.symm).cell⟩
  clear hrb7
  refine (if_pos rfl).mpr ?_
  refine wp_store_mid 66 _ _ rfl rb 0 #[I id, I 2, .string of, .string ky, I 0, .string { data := #[] }, .string { data := #[] }, I 0] rfl rfl HTH.out (by kernel_rfl) (all_oneCell_toArray (cs := [I id, I 2, .string of, .string ky, I 0, .string { data := #[] }, .string { data := #[] }, I 0]) (fun v hv => one8 (by rfl) hv)) ?_
  refine hK.out _ _ (⟨HS7.out.1, HS7.out.2, HG7.out⟩) (fun hHeld => ?_)
  clear hK K
  try simp only [Act.put, List.getElem_toArray, List.getElem_cons_zero, List.getElem_cons_succ]
  refine wpAnyH_take (i := 11) (v := ?_) rfl (by kernel_rfl) (by kernel_rfl) (by kernel_rfl) (fun _ _ _ h => h) (Or.inl ⟨by rfl, ?_⟩) hHeld ?_
  rotate_left 1
  · (intro w hSw; (try dsimp only at hSw); go_simp; try with_reducible rfl)
  try simp only [Act.put, List.getElem_toArray, List.getElem_cons_zero, List.getElem_cons_succ, List.setIfInBounds_toArray, List.set_cons_zero, List.set_cons_succ]
  refine wpAnyH_done (by kernel_rfl) ?_ _
  refine NoPanic.normal ?_
  go_wp2_with fail
  exact bodyPost_ret_by (v := .tuple #[.agg #[I id, I 2, .string of, .string ky, I 0, .string { data := #[] }, .string { data := #[] }, I 0], .bool _]) (retY _ _ rb _ _ rfl rfl HB7.out rfl) rfl ⟨rfl, HG7.out⟩
set_option maxRecDepth 100000 in
set_option maxHeartbeats 4000000 in
theorem says_needs_f (id : Int) (lb kk of : ByteArray) (bk : Bool) (pa : Option Addr) (pn pc : Nat) (W : World) (HK : Hid (∀ V, G W V → Calls Tryz.prog 104 #[.slice pa pn pc, .string { data := #[107, 105, 110, 100] }] V fun e W' => e = .returned (.tuple #[.string kk, .bool bk]) ∧ G V W')) (ky : ByteArray) (HO : Hid (∀ V, G W V → Calls Tryz.prog 105 #[.slice pa pn pc, .string { data := #[111, 102] }] V fun e W' => e = .returned (.tuple #[.string of, .bool true]) ∧ G V W')) (HY : Hid (∀ V, G W V → Calls Tryz.prog 105 #[.slice pa pn pc, .string { data := #[107, 101, 121] }] V fun e W' => e = .returned (.tuple #[.string ky, .bool false]) ∧ G V W')) (e0 : (kk.toList == [117, 110, 105, 113, 117, 101]) = false) (e1 : (kk.toList == [110, 101, 101, 100, 115]) = true) (e2 : (kk.toList == [111, 110, 108, 121]) = false) : Calls Tryz.prog 68 #[.agg #[I id, .string lb, .slice pa pn pc]] W fun e W' => e = .returned (.tuple #[.agg #[I id, I 2, .string of, .string ky, I 0, .string { data := #[] }, .string { data := #[] }, I 0], .bool false]) ∧ G W W' := by
  obtain ⟨w2, hw2⟩ : ∃ w2, w2 = ((W.alloc (.cells #[I id, .string lb, .slice pa pn pc] 69)).alloc (.cells #[I 0, I 0, .string { data := #[] }, .string { data := #[] }, I 0, .string { data := #[] }, .string { data := #[] }, I 0] 66)) := ⟨_, rfl⟩
  obtain ⟨B0, hB0⟩ : ∃ B0, B0 = W.heap.size := ⟨_, rfl⟩
  obtain ⟨rb, hrb⟩ : ∃ rb, rb = B0 + 1 := ⟨_, rfl⟩
  have HGw2 : Hid (G W w2) := by rw [hw2]; exact ((G.refl W).alloc _).alloc _
  have HNw2 : Hid (Blk w2 B0 69 [I id, .string lb, .slice pa pn pc]) := by rw [hw2, hB0]; exact (Blk.new W [I id, .string lb, .slice pa pn pc] 69).G ((G.refl _).alloc _)
  have HRw2 : Hid (Blk w2 rb 66 [I 0, I 0, .string { data := #[] }, .string { data := #[] }, I 0, .string { data := #[] }, .string { data := #[] }, I 0]) := by
    have := Blk.new (W.alloc (.cells #[I id, .string lb, .slice pa pn pc] 69)) [I 0, I 0, .string { data := #[] }, .string { data := #[] }, I 0, .string { data := #[] }, .string { data := #[] }, I 0] 66
    rw [Hid, hw2, hrb, hB0]
    simpa using this
  have HLO : Hid (W.heap.size ≤ rb) := by show _ ≤ _; omega
  have HEW : Hid (((W.alloc (.cells #[I id, .string lb, .slice pa pn pc] 69)).alloc (.cells #[I 0, I 0, .string { data := #[] }, .string { data := #[] }, I 0, .string { data := #[] }, .string { data := #[] }, I 0] 66)) = w2) := hw2.symm
  have HE1 : Hid (W.heap.size = B0) := hB0.symm
  have HE2 : Hid (B0 + 1 = rb) := hrb.symm
  have e0 := ((Blk.new W [I id, .string lb, .slice pa pn pc] 69).G ((G.refl _).alloc (.cells #[I 0, I 0, .string { data := #[] }, .string { data := #[] }, I 0, .string { data := #[] }, .string { data := #[] }, I 0] 66))).cell
  have cN := HNw2.out.cell
  clear hw2 hB0 hrb
  go_enter Tryz.func68, Tryz.ntmps68
  go_wp2_with (first | (rw [HEW.out]; (try rw [HE1.out]); (try rw [HE2.out]); clear HEW e0) | fail)
  try rw [HEW.out]
  try rw [HE1.out]
  try rw [HE2.out]
  clear cN
  refine (HK.out w2 HGw2.out).mono ?_
  rintro e w3 ⟨rfl, hg'⟩
  have HNw3 := hide (HNw2.out.G hg'); have HRw3 := hide (HRw2.out.G hg'); have HGw3 := hide (HGw2.out.trans hg')
  clear hg'
  have cN := HNw3.out.cell
  go_wp2_with fail
  clear cN
  refine (HO.out w3 HGw3.out).mono ?_
  rintro e w4 ⟨rfl, hg'⟩
  have HNw4 := hide (HNw3.out.G hg'); have HRw4 := hide (HRw3.out.G hg'); have HGw4 := hide (HGw3.out.trans hg')
  clear hg'
  obtain ⟨w5, hw⟩ : ∃ w, w = w4.alloc (.cells #[I id, I 0, .string of, .string { data := #[] }, I 0, .string { data := #[] }, .string { data := #[] }, I 0] 66) := ⟨_, rfl⟩
  obtain ⟨r8, hr8⟩ : ∃ r, r = w4.heap.size := ⟨_, rfl⟩
  have hg' : G w4 w5 := by rw [hw]; exact (G.refl _).alloc _
  have H8w5 : Hid (Blk w5 r8 66 [I id, I 0, .string of, .string { data := #[] }, I 0, .string { data := #[] }, .string { data := #[] }, I 0]) := by rw [Hid, hw, hr8]; exact Blk.new w4 [I id, I 0, .string of, .string { data := #[] }, I 0, .string { data := #[] }, .string { data := #[] }, I 0] 66
  have HNw5 := hide (HNw4.out.G hg'); have HRw5 := hide (HRw4.out.G hg'); have HGw5 := hide (HGw4.out.trans hg')
  have HEX : Hid (w4.alloc (.cells #[I id, I 0, .string of, .string { data := #[] }, I 0, .string { data := #[] }, .string { data := #[] }, I 0] 66) = w5) := hw.symm
  have HE8 : Hid (w4.heap.size = r8) := hr8.symm
  have HNE : Hid (B0 ≠ r8 ∧ rb ≠ r8 ∧ W.heap.size ≤ r8 ∧ B0 ≠ rb) := ⟨by have := HNw4.out.lt; omega, by have := HRw4.out.lt; omega, by have := HGw4.out.size; omega, by have := HE2.out; omega⟩
  have cN := HNw4.out.cell
  have cN2 := HNw5.out.cell
  clear hw hr8 hg'
  go_wp2_with (first | (rw [HEX.out]; (try rw [HE8.out]); clear HEX) | fail)
  try rw [HEX.out]
  (try rw [HE8.out])
  clear cN cN2
  refine (HY.out w5 HGw5.out).mono ?_
  rintro e w6 ⟨rfl, hg'⟩
  have HNw6 := hide (HNw5.out.G hg'); have HRw6 := hide (HRw5.out.G hg'); have HGw6 := hide (HGw5.out.trans hg')
  have H8w6 := hide (H8w5.out.G hg')
  clear hg'
  obtain ⟨w7, hw⟩ : ∃ w, w = (((w6.setCell ⟨r8, 3, none⟩ (.string ky)).setCell ⟨r8, 1, none⟩ (I 1)).setCell ⟨r8, 1, none⟩ (I 2)) := ⟨_, rfl⟩
  have H8w7 : Hid (Blk w7 r8 66 [I id, I 2, .string of, .string ky, I 0, .string { data := #[] }, .string { data := #[] }, I 0]) := by rw [hw]; exact (((H8w6.out.set 3 (.string ky)).set 1 (I 1)).set 1 (I 2))
  have HNw7 : Hid (Blk w7 B0 69 [I id, .string lb, .slice pa pn pc]) := by rw [hw]; exact (((HNw6.out.off (b := r8) (o := 3) (v := .string ky) HNE.out.1).off (b := r8) (o := 1) (v := I 1) HNE.out.1).off (b := r8) (o := 1) (v := I 2) HNE.out.1)
  have HRw7 : Hid (Blk w7 rb 66 [I 0, I 0, .string { data := #[] }, .string { data := #[] }, I 0, .string { data := #[] }, .string { data := #[] }, I 0]) := by rw [hw]; exact (((HRw6.out.off (b := r8) (o := 3) (v := .string ky) HNE.out.2.1).off (b := r8) (o := 1) (v := I 1) HNE.out.2.1).off (b := r8) (o := 1) (v := I 2) HNE.out.2.1)
  have HGw7 : Hid (G W w7) := by rw [hw]; exact (((HGw6.out.setCell HNE.out.2.2.1 (.string ky)).setCell HNE.out.2.2.1 (I 1)).setCell HNE.out.2.2.1 (I 2))
  have HES : Hid ((((w6.setCell ⟨r8, 3, none⟩ (.string ky)).setCell ⟨r8, 1, none⟩ (I 1)).setCell ⟨r8, 1, none⟩ (I 2)) = w7) := hw.symm
  clear hw
  have cN := HNw6.out.cell
  have c8 := H8w6.out.cell
  have z8 := H8w6.out.frozen
  have cNx : ∀ o, (((w6.setCell ⟨r8, 3, none⟩ (.string ky)).setCell ⟨r8, 1, none⟩ (I 1)).setCell ⟨r8, 1, none⟩ (I 2)).cell? ⟨B0, o, none⟩ = ([I id, .string lb, .slice pa pn pc] : List Value)[o]? := by rw [HES.out]; exact HNw7.out.cell
  have c8x : ∀ o, (((w6.setCell ⟨r8, 3, none⟩ (.string ky)).setCell ⟨r8, 1, none⟩ (I 1)).setCell ⟨r8, 1, none⟩ (I 2)).cell? ⟨r8, o, none⟩ = ([I id, I 2, .string of, .string ky, I 0, .string { data := #[] }, .string { data := #[] }, I 0] : List Value)[o]? := by rw [HES.out]; exact H8w7.out.cell
  have cNo := HNw7.out.cell
  have c8o := H8w7.out.cell
  go_wp2_with (first | (rw [HES.out]; clear HES) | (rw [HEX.out]; (try rw [HE8.out]); clear HEX) | (rw [HEV.out]; (try rw [HEB.out]); clear HEV) | fail)
  try rw [HEX.out]
  (try rw [HE8.out])
  try rw [HES.out]
  clear cN c8 z8 cNx c8x cNo c8o
  refine wp_region_noPanic ?_
  refine wp_region_held_drew (S := (fun V => (∀ o, V.cell? ⟨B0, o, none⟩ = ([I id, .string lb, .slice pa pn pc] : List Value)[o]?) ∧ (∀ o, V.cell? ⟨r8, o, none⟩ = ([I id, I 2, .string of, .string ky, I 0, .string { data := #[] }, .string { data := #[] }, I 0] : List Value)[o]?) ∧ G W V)) (by kernel_rfl) (⟨(HNw7.out.G (G.refl _).drew).cell, (H8w7.out.G (G.refl _).drew).cell, HGw7.out.drew⟩) (fun hHeld => ?_)
  refine wpAnyH_take (i := 0) (v := ?_) rfl (by kernel_rfl) (by kernel_rfl) (by kernel_rfl) (fun _ _ _ h => h) (Or.inl ⟨by rfl, ?_⟩) hHeld ?_
  rotate_left 1
  · (intro w hSw; obtain ⟨k1, k2, -⟩ := hSw; go_simp; try with_reducible rfl)
  try simp only [Act.put, List.getElem_toArray, List.getElem_cons_zero, List.setIfInBounds_toArray, List.set_cons_zero, List.set_cons_succ]
  refine wpAnyH_take (i := 1) (v := ?_) rfl (by kernel_rfl) (by kernel_rfl) (by kernel_rfl) (fun _ _ _ h => h) (Or.inl ⟨by rfl, ?_⟩) hHeld ?_
  rotate_left 1
  · (intro w hSw; (try dsimp only at hSw); go_simp; try with_reducible rfl)
  try simp only [Act.put, List.getElem_toArray, List.getElem_cons_zero, List.getElem_cons_succ, List.setIfInBounds_toArray, List.set_cons_zero, List.set_cons_succ]
  refine wpAnyH_take (i := 2) (v := ?_) rfl (by kernel_rfl) (by kernel_rfl) (by kernel_rfl) (fun _ _ _ h => h) (Or.inl ⟨by rfl, ?_⟩) hHeld ?_
  rotate_left 1
  · (intro w hSw; (try dsimp only at hSw); go_simp; try with_reducible rfl)
  try simp only [Act.put, List.getElem_toArray, List.getElem_cons_zero, List.getElem_cons_succ, List.setIfInBounds_toArray, List.set_cons_zero, List.set_cons_succ]
  refine wpAnyH_take (i := 3) (v := undef) rfl (by kernel_rfl) (by kernel_rfl) (by kernel_rfl) (fun _ _ _ h => h) (Or.inr ⟨by rfl, rfl⟩) hHeld ?_
  try simp only [Act.put, List.getElem_toArray, List.getElem_cons_zero, List.getElem_cons_succ, List.setIfInBounds_toArray, List.set_cons_zero, List.set_cons_succ]
  refine wpAnyH_take (i := 4) (v := undef) rfl (by kernel_rfl) (by kernel_rfl) (by kernel_rfl) (fun _ _ _ h => h) (Or.inr ⟨by rfl, rfl⟩) hHeld ?_
  try simp only [Act.put, List.getElem_toArray, List.getElem_cons_zero, List.getElem_cons_succ, List.setIfInBounds_toArray, List.set_cons_zero, List.set_cons_succ]
  refine wpAnyH_take (i := 5) (v := undef) rfl (by kernel_rfl) (by kernel_rfl) (by kernel_rfl) (fun _ _ _ h => h) (Or.inr ⟨by rfl, rfl⟩) hHeld ?_
  try simp only [Act.put, List.getElem_toArray, List.getElem_cons_zero, List.getElem_cons_succ, List.setIfInBounds_toArray, List.set_cons_zero, List.set_cons_succ]
  refine wpAnyH_take (i := 6) (v := undef) rfl (by kernel_rfl) (by kernel_rfl) (by kernel_rfl) (fun _ _ _ h => h) (Or.inr ⟨by rfl, rfl⟩) hHeld ?_
  try simp only [Act.put, List.getElem_toArray, List.getElem_cons_zero, List.getElem_cons_succ, List.setIfInBounds_toArray, List.set_cons_zero, List.set_cons_succ]
  refine wpAnyH_take (i := 7) (v := undef) rfl (by kernel_rfl) (by kernel_rfl) (by kernel_rfl) (fun _ _ _ h => h) (Or.inr ⟨by rfl, rfl⟩) hHeld ?_
  try simp only [Act.put, List.getElem_toArray, List.getElem_cons_zero, List.getElem_cons_succ, List.setIfInBounds_toArray, List.set_cons_zero, List.set_cons_succ]
  refine wpAnyH_take (i := 8) (v := undef) rfl (by kernel_rfl) (by kernel_rfl) (by kernel_rfl) (fun _ _ _ h => h) (Or.inr ⟨by rfl, rfl⟩) hHeld ?_
  try simp only [Act.put, List.getElem_toArray, List.getElem_cons_zero, List.getElem_cons_succ, List.setIfInBounds_toArray, List.set_cons_zero, List.set_cons_succ]
  refine wpAnyH_take (i := 9) (v := ?_) rfl (by kernel_rfl) (by kernel_rfl) (by kernel_rfl) (fun _ _ _ h => h) (Or.inl ⟨by rfl, ?_⟩) hHeld ?_
  rotate_left 1
  · (intro w hSw; (try dsimp only at hSw); go_simp; try with_reducible rfl)
  try simp only [Act.put, List.getElem_toArray, List.getElem_cons_zero, List.getElem_cons_succ, List.setIfInBounds_toArray, List.set_cons_zero, List.set_cons_succ]
  refine wpAnyH_ready (rs := [10]) (by kernel_rfl) (by simp) (AllReadyH.cons rfl (fun K hK => ?_) AllReadyH.nil)
  clear hHeld
  have hrb7 := HRw7.out.G (G.refl w7).drew
  have HTH : Hid (w7.drew.there rb 0 8) := fun j hj => ⟨by rw [hrb7.cell, List.getElem?_eq_getElem (by simp; omega)]; rfl, hrb7.frozen _⟩
  have HB7 := hide ((((((((hrb7.set 0 (I id)).set 1 (I 2)).set 2 (.string of)).set 3 (.string ky)).set 4 (I 0)).set 5 (.string { data := #[] })).set 6 (.string { data := #[] })).set 7 (I 0))
  have HG7 : Hid (G W ((((((((w7.drew.setCell ⟨rb, 0, none⟩ (I id)).setCell ⟨rb, 1, none⟩ (I 2)).setCell ⟨rb, 2, none⟩ (.string of)).setCell ⟨rb, 3, none⟩ (.string ky)).setCell ⟨rb, 4, none⟩ (I 0)).setCell ⟨rb, 5, none⟩ (.string { data := #[] })).setCell ⟨rb, 6, none⟩ (.string { data := #[] })).setCell ⟨rb, 7, none⟩ (I 0))) := (((((((((HGw7.out.drew).setCell HLO.out (I id)).setCell HLO.out (I 2)).setCell HLO.out (.string of)).setCell HLO.out (.string ky)).setCell HLO.out (I 0)).setCell HLO.out (.string { data := #[] })).setCell HLO.out (.string { data := #[] })).setCell HLO.out (I 0))
  have HS7 : Hid ((∀ o, ((((((((w7.drew.setCell ⟨rb, 0, none⟩ (I id)).setCell ⟨rb, 1, none⟩ (I 2)).setCell ⟨rb, 2, none⟩ (.string of)).setCell ⟨rb, 3, none⟩ (.string ky)).setCell ⟨rb, 4, none⟩ (I 0)).setCell ⟨rb, 5, none⟩ (.string { data := #[] })).setCell ⟨rb, 6, none⟩ (.string { data := #[] })).setCell ⟨rb, 7, none⟩ (I 0)).cell? ⟨B0, o, none⟩ = ([I id, .string lb, .slice pa pn pc] : List Value)[o]?) ∧ (∀ o, ((((((((w7.drew.setCell ⟨rb, 0, none⟩ (I id)).setCell ⟨rb, 1, none⟩ (I 2)).setCell ⟨rb, 2, none⟩ (.string of)).setCell ⟨rb, 3, none⟩ (.string ky)).setCell ⟨rb, 4, none⟩ (I 0)).setCell ⟨rb, 5, none⟩ (.string { data := #[] })).setCell ⟨rb, 6, none⟩ (.string { data := #[] })).setCell ⟨rb, 7, none⟩ (I 0)).cell? ⟨r8, o, none⟩ = ([I id, I 2, .string of, .string ky, I 0, .string { data := #[] }, .string { data := #[] }, I 0] : List Value)[o]?)) := ⟨((((((((((((((((HNw7.out.G (G.refl w7).drew).off (b := rb) (o := 0) (v := I id) HNE.out.2.2.2)).off (b := rb) (o := 1) (v := I 2) HNE.out.2.2.2)).off (b := rb) (o := 2) (v := .string of) HNE.out.2.2.2)).off (b := rb) (o := 3) (v := .string ky) HNE.out.2.2.2)).off (b := rb) (o := 4) (v := I 0) HNE.out.2.2.2)).off (b := rb) (o := 5) (v := .string { data := #[] }) HNE.out.2.2.2)).off (b := rb) (o := 6) (v := .string { data := #[] }) HNE.out.2.2.2)).off (b := rb) (o := 7) (v := I 0) HNE.out.2.2.2).cell, ((((((((((((((((H8w7.out.G (G.refl w7).drew).off (b := rb) (o := 0) (v := I id) HNE.out.2.1.symm)).off (b := rb) (o := 1) (v := I 2) HNE.out.2.1.symm)).off (b := rb) (o := 2) (v := .string of) HNE.out.2.1.symm)).off (b := rb) (o := 3) (v := .string ky) HNE.out.2.1.symm)).off (b := rb) (o := 4) (v := I 0) HNE.out.2.1.symm)).off (b := rb) (o := 5) (v := .string { data := #[] }) HNE.out.2.1.symm)).off (b := rb) (o := 6) (v := .string { data := #[] }) HNE.out.2.1.symm)).off (b := rb) (o := 7) (v := I 0) HNE.out.2.1.symm).cell⟩
  clear hrb7
  refine (if_pos rfl).mpr ?_
  refine wp_store_mid 66 _ _ rfl rb 0 #[I id, I 2, .string of, .string ky, I 0, .string { data := #[] }, .string { data := #[] }, I 0] rfl rfl HTH.out (by kernel_rfl) (all_oneCell_toArray (cs := [I id, I 2, .string of, .string ky, I 0, .string { data := #[] }, .string { data := #[] }, I 0]) (fun v hv => one8 (by rfl) hv)) ?_
  refine hK.out _ _ (⟨HS7.out.1, HS7.out.2, HG7.out⟩) (fun hHeld => ?_)
  clear hK K
  try simp only [Act.put, List.getElem_toArray, List.getElem_cons_zero, List.getElem_cons_succ]
  refine wpAnyH_take (i := 11) (v := ?_) rfl (by kernel_rfl) (by kernel_rfl) (by kernel_rfl) (fun _ _ _ h => h) (Or.inl ⟨by rfl, ?_⟩) hHeld ?_
  rotate_left 1
  · (intro w hSw; (try dsimp only at hSw); go_simp; try with_reducible rfl)
  try simp only [Act.put, List.getElem_toArray, List.getElem_cons_zero, List.getElem_cons_succ, List.setIfInBounds_toArray, List.set_cons_zero, List.set_cons_succ]
  refine wpAnyH_done (by kernel_rfl) ?_ _
  refine NoPanic.normal ?_
  go_wp2_with fail
  exact bodyPost_ret_by (v := .tuple #[.agg #[I id, I 2, .string of, .string ky, I 0, .string { data := #[] }, .string { data := #[] }, I 0], .bool false]) (retY _ _ rb _ _ rfl rfl HB7.out rfl) rfl ⟨rfl, HG7.out⟩
set_option maxRecDepth 100000 in
set_option maxHeartbeats 4000000 in
theorem says_only_f (id : Int) (lb kk of : ByteArray) (bk : Bool) (pa : Option Addr) (pn pc : Nat) (W : World) (HK : Hid (∀ V, G W V → Calls Tryz.prog 104 #[.slice pa pn pc, .string { data := #[107, 105, 110, 100] }] V fun e W' => e = .returned (.tuple #[.string kk, .bool bk]) ∧ G V W')) (ky ty : ByteArray) (bt : Bool) (tv : Int) (HO : Hid (∀ V, G W V → Calls Tryz.prog 105 #[.slice pa pn pc, .string { data := #[111, 102] }] V fun e W' => e = .returned (.tuple #[.string of, .bool true]) ∧ G V W')) (HY : Hid (∀ V, G W V → Calls Tryz.prog 105 #[.slice pa pn pc, .string { data := #[107, 101, 121] }] V fun e W' => e = .returned (.tuple #[.string ky, .bool false]) ∧ G V W')) (HT : Hid (∀ V, G W V → Calls Tryz.prog 104 #[.slice pa pn pc, .string { data := #[116, 121, 112, 101] }] V fun e W' => e = .returned (.tuple #[.string ty, .bool bt]) ∧ G V W')) (HKN : Hid (∀ V, Calls Tryz.prog 106 #[.string ty] V fun e W' => e = .returned (I tv) ∧ W' = V)) (e0 : (kk.toList == [117, 110, 105, 113, 117, 101]) = false) (e1 : (kk.toList == [110, 101, 101, 100, 115]) = false) (e2 : (kk.toList == [111, 110, 108, 121]) = true) : Calls Tryz.prog 68 #[.agg #[I id, .string lb, .slice pa pn pc]] W fun e W' => e = .returned (.tuple #[.agg #[I id, I 3, .string of, .string ky, I tv, .string { data := #[] }, .string { data := #[] }, I 0], .bool false]) ∧ G W W' := by
  obtain ⟨w2, hw2⟩ : ∃ w2, w2 = ((W.alloc (.cells #[I id, .string lb, .slice pa pn pc] 69)).alloc (.cells #[I 0, I 0, .string { data := #[] }, .string { data := #[] }, I 0, .string { data := #[] }, .string { data := #[] }, I 0] 66)) := ⟨_, rfl⟩
  obtain ⟨B0, hB0⟩ : ∃ B0, B0 = W.heap.size := ⟨_, rfl⟩
  obtain ⟨rb, hrb⟩ : ∃ rb, rb = B0 + 1 := ⟨_, rfl⟩
  have HGw2 : Hid (G W w2) := by rw [hw2]; exact ((G.refl W).alloc _).alloc _
  have HNw2 : Hid (Blk w2 B0 69 [I id, .string lb, .slice pa pn pc]) := by rw [hw2, hB0]; exact (Blk.new W [I id, .string lb, .slice pa pn pc] 69).G ((G.refl _).alloc _)
  have HRw2 : Hid (Blk w2 rb 66 [I 0, I 0, .string { data := #[] }, .string { data := #[] }, I 0, .string { data := #[] }, .string { data := #[] }, I 0]) := by
    have := Blk.new (W.alloc (.cells #[I id, .string lb, .slice pa pn pc] 69)) [I 0, I 0, .string { data := #[] }, .string { data := #[] }, I 0, .string { data := #[] }, .string { data := #[] }, I 0] 66
    rw [Hid, hw2, hrb, hB0]
    simpa using this
  have HLO : Hid (W.heap.size ≤ rb) := by show _ ≤ _; omega
  have HEW : Hid (((W.alloc (.cells #[I id, .string lb, .slice pa pn pc] 69)).alloc (.cells #[I 0, I 0, .string { data := #[] }, .string { data := #[] }, I 0, .string { data := #[] }, .string { data := #[] }, I 0] 66)) = w2) := hw2.symm
  have HE1 : Hid (W.heap.size = B0) := hB0.symm
  have HE2 : Hid (B0 + 1 = rb) := hrb.symm
  have e0 := ((Blk.new W [I id, .string lb, .slice pa pn pc] 69).G ((G.refl _).alloc (.cells #[I 0, I 0, .string { data := #[] }, .string { data := #[] }, I 0, .string { data := #[] }, .string { data := #[] }, I 0] 66))).cell
  have cN := HNw2.out.cell
  clear hw2 hB0 hrb
  go_enter Tryz.func68, Tryz.ntmps68
  go_wp2_with (first | (rw [HEW.out]; (try rw [HE1.out]); (try rw [HE2.out]); clear HEW e0) | fail)
  try rw [HEW.out]
  try rw [HE1.out]
  try rw [HE2.out]
  clear cN
  refine (HK.out w2 HGw2.out).mono ?_
  rintro e w3 ⟨rfl, hg'⟩
  have HNw3 := hide (HNw2.out.G hg'); have HRw3 := hide (HRw2.out.G hg'); have HGw3 := hide (HGw2.out.trans hg')
  clear hg'
  have cN := HNw3.out.cell
  go_wp2_with fail
  clear cN
  refine (HO.out w3 HGw3.out).mono ?_
  rintro e w4 ⟨rfl, hg'⟩
  have HNw4 := hide (HNw3.out.G hg'); have HRw4 := hide (HRw3.out.G hg'); have HGw4 := hide (HGw3.out.trans hg')
  clear hg'
  obtain ⟨w5, hw⟩ : ∃ w, w = w4.alloc (.cells #[I id, I 0, .string of, .string { data := #[] }, I 0, .string { data := #[] }, .string { data := #[] }, I 0] 66) := ⟨_, rfl⟩
  obtain ⟨r8, hr8⟩ : ∃ r, r = w4.heap.size := ⟨_, rfl⟩
  have hg' : G w4 w5 := by rw [hw]; exact (G.refl _).alloc _
  have H8w5 : Hid (Blk w5 r8 66 [I id, I 0, .string of, .string { data := #[] }, I 0, .string { data := #[] }, .string { data := #[] }, I 0]) := by rw [Hid, hw, hr8]; exact Blk.new w4 [I id, I 0, .string of, .string { data := #[] }, I 0, .string { data := #[] }, .string { data := #[] }, I 0] 66
  have HNw5 := hide (HNw4.out.G hg'); have HRw5 := hide (HRw4.out.G hg'); have HGw5 := hide (HGw4.out.trans hg')
  have HEX : Hid (w4.alloc (.cells #[I id, I 0, .string of, .string { data := #[] }, I 0, .string { data := #[] }, .string { data := #[] }, I 0] 66) = w5) := hw.symm
  have HE8 : Hid (w4.heap.size = r8) := hr8.symm
  have HNE : Hid (B0 ≠ r8 ∧ rb ≠ r8 ∧ W.heap.size ≤ r8 ∧ B0 ≠ rb) := ⟨by have := HNw4.out.lt; omega, by have := HRw4.out.lt; omega, by have := HGw4.out.size; omega, by have := HE2.out; omega⟩
  have cN := HNw4.out.cell
  have cN2 := HNw5.out.cell
  clear hw hr8 hg'
  go_wp2_with (first | (rw [HEX.out]; (try rw [HE8.out]); clear HEX) | fail)
  try rw [HEX.out]
  (try rw [HE8.out])
  clear cN cN2
  refine (HY.out w5 HGw5.out).mono ?_
  rintro e w6 ⟨rfl, hg'⟩
  have HNw6 := hide (HNw5.out.G hg'); have HRw6 := hide (HRw5.out.G hg'); have HGw6 := hide (HGw5.out.trans hg')
  have H8w6 := hide (H8w5.out.G hg')
  clear hg'
  obtain ⟨w7, hw⟩ : ∃ w, w = ((w6.setCell ⟨r8, 3, none⟩ (.string ky)).setCell ⟨r8, 1, none⟩ (I 1)) := ⟨_, rfl⟩
  have H8w7 : Hid (Blk w7 r8 66 [I id, I 1, .string of, .string ky, I 0, .string { data := #[] }, .string { data := #[] }, I 0]) := by rw [hw]; exact ((H8w6.out.set 3 (.string ky)).set 1 (I 1))
  have HNw7 : Hid (Blk w7 B0 69 [I id, .string lb, .slice pa pn pc]) := by rw [hw]; exact ((HNw6.out.off (b := r8) (o := 3) (v := .string ky) HNE.out.1).off (b := r8) (o := 1) (v := I 1) HNE.out.1)
  have HRw7 : Hid (Blk w7 rb 66 [I 0, I 0, .string { data := #[] }, .string { data := #[] }, I 0, .string { data := #[] }, .string { data := #[] }, I 0]) := by rw [hw]; exact ((HRw6.out.off (b := r8) (o := 3) (v := .string ky) HNE.out.2.1).off (b := r8) (o := 1) (v := I 1) HNE.out.2.1)
  have HGw7 : Hid (G W w7) := by rw [hw]; exact ((HGw6.out.setCell HNE.out.2.2.1 (.string ky)).setCell HNE.out.2.2.1 (I 1))
  have HES : Hid (((w6.setCell ⟨r8, 3, none⟩ (.string ky)).setCell ⟨r8, 1, none⟩ (I 1)) = w7) := hw.symm
  clear hw
  have cN := HNw6.out.cell
  have c8 := H8w6.out.cell
  have z8 := H8w6.out.frozen
  have cNx : ∀ o, ((w6.setCell ⟨r8, 3, none⟩ (.string ky)).setCell ⟨r8, 1, none⟩ (I 1)).cell? ⟨B0, o, none⟩ = ([I id, .string lb, .slice pa pn pc] : List Value)[o]? := by rw [HES.out]; exact HNw7.out.cell
  have c8x : ∀ o, ((w6.setCell ⟨r8, 3, none⟩ (.string ky)).setCell ⟨r8, 1, none⟩ (I 1)).cell? ⟨r8, o, none⟩ = ([I id, I 1, .string of, .string ky, I 0, .string { data := #[] }, .string { data := #[] }, I 0] : List Value)[o]? := by rw [HES.out]; exact H8w7.out.cell
  have cNo := HNw7.out.cell
  have c8o := H8w7.out.cell
  go_wp2_with (first | (rw [HES.out]; clear HES) | (rw [HEX.out]; (try rw [HE8.out]); clear HEX) | (rw [HEV.out]; (try rw [HEB.out]); clear HEV) | fail)
  try rw [HEX.out]
  (try rw [HE8.out])
  try rw [HES.out]
  clear cN c8 z8 cNx c8x cNo c8o
  refine (HT.out w7 HGw7.out).mono ?_
  rintro e w8 ⟨rfl, hg'⟩
  have HNw8 := hide (HNw7.out.G hg'); have HRw8 := hide (HRw7.out.G hg'); have HGw8 := hide (HGw7.out.trans hg')
  have H8w8 := hide (H8w7.out.G hg')
  clear hg'
  obtain ⟨w9, hw⟩ : ∃ w, w = (w8.setCell ⟨r8, 1, none⟩ (I 3)) := ⟨_, rfl⟩
  have H8w9 : Hid (Blk w9 r8 66 [I id, I 3, .string of, .string ky, I 0, .string { data := #[] }, .string { data := #[] }, I 0]) := by rw [hw]; exact (H8w8.out.set 1 (I 3))
  have HNw9 : Hid (Blk w9 B0 69 [I id, .string lb, .slice pa pn pc]) := by rw [hw]; exact (HNw8.out.off (b := r8) (o := 1) (v := I 3) HNE.out.1)
  have HRw9 : Hid (Blk w9 rb 66 [I 0, I 0, .string { data := #[] }, .string { data := #[] }, I 0, .string { data := #[] }, .string { data := #[] }, I 0]) := by rw [hw]; exact (HRw8.out.off (b := r8) (o := 1) (v := I 3) HNE.out.2.1)
  have HGw9 : Hid (G W w9) := by rw [hw]; exact (HGw8.out.setCell HNE.out.2.2.1 (I 3))
  have HES : Hid ((w8.setCell ⟨r8, 1, none⟩ (I 3)) = w9) := hw.symm
  clear hw
  have cN := HNw8.out.cell
  have c8 := H8w8.out.cell
  have z8 := H8w8.out.frozen
  have cNx : ∀ o, (w8.setCell ⟨r8, 1, none⟩ (I 3)).cell? ⟨B0, o, none⟩ = ([I id, .string lb, .slice pa pn pc] : List Value)[o]? := by rw [HES.out]; exact HNw9.out.cell
  have c8x : ∀ o, (w8.setCell ⟨r8, 1, none⟩ (I 3)).cell? ⟨r8, o, none⟩ = ([I id, I 3, .string of, .string ky, I 0, .string { data := #[] }, .string { data := #[] }, I 0] : List Value)[o]? := by rw [HES.out]; exact H8w9.out.cell
  have cNo := HNw9.out.cell
  have c8o := H8w9.out.cell
  go_wp2_with (first | (rw [HES.out]; clear HES) | (rw [HEX.out]; (try rw [HE8.out]); clear HEX) | (rw [HEV.out]; (try rw [HEB.out]); clear HEV) | fail)
  try rw [HEX.out]
  (try rw [HE8.out])
  try rw [HES.out]
  clear cN c8 z8 cNx c8x cNo c8o
  refine (HKN.out w9).mono ?_
  rintro e w' ⟨rfl, h9⟩
  subst w'
  obtain ⟨w10, hw⟩ : ∃ w, w = (w9.setCell ⟨r8, 4, none⟩ (I tv)) := ⟨_, rfl⟩
  have H8w10 : Hid (Blk w10 r8 66 [I id, I 3, .string of, .string ky, I tv, .string { data := #[] }, .string { data := #[] }, I 0]) := by rw [hw]; exact (H8w9.out.set 4 (I tv))
  have HNw10 : Hid (Blk w10 B0 69 [I id, .string lb, .slice pa pn pc]) := by rw [hw]; exact (HNw9.out.off (b := r8) (o := 4) (v := I tv) HNE.out.1)
  have HRw10 : Hid (Blk w10 rb 66 [I 0, I 0, .string { data := #[] }, .string { data := #[] }, I 0, .string { data := #[] }, .string { data := #[] }, I 0]) := by rw [hw]; exact (HRw9.out.off (b := r8) (o := 4) (v := I tv) HNE.out.2.1)
  have HGw10 : Hid (G W w10) := by rw [hw]; exact (HGw9.out.setCell HNE.out.2.2.1 (I tv))
  have HES : Hid ((w9.setCell ⟨r8, 4, none⟩ (I tv)) = w10) := hw.symm
  clear hw
  have cN := HNw9.out.cell
  have c8 := H8w9.out.cell
  have z8 := H8w9.out.frozen
  have cNx : ∀ o, (w9.setCell ⟨r8, 4, none⟩ (I tv)).cell? ⟨B0, o, none⟩ = ([I id, .string lb, .slice pa pn pc] : List Value)[o]? := by rw [HES.out]; exact HNw10.out.cell
  have c8x : ∀ o, (w9.setCell ⟨r8, 4, none⟩ (I tv)).cell? ⟨r8, o, none⟩ = ([I id, I 3, .string of, .string ky, I tv, .string { data := #[] }, .string { data := #[] }, I 0] : List Value)[o]? := by rw [HES.out]; exact H8w10.out.cell
  have cNo := HNw10.out.cell
  have c8o := H8w10.out.cell
  go_wp2_with (first | (rw [HES.out]; clear HES) | (rw [HEX.out]; (try rw [HE8.out]); clear HEX) | (rw [HEV.out]; (try rw [HEB.out]); clear HEV) | fail)
  try rw [HEX.out]
  (try rw [HE8.out])
  try rw [HES.out]
  clear cN c8 z8 cNx c8x cNo c8o
  refine wp_region_noPanic ?_
  refine wp_region_held_drew (S := (fun V => (∀ o, V.cell? ⟨B0, o, none⟩ = ([I id, .string lb, .slice pa pn pc] : List Value)[o]?) ∧ (∀ o, V.cell? ⟨r8, o, none⟩ = ([I id, I 3, .string of, .string ky, I tv, .string { data := #[] }, .string { data := #[] }, I 0] : List Value)[o]?) ∧ G W V)) (by kernel_rfl) (⟨(HNw10.out.G (G.refl _).drew).cell, (H8w10.out.G (G.refl _).drew).cell, HGw10.out.drew⟩) (fun hHeld => ?_)
  refine wpAnyH_take (i := 0) (v := ?_) rfl (by kernel_rfl) (by kernel_rfl) (by kernel_rfl) (fun _ _ _ h => h) (Or.inl ⟨by rfl, ?_⟩) hHeld ?_
  rotate_left 1
  · (intro w hSw; obtain ⟨k1, k2, -⟩ := hSw; go_simp; try with_reducible rfl)
  try simp only [Act.put, List.getElem_toArray, List.getElem_cons_zero, List.setIfInBounds_toArray, List.set_cons_zero, List.set_cons_succ]
  refine wpAnyH_take (i := 1) (v := ?_) rfl (by kernel_rfl) (by kernel_rfl) (by kernel_rfl) (fun _ _ _ h => h) (Or.inl ⟨by rfl, ?_⟩) hHeld ?_
  rotate_left 1
  · (intro w hSw; (try dsimp only at hSw); go_simp; try with_reducible rfl)
  try simp only [Act.put, List.getElem_toArray, List.getElem_cons_zero, List.getElem_cons_succ, List.setIfInBounds_toArray, List.set_cons_zero, List.set_cons_succ]
  refine wpAnyH_take (i := 2) (v := ?_) rfl (by kernel_rfl) (by kernel_rfl) (by kernel_rfl) (fun _ _ _ h => h) (Or.inl ⟨by rfl, ?_⟩) hHeld ?_
  rotate_left 1
  · (intro w hSw; (try dsimp only at hSw); go_simp; try with_reducible rfl)
  try simp only [Act.put, List.getElem_toArray, List.getElem_cons_zero, List.getElem_cons_succ, List.setIfInBounds_toArray, List.set_cons_zero, List.set_cons_succ]
  refine wpAnyH_take (i := 3) (v := undef) rfl (by kernel_rfl) (by kernel_rfl) (by kernel_rfl) (fun _ _ _ h => h) (Or.inr ⟨by rfl, rfl⟩) hHeld ?_
  try simp only [Act.put, List.getElem_toArray, List.getElem_cons_zero, List.getElem_cons_succ, List.setIfInBounds_toArray, List.set_cons_zero, List.set_cons_succ]
  refine wpAnyH_take (i := 4) (v := undef) rfl (by kernel_rfl) (by kernel_rfl) (by kernel_rfl) (fun _ _ _ h => h) (Or.inr ⟨by rfl, rfl⟩) hHeld ?_
  try simp only [Act.put, List.getElem_toArray, List.getElem_cons_zero, List.getElem_cons_succ, List.setIfInBounds_toArray, List.set_cons_zero, List.set_cons_succ]
  refine wpAnyH_take (i := 5) (v := undef) rfl (by kernel_rfl) (by kernel_rfl) (by kernel_rfl) (fun _ _ _ h => h) (Or.inr ⟨by rfl, rfl⟩) hHeld ?_
  try simp only [Act.put, List.getElem_toArray, List.getElem_cons_zero, List.getElem_cons_succ, List.setIfInBounds_toArray, List.set_cons_zero, List.set_cons_succ]
  refine wpAnyH_take (i := 6) (v := undef) rfl (by kernel_rfl) (by kernel_rfl) (by kernel_rfl) (fun _ _ _ h => h) (Or.inr ⟨by rfl, rfl⟩) hHeld ?_
  try simp only [Act.put, List.getElem_toArray, List.getElem_cons_zero, List.getElem_cons_succ, List.setIfInBounds_toArray, List.set_cons_zero, List.set_cons_succ]
  refine wpAnyH_take (i := 7) (v := undef) rfl (by kernel_rfl) (by kernel_rfl) (by kernel_rfl) (fun _ _ _ h => h) (Or.inr ⟨by rfl, rfl⟩) hHeld ?_
  try simp only [Act.put, List.getElem_toArray, List.getElem_cons_zero, List.getElem_cons_succ, List.setIfInBounds_toArray, List.set_cons_zero, List.set_cons_succ]
  refine wpAnyH_take (i := 8) (v := undef) rfl (by kernel_rfl) (by kernel_rfl) (by kernel_rfl) (fun _ _ _ h => h) (Or.inr ⟨by rfl, rfl⟩) hHeld ?_
  try simp only [Act.put, List.getElem_toArray, List.getElem_cons_zero, List.getElem_cons_succ, List.setIfInBounds_toArray, List.set_cons_zero, List.set_cons_succ]
  refine wpAnyH_take (i := 9) (v := ?_) rfl (by kernel_rfl) (by kernel_rfl) (by kernel_rfl) (fun _ _ _ h => h) (Or.inl ⟨by rfl, ?_⟩) hHeld ?_
  rotate_left 1
  · (intro w hSw; (try dsimp only at hSw); go_simp; try with_reducible rfl)
  try simp only [Act.put, List.getElem_toArray, List.getElem_cons_zero, List.getElem_cons_succ, List.setIfInBounds_toArray, List.set_cons_zero, List.set_cons_succ]
  refine wpAnyH_ready (rs := [10]) (by kernel_rfl) (by simp) (AllReadyH.cons rfl (fun K hK => ?_) AllReadyH.nil)
  clear hHeld
  have hrb7 := HRw10.out.G (G.refl w10).drew
  have HTH : Hid (w10.drew.there rb 0 8) := fun j hj => ⟨by rw [hrb7.cell, List.getElem?_eq_getElem (by simp; omega)]; rfl, hrb7.frozen _⟩
  have HB7 := hide ((((((((hrb7.set 0 (I id)).set 1 (I 3)).set 2 (.string of)).set 3 (.string ky)).set 4 (I tv)).set 5 (.string { data := #[] })).set 6 (.string { data := #[] })).set 7 (I 0))
  have HG7 : Hid (G W ((((((((w10.drew.setCell ⟨rb, 0, none⟩ (I id)).setCell ⟨rb, 1, none⟩ (I 3)).setCell ⟨rb, 2, none⟩ (.string of)).setCell ⟨rb, 3, none⟩ (.string ky)).setCell ⟨rb, 4, none⟩ (I tv)).setCell ⟨rb, 5, none⟩ (.string { data := #[] })).setCell ⟨rb, 6, none⟩ (.string { data := #[] })).setCell ⟨rb, 7, none⟩ (I 0))) := (((((((((HGw10.out.drew).setCell HLO.out (I id)).setCell HLO.out (I 3)).setCell HLO.out (.string of)).setCell HLO.out (.string ky)).setCell HLO.out (I tv)).setCell HLO.out (.string { data := #[] })).setCell HLO.out (.string { data := #[] })).setCell HLO.out (I 0))
  have HS7 : Hid ((∀ o, ((((((((w10.drew.setCell ⟨rb, 0, none⟩ (I id)).setCell ⟨rb, 1, none⟩ (I 3)).setCell ⟨rb, 2, none⟩ (.string of)).setCell ⟨rb, 3, none⟩ (.string ky)).setCell ⟨rb, 4, none⟩ (I tv)).setCell ⟨rb, 5, none⟩ (.string { data := #[] })).setCell ⟨rb, 6, none⟩ (.string { data := #[] })).setCell ⟨rb, 7, none⟩ (I 0)).cell? ⟨B0, o, none⟩ = ([I id, .string lb, .slice pa pn pc] : List Value)[o]?) ∧ (∀ o, ((((((((w10.drew.setCell ⟨rb, 0, none⟩ (I id)).setCell ⟨rb, 1, none⟩ (I 3)).setCell ⟨rb, 2, none⟩ (.string of)).setCell ⟨rb, 3, none⟩ (.string ky)).setCell ⟨rb, 4, none⟩ (I tv)).setCell ⟨rb, 5, none⟩ (.string { data := #[] })).setCell ⟨rb, 6, none⟩ (.string { data := #[] })).setCell ⟨rb, 7, none⟩ (I 0)).cell? ⟨r8, o, none⟩ = ([I id, I 3, .string of, .string ky, I tv, .string { data := #[] }, .string { data := #[] }, I 0] : List Value)[o]?)) := ⟨((((((((((((((((HNw10.out.G (G.refl w10).drew).off (b := rb) (o := 0) (v := I id) HNE.out.2.2.2)).off (b := rb) (o := 1) (v := I 3) HNE.out.2.2.2)).off (b := rb) (o := 2) (v := .string of) HNE.out.2.2.2)).off (b := rb) (o := 3) (v := .string ky) HNE.out.2.2.2)).off (b := rb) (o := 4) (v := I tv) HNE.out.2.2.2)).off (b := rb) (o := 5) (v := .string { data := #[] }) HNE.out.2.2.2)).off (b := rb) (o := 6) (v := .string { data := #[] }) HNE.out.2.2.2)).off (b := rb) (o := 7) (v := I 0) HNE.out.2.2.2).cell, ((((((((((((((((H8w10.out.G (G.refl w10).drew).off (b := rb) (o := 0) (v := I id) HNE.out.2.1.symm)).off (b := rb) (o := 1) (v := I 3) HNE.out.2.1.symm)).off (b := rb) (o := 2) (v := .string of) HNE.out.2.1.symm)).off (b := rb) (o := 3) (v := .string ky) HNE.out.2.1.symm)).off (b := rb) (o := 4) (v := I tv) HNE.out.2.1.symm)).off (b := rb) (o := 5) (v := .string { data := #[] }) HNE.out.2.1.symm)).off (b := rb) (o := 6) (v := .string { data := #[] }) HNE.out.2.1.symm)).off (b := rb) (o := 7) (v := I 0) HNE.out.2.1.symm).cell⟩
  clear hrb7
  refine (if_pos rfl).mpr ?_
  refine wp_store_mid 66 _ _ rfl rb 0 #[I id, I 3, .string of, .string ky, I tv, .string { data := #[] }, .string { data := #[] }, I 0] rfl rfl HTH.out (by kernel_rfl) (all_oneCell_toArray (cs := [I id, I 3, .string of, .string ky, I tv, .string { data := #[] }, .string { data := #[] }, I 0]) (fun v hv => one8 (by rfl) hv)) ?_
  refine hK.out _ _ (⟨HS7.out.1, HS7.out.2, HG7.out⟩) (fun hHeld => ?_)
  clear hK K
  try simp only [Act.put, List.getElem_toArray, List.getElem_cons_zero, List.getElem_cons_succ]
  refine wpAnyH_take (i := 11) (v := ?_) rfl (by kernel_rfl) (by kernel_rfl) (by kernel_rfl) (fun _ _ _ h => h) (Or.inl ⟨by rfl, ?_⟩) hHeld ?_
  rotate_left 1
  · (intro w hSw; (try dsimp only at hSw); go_simp; try with_reducible rfl)
  try simp only [Act.put, List.getElem_toArray, List.getElem_cons_zero, List.getElem_cons_succ, List.setIfInBounds_toArray, List.set_cons_zero, List.set_cons_succ]
  refine wpAnyH_done (by kernel_rfl) ?_ _
  refine NoPanic.normal ?_
  go_wp2_with fail
  exact bodyPost_ret_by (v := .tuple #[.agg #[I id, I 3, .string of, .string ky, I tv, .string { data := #[] }, .string { data := #[] }, I 0], .bool false]) (retY _ _ rb _ _ rfl rfl HB7.out rfl) rfl ⟨rfl, HG7.out⟩
set_option maxRecDepth 100000 in
set_option maxHeartbeats 4000000 in
theorem says_only_g (id : Int) (lb kk of : ByteArray) (bk : Bool) (pa : Option Addr) (pn pc : Nat) (W : World) (HK : Hid (∀ V, G W V → Calls Tryz.prog 104 #[.slice pa pn pc, .string { data := #[107, 105, 110, 100] }] V fun e W' => e = .returned (.tuple #[.string kk, .bool bk]) ∧ G V W')) (ky ty : ByteArray) (tv : Int) (HO : Hid (∀ V, G W V → Calls Tryz.prog 105 #[.slice pa pn pc, .string { data := #[111, 102] }] V fun e W' => e = .returned (.tuple #[.string of, .bool true]) ∧ G V W')) (HY : Hid (∀ V, G W V → Calls Tryz.prog 105 #[.slice pa pn pc, .string { data := #[107, 101, 121] }] V fun e W' => e = .returned (.tuple #[.string ky, .bool true]) ∧ G V W')) (HT : Hid (∀ V, G W V → Calls Tryz.prog 104 #[.slice pa pn pc, .string { data := #[116, 121, 112, 101] }] V fun e W' => e = .returned (.tuple #[.string ty, .bool false]) ∧ G V W')) (HKN : Hid (∀ V, Calls Tryz.prog 106 #[.string ty] V fun e W' => e = .returned (I tv) ∧ W' = V)) (e0 : (kk.toList == [117, 110, 105, 113, 117, 101]) = false) (e1 : (kk.toList == [110, 101, 101, 100, 115]) = false) (e2 : (kk.toList == [111, 110, 108, 121]) = true) : Calls Tryz.prog 68 #[.agg #[I id, .string lb, .slice pa pn pc]] W fun e W' => e = .returned (.tuple #[.agg #[I id, I 3, .string of, .string ky, I tv, .string { data := #[] }, .string { data := #[] }, I 0], .bool false]) ∧ G W W' := by
  obtain ⟨w2, hw2⟩ : ∃ w2, w2 = ((W.alloc (.cells #[I id, .string lb, .slice pa pn pc] 69)).alloc (.cells #[I 0, I 0, .string { data := #[] }, .string { data := #[] }, I 0, .string { data := #[] }, .string { data := #[] }, I 0] 66)) := ⟨_, rfl⟩
  obtain ⟨B0, hB0⟩ : ∃ B0, B0 = W.heap.size := ⟨_, rfl⟩
  obtain ⟨rb, hrb⟩ : ∃ rb, rb = B0 + 1 := ⟨_, rfl⟩
  have HGw2 : Hid (G W w2) := by rw [hw2]; exact ((G.refl W).alloc _).alloc _
  have HNw2 : Hid (Blk w2 B0 69 [I id, .string lb, .slice pa pn pc]) := by rw [hw2, hB0]; exact (Blk.new W [I id, .string lb, .slice pa pn pc] 69).G ((G.refl _).alloc _)
  have HRw2 : Hid (Blk w2 rb 66 [I 0, I 0, .string { data := #[] }, .string { data := #[] }, I 0, .string { data := #[] }, .string { data := #[] }, I 0]) := by
    have := Blk.new (W.alloc (.cells #[I id, .string lb, .slice pa pn pc] 69)) [I 0, I 0, .string { data := #[] }, .string { data := #[] }, I 0, .string { data := #[] }, .string { data := #[] }, I 0] 66
    rw [Hid, hw2, hrb, hB0]
    simpa using this
  have HLO : Hid (W.heap.size ≤ rb) := by show _ ≤ _; omega
  have HEW : Hid (((W.alloc (.cells #[I id, .string lb, .slice pa pn pc] 69)).alloc (.cells #[I 0, I 0, .string { data := #[] }, .string { data := #[] }, I 0, .string { data := #[] }, .string { data := #[] }, I 0] 66)) = w2) := hw2.symm
  have HE1 : Hid (W.heap.size = B0) := hB0.symm
  have HE2 : Hid (B0 + 1 = rb) := hrb.symm
  have e0 := ((Blk.new W [I id, .string lb, .slice pa pn pc] 69).G ((G.refl _).alloc (.cells #[I 0, I 0, .string { data := #[] }, .string { data := #[] }, I 0, .string { data := #[] }, .string { data := #[] }, I 0] 66))).cell
  have cN := HNw2.out.cell
  clear hw2 hB0 hrb
  go_enter Tryz.func68, Tryz.ntmps68
  go_wp2_with (first | (rw [HEW.out]; (try rw [HE1.out]); (try rw [HE2.out]); clear HEW e0) | fail)
  try rw [HEW.out]
  try rw [HE1.out]
  try rw [HE2.out]
  clear cN
  refine (HK.out w2 HGw2.out).mono ?_
  rintro e w3 ⟨rfl, hg'⟩
  have HNw3 := hide (HNw2.out.G hg'); have HRw3 := hide (HRw2.out.G hg'); have HGw3 := hide (HGw2.out.trans hg')
  clear hg'
  have cN := HNw3.out.cell
  go_wp2_with fail
  clear cN
  refine (HO.out w3 HGw3.out).mono ?_
  rintro e w4 ⟨rfl, hg'⟩
  have HNw4 := hide (HNw3.out.G hg'); have HRw4 := hide (HRw3.out.G hg'); have HGw4 := hide (HGw3.out.trans hg')
  clear hg'
  obtain ⟨w5, hw⟩ : ∃ w, w = w4.alloc (.cells #[I id, I 0, .string of, .string { data := #[] }, I 0, .string { data := #[] }, .string { data := #[] }, I 0] 66) := ⟨_, rfl⟩
  obtain ⟨r8, hr8⟩ : ∃ r, r = w4.heap.size := ⟨_, rfl⟩
  have hg' : G w4 w5 := by rw [hw]; exact (G.refl _).alloc _
  have H8w5 : Hid (Blk w5 r8 66 [I id, I 0, .string of, .string { data := #[] }, I 0, .string { data := #[] }, .string { data := #[] }, I 0]) := by rw [Hid, hw, hr8]; exact Blk.new w4 [I id, I 0, .string of, .string { data := #[] }, I 0, .string { data := #[] }, .string { data := #[] }, I 0] 66
  have HNw5 := hide (HNw4.out.G hg'); have HRw5 := hide (HRw4.out.G hg'); have HGw5 := hide (HGw4.out.trans hg')
  have HEX : Hid (w4.alloc (.cells #[I id, I 0, .string of, .string { data := #[] }, I 0, .string { data := #[] }, .string { data := #[] }, I 0] 66) = w5) := hw.symm
  have HE8 : Hid (w4.heap.size = r8) := hr8.symm
  have HNE : Hid (B0 ≠ r8 ∧ rb ≠ r8 ∧ W.heap.size ≤ r8 ∧ B0 ≠ rb) := ⟨by have := HNw4.out.lt; omega, by have := HRw4.out.lt; omega, by have := HGw4.out.size; omega, by have := HE2.out; omega⟩
  have cN := HNw4.out.cell
  have cN2 := HNw5.out.cell
  clear hw hr8 hg'
  go_wp2_with (first | (rw [HEX.out]; (try rw [HE8.out]); clear HEX) | fail)
  try rw [HEX.out]
  (try rw [HE8.out])
  clear cN cN2
  refine (HY.out w5 HGw5.out).mono ?_
  rintro e w6 ⟨rfl, hg'⟩
  have HNw6 := hide (HNw5.out.G hg'); have HRw6 := hide (HRw5.out.G hg'); have HGw6 := hide (HGw5.out.trans hg')
  have H8w6 := hide (H8w5.out.G hg')
  clear hg'
  obtain ⟨w7, hw⟩ : ∃ w, w = ((w6.setCell ⟨r8, 3, none⟩ (.string ky)).setCell ⟨r8, 1, none⟩ (I 1)) := ⟨_, rfl⟩
  have H8w7 : Hid (Blk w7 r8 66 [I id, I 1, .string of, .string ky, I 0, .string { data := #[] }, .string { data := #[] }, I 0]) := by rw [hw]; exact ((H8w6.out.set 3 (.string ky)).set 1 (I 1))
  have HNw7 : Hid (Blk w7 B0 69 [I id, .string lb, .slice pa pn pc]) := by rw [hw]; exact ((HNw6.out.off (b := r8) (o := 3) (v := .string ky) HNE.out.1).off (b := r8) (o := 1) (v := I 1) HNE.out.1)
  have HRw7 : Hid (Blk w7 rb 66 [I 0, I 0, .string { data := #[] }, .string { data := #[] }, I 0, .string { data := #[] }, .string { data := #[] }, I 0]) := by rw [hw]; exact ((HRw6.out.off (b := r8) (o := 3) (v := .string ky) HNE.out.2.1).off (b := r8) (o := 1) (v := I 1) HNE.out.2.1)
  have HGw7 : Hid (G W w7) := by rw [hw]; exact ((HGw6.out.setCell HNE.out.2.2.1 (.string ky)).setCell HNE.out.2.2.1 (I 1))
  have HES : Hid (((w6.setCell ⟨r8, 3, none⟩ (.string ky)).setCell ⟨r8, 1, none⟩ (I 1)) = w7) := hw.symm
  clear hw
  have cN := HNw6.out.cell
  have c8 := H8w6.out.cell
  have z8 := H8w6.out.frozen
  have cNx : ∀ o, ((w6.setCell ⟨r8, 3, none⟩ (.string ky)).setCell ⟨r8, 1, none⟩ (I 1)).cell? ⟨B0, o, none⟩ = ([I id, .string lb, .slice pa pn pc] : List Value)[o]? := by rw [HES.out]; exact HNw7.out.cell
  have c8x : ∀ o, ((w6.setCell ⟨r8, 3, none⟩ (.string ky)).setCell ⟨r8, 1, none⟩ (I 1)).cell? ⟨r8, o, none⟩ = ([I id, I 1, .string of, .string ky, I 0, .string { data := #[] }, .string { data := #[] }, I 0] : List Value)[o]? := by rw [HES.out]; exact H8w7.out.cell
  have cNo := HNw7.out.cell
  have c8o := H8w7.out.cell
  go_wp2_with (first | (rw [HES.out]; clear HES) | (rw [HEX.out]; (try rw [HE8.out]); clear HEX) | (rw [HEV.out]; (try rw [HEB.out]); clear HEV) | fail)
  try rw [HEX.out]
  (try rw [HE8.out])
  try rw [HES.out]
  clear cN c8 z8 cNx c8x cNo c8o
  refine (HT.out w7 HGw7.out).mono ?_
  rintro e w8 ⟨rfl, hg'⟩
  have HNw8 := hide (HNw7.out.G hg'); have HRw8 := hide (HRw7.out.G hg'); have HGw8 := hide (HGw7.out.trans hg')
  have H8w8 := hide (H8w7.out.G hg')
  clear hg'
  obtain ⟨w9, hw⟩ : ∃ w, w = (w8.setCell ⟨r8, 1, none⟩ (I 3)) := ⟨_, rfl⟩
  have H8w9 : Hid (Blk w9 r8 66 [I id, I 3, .string of, .string ky, I 0, .string { data := #[] }, .string { data := #[] }, I 0]) := by rw [hw]; exact (H8w8.out.set 1 (I 3))
  have HNw9 : Hid (Blk w9 B0 69 [I id, .string lb, .slice pa pn pc]) := by rw [hw]; exact (HNw8.out.off (b := r8) (o := 1) (v := I 3) HNE.out.1)
  have HRw9 : Hid (Blk w9 rb 66 [I 0, I 0, .string { data := #[] }, .string { data := #[] }, I 0, .string { data := #[] }, .string { data := #[] }, I 0]) := by rw [hw]; exact (HRw8.out.off (b := r8) (o := 1) (v := I 3) HNE.out.2.1)
  have HGw9 : Hid (G W w9) := by rw [hw]; exact (HGw8.out.setCell HNE.out.2.2.1 (I 3))
  have HES : Hid ((w8.setCell ⟨r8, 1, none⟩ (I 3)) = w9) := hw.symm
  clear hw
  have cN := HNw8.out.cell
  have c8 := H8w8.out.cell
  have z8 := H8w8.out.frozen
  have cNx : ∀ o, (w8.setCell ⟨r8, 1, none⟩ (I 3)).cell? ⟨B0, o, none⟩ = ([I id, .string lb, .slice pa pn pc] : List Value)[o]? := by rw [HES.out]; exact HNw9.out.cell
  have c8x : ∀ o, (w8.setCell ⟨r8, 1, none⟩ (I 3)).cell? ⟨r8, o, none⟩ = ([I id, I 3, .string of, .string ky, I 0, .string { data := #[] }, .string { data := #[] }, I 0] : List Value)[o]? := by rw [HES.out]; exact H8w9.out.cell
  have cNo := HNw9.out.cell
  have c8o := H8w9.out.cell
  go_wp2_with (first | (rw [HES.out]; clear HES) | (rw [HEX.out]; (try rw [HE8.out]); clear HEX) | (rw [HEV.out]; (try rw [HEB.out]); clear HEV) | fail)
  try rw [HEX.out]
  (try rw [HE8.out])
  try rw [HES.out]
  clear cN c8 z8 cNx c8x cNo c8o
  refine (HKN.out w9).mono ?_
  rintro e w' ⟨rfl, h9⟩
  subst w'
  obtain ⟨w10, hw⟩ : ∃ w, w = (w9.setCell ⟨r8, 4, none⟩ (I tv)) := ⟨_, rfl⟩
  have H8w10 : Hid (Blk w10 r8 66 [I id, I 3, .string of, .string ky, I tv, .string { data := #[] }, .string { data := #[] }, I 0]) := by rw [hw]; exact (H8w9.out.set 4 (I tv))
  have HNw10 : Hid (Blk w10 B0 69 [I id, .string lb, .slice pa pn pc]) := by rw [hw]; exact (HNw9.out.off (b := r8) (o := 4) (v := I tv) HNE.out.1)
  have HRw10 : Hid (Blk w10 rb 66 [I 0, I 0, .string { data := #[] }, .string { data := #[] }, I 0, .string { data := #[] }, .string { data := #[] }, I 0]) := by rw [hw]; exact (HRw9.out.off (b := r8) (o := 4) (v := I tv) HNE.out.2.1)
  have HGw10 : Hid (G W w10) := by rw [hw]; exact (HGw9.out.setCell HNE.out.2.2.1 (I tv))
  have HES : Hid ((w9.setCell ⟨r8, 4, none⟩ (I tv)) = w10) := hw.symm
  clear hw
  have cN := HNw9.out.cell
  have c8 := H8w9.out.cell
  have z8 := H8w9.out.frozen
  have cNx : ∀ o, (w9.setCell ⟨r8, 4, none⟩ (I tv)).cell? ⟨B0, o, none⟩ = ([I id, .string lb, .slice pa pn pc] : List Value)[o]? := by rw [HES.out]; exact HNw10.out.cell
  have c8x : ∀ o, (w9.setCell ⟨r8, 4, none⟩ (I tv)).cell? ⟨r8, o, none⟩ = ([I id, I 3, .string of, .string ky, I tv, .string { data := #[] }, .string { data := #[] }, I 0] : List Value)[o]? := by rw [HES.out]; exact H8w10.out.cell
  have cNo := HNw10.out.cell
  have c8o := H8w10.out.cell
  go_wp2_with (first | (rw [HES.out]; clear HES) | (rw [HEX.out]; (try rw [HE8.out]); clear HEX) | (rw [HEV.out]; (try rw [HEB.out]); clear HEV) | fail)
  try rw [HEX.out]
  (try rw [HE8.out])
  try rw [HES.out]
  clear cN c8 z8 cNx c8x cNo c8o
  refine wp_region_noPanic ?_
  refine wp_region_held_drew (S := (fun V => (∀ o, V.cell? ⟨B0, o, none⟩ = ([I id, .string lb, .slice pa pn pc] : List Value)[o]?) ∧ (∀ o, V.cell? ⟨r8, o, none⟩ = ([I id, I 3, .string of, .string ky, I tv, .string { data := #[] }, .string { data := #[] }, I 0] : List Value)[o]?) ∧ G W V)) (by kernel_rfl) (⟨(HNw10.out.G (G.refl _).drew).cell, (H8w10.out.G (G.refl _).drew).cell, HGw10.out.drew⟩) (fun hHeld => ?_)
  refine wpAnyH_take (i := 0) (v := ?_) rfl (by kernel_rfl) (by kernel_rfl) (by kernel_rfl) (fun _ _ _ h => h) (Or.inl ⟨by rfl, ?_⟩) hHeld ?_
  rotate_left 1
  · (intro w hSw; obtain ⟨k1, k2, -⟩ := hSw; go_simp; try with_reducible rfl)
  try simp only [Act.put, List.getElem_toArray, List.getElem_cons_zero, List.setIfInBounds_toArray, List.set_cons_zero, List.set_cons_succ]
  refine wpAnyH_take (i := 1) (v := ?_) rfl (by kernel_rfl) (by kernel_rfl) (by kernel_rfl) (fun _ _ _ h => h) (Or.inl ⟨by rfl, ?_⟩) hHeld ?_
  rotate_left 1
  · (intro w hSw; (try dsimp only at hSw); go_simp; try with_reducible rfl)
  try simp only [Act.put, List.getElem_toArray, List.getElem_cons_zero, List.getElem_cons_succ, List.setIfInBounds_toArray, List.set_cons_zero, List.set_cons_succ]
  refine wpAnyH_take (i := 2) (v := ?_) rfl (by kernel_rfl) (by kernel_rfl) (by kernel_rfl) (fun _ _ _ h => h) (Or.inl ⟨by rfl, ?_⟩) hHeld ?_
  rotate_left 1
  · (intro w hSw; (try dsimp only at hSw); go_simp; try with_reducible rfl)
  try simp only [Act.put, List.getElem_toArray, List.getElem_cons_zero, List.getElem_cons_succ, List.setIfInBounds_toArray, List.set_cons_zero, List.set_cons_succ]
  refine wpAnyH_take (i := 3) (v := undef) rfl (by kernel_rfl) (by kernel_rfl) (by kernel_rfl) (fun _ _ _ h => h) (Or.inr ⟨by rfl, rfl⟩) hHeld ?_
  try simp only [Act.put, List.getElem_toArray, List.getElem_cons_zero, List.getElem_cons_succ, List.setIfInBounds_toArray, List.set_cons_zero, List.set_cons_succ]
  refine wpAnyH_take (i := 4) (v := undef) rfl (by kernel_rfl) (by kernel_rfl) (by kernel_rfl) (fun _ _ _ h => h) (Or.inr ⟨by rfl, rfl⟩) hHeld ?_
  try simp only [Act.put, List.getElem_toArray, List.getElem_cons_zero, List.getElem_cons_succ, List.setIfInBounds_toArray, List.set_cons_zero, List.set_cons_succ]
  refine wpAnyH_take (i := 5) (v := undef) rfl (by kernel_rfl) (by kernel_rfl) (by kernel_rfl) (fun _ _ _ h => h) (Or.inr ⟨by rfl, rfl⟩) hHeld ?_
  try simp only [Act.put, List.getElem_toArray, List.getElem_cons_zero, List.getElem_cons_succ, List.setIfInBounds_toArray, List.set_cons_zero, List.set_cons_succ]
  refine wpAnyH_take (i := 6) (v := undef) rfl (by kernel_rfl) (by kernel_rfl) (by kernel_rfl) (fun _ _ _ h => h) (Or.inr ⟨by rfl, rfl⟩) hHeld ?_
  try simp only [Act.put, List.getElem_toArray, List.getElem_cons_zero, List.getElem_cons_succ, List.setIfInBounds_toArray, List.set_cons_zero, List.set_cons_succ]
  refine wpAnyH_take (i := 7) (v := undef) rfl (by kernel_rfl) (by kernel_rfl) (by kernel_rfl) (fun _ _ _ h => h) (Or.inr ⟨by rfl, rfl⟩) hHeld ?_
  try simp only [Act.put, List.getElem_toArray, List.getElem_cons_zero, List.getElem_cons_succ, List.setIfInBounds_toArray, List.set_cons_zero, List.set_cons_succ]
  refine wpAnyH_take (i := 8) (v := undef) rfl (by kernel_rfl) (by kernel_rfl) (by kernel_rfl) (fun _ _ _ h => h) (Or.inr ⟨by rfl, rfl⟩) hHeld ?_
  try simp only [Act.put, List.getElem_toArray, List.getElem_cons_zero, List.getElem_cons_succ, List.setIfInBounds_toArray, List.set_cons_zero, List.set_cons_succ]
  refine wpAnyH_take (i := 9) (v := ?_) rfl (by kernel_rfl) (by kernel_rfl) (by kernel_rfl) (fun _ _ _ h => h) (Or.inl ⟨by rfl, ?_⟩) hHeld ?_
  rotate_left 1
  · (intro w hSw; (try dsimp only at hSw); go_simp; try with_reducible rfl)
  try simp only [Act.put, List.getElem_toArray, List.getElem_cons_zero, List.getElem_cons_succ, List.setIfInBounds_toArray, List.set_cons_zero, List.set_cons_succ]
  refine wpAnyH_ready (rs := [10]) (by kernel_rfl) (by simp) (AllReadyH.cons rfl (fun K hK => ?_) AllReadyH.nil)
  clear hHeld
  have hrb7 := HRw10.out.G (G.refl w10).drew
  have HTH : Hid (w10.drew.there rb 0 8) := fun j hj => ⟨by rw [hrb7.cell, List.getElem?_eq_getElem (by simp; omega)]; rfl, hrb7.frozen _⟩
  have HB7 := hide ((((((((hrb7.set 0 (I id)).set 1 (I 3)).set 2 (.string of)).set 3 (.string ky)).set 4 (I tv)).set 5 (.string { data := #[] })).set 6 (.string { data := #[] })).set 7 (I 0))
  have HG7 : Hid (G W ((((((((w10.drew.setCell ⟨rb, 0, none⟩ (I id)).setCell ⟨rb, 1, none⟩ (I 3)).setCell ⟨rb, 2, none⟩ (.string of)).setCell ⟨rb, 3, none⟩ (.string ky)).setCell ⟨rb, 4, none⟩ (I tv)).setCell ⟨rb, 5, none⟩ (.string { data := #[] })).setCell ⟨rb, 6, none⟩ (.string { data := #[] })).setCell ⟨rb, 7, none⟩ (I 0))) := (((((((((HGw10.out.drew).setCell HLO.out (I id)).setCell HLO.out (I 3)).setCell HLO.out (.string of)).setCell HLO.out (.string ky)).setCell HLO.out (I tv)).setCell HLO.out (.string { data := #[] })).setCell HLO.out (.string { data := #[] })).setCell HLO.out (I 0))
  have HS7 : Hid ((∀ o, ((((((((w10.drew.setCell ⟨rb, 0, none⟩ (I id)).setCell ⟨rb, 1, none⟩ (I 3)).setCell ⟨rb, 2, none⟩ (.string of)).setCell ⟨rb, 3, none⟩ (.string ky)).setCell ⟨rb, 4, none⟩ (I tv)).setCell ⟨rb, 5, none⟩ (.string { data := #[] })).setCell ⟨rb, 6, none⟩ (.string { data := #[] })).setCell ⟨rb, 7, none⟩ (I 0)).cell? ⟨B0, o, none⟩ = ([I id, .string lb, .slice pa pn pc] : List Value)[o]?) ∧ (∀ o, ((((((((w10.drew.setCell ⟨rb, 0, none⟩ (I id)).setCell ⟨rb, 1, none⟩ (I 3)).setCell ⟨rb, 2, none⟩ (.string of)).setCell ⟨rb, 3, none⟩ (.string ky)).setCell ⟨rb, 4, none⟩ (I tv)).setCell ⟨rb, 5, none⟩ (.string { data := #[] })).setCell ⟨rb, 6, none⟩ (.string { data := #[] })).setCell ⟨rb, 7, none⟩ (I 0)).cell? ⟨r8, o, none⟩ = ([I id, I 3, .string of, .string ky, I tv, .string { data := #[] }, .string { data := #[] }, I 0] : List Value)[o]?)) := ⟨((((((((((((((((HNw10.out.G (G.refl w10).drew).off (b := rb) (o := 0) (v := I id) HNE.out.2.2.2)).off (b := rb) (o := 1) (v := I 3) HNE.out.2.2.2)).off (b := rb) (o := 2) (v := .string of) HNE.out.2.2.2)).off (b := rb) (o := 3) (v := .string ky) HNE.out.2.2.2)).off (b := rb) (o := 4) (v := I tv) HNE.out.2.2.2)).off (b := rb) (o := 5) (v := .string { data := #[] }) HNE.out.2.2.2)).off (b := rb) (o := 6) (v := .string { data := #[] }) HNE.out.2.2.2)).off (b := rb) (o := 7) (v := I 0) HNE.out.2.2.2).cell, ((((((((((((((((H8w10.out.G (G.refl w10).drew).off (b := rb) (o := 0) (v := I id) HNE.out.2.1.symm)).off (b := rb) (o := 1) (v := I 3) HNE.out.2.1.symm)).off (b := rb) (o := 2) (v := .string of) HNE.out.2.1.symm)).off (b := rb) (o := 3) (v := .string ky) HNE.out.2.1.symm)).off (b := rb) (o := 4) (v := I tv) HNE.out.2.1.symm)).off (b := rb) (o := 5) (v := .string { data := #[] }) HNE.out.2.1.symm)).off (b := rb) (o := 6) (v := .string { data := #[] }) HNE.out.2.1.symm)).off (b := rb) (o := 7) (v := I 0) HNE.out.2.1.symm).cell⟩
  clear hrb7
  refine (if_pos rfl).mpr ?_
  refine wp_store_mid 66 _ _ rfl rb 0 #[I id, I 3, .string of, .string ky, I tv, .string { data := #[] }, .string { data := #[] }, I 0] rfl rfl HTH.out (by kernel_rfl) (all_oneCell_toArray (cs := [I id, I 3, .string of, .string ky, I tv, .string { data := #[] }, .string { data := #[] }, I 0]) (fun v hv => one8 (by rfl) hv)) ?_
  refine hK.out _ _ (⟨HS7.out.1, HS7.out.2, HG7.out⟩) (fun hHeld => ?_)
  clear hK K
  try simp only [Act.put, List.getElem_toArray, List.getElem_cons_zero, List.getElem_cons_succ]
  refine wpAnyH_take (i := 11) (v := ?_) rfl (by kernel_rfl) (by kernel_rfl) (by kernel_rfl) (fun _ _ _ h => h) (Or.inl ⟨by rfl, ?_⟩) hHeld ?_
  rotate_left 1
  · (intro w hSw; (try dsimp only at hSw); go_simp; try with_reducible rfl)
  try simp only [Act.put, List.getElem_toArray, List.getElem_cons_zero, List.getElem_cons_succ, List.setIfInBounds_toArray, List.set_cons_zero, List.set_cons_succ]
  refine wpAnyH_done (by kernel_rfl) ?_ _
  refine NoPanic.normal ?_
  go_wp2_with fail
  exact bodyPost_ret_by (v := .tuple #[.agg #[I id, I 3, .string of, .string ky, I tv, .string { data := #[] }, .string { data := #[] }, I 0], .bool false]) (retY _ _ rb _ _ rfl rfl HB7.out rfl) rfl ⟨rfl, HG7.out⟩
set_option maxRecDepth 100000 in
set_option maxHeartbeats 4000000 in
theorem says_only_h (id : Int) (lb kk of : ByteArray) (bk : Bool) (pa : Option Addr) (pn pc : Nat) (W : World) (HK : Hid (∀ V, G W V → Calls Tryz.prog 104 #[.slice pa pn pc, .string { data := #[107, 105, 110, 100] }] V fun e W' => e = .returned (.tuple #[.string kk, .bool bk]) ∧ G V W')) (ky ty : ByteArray) (tv : Int) (HO : Hid (∀ V, G W V → Calls Tryz.prog 105 #[.slice pa pn pc, .string { data := #[111, 102] }] V fun e W' => e = .returned (.tuple #[.string of, .bool true]) ∧ G V W')) (HY : Hid (∀ V, G W V → Calls Tryz.prog 105 #[.slice pa pn pc, .string { data := #[107, 101, 121] }] V fun e W' => e = .returned (.tuple #[.string ky, .bool true]) ∧ G V W')) (HT : Hid (∀ V, G W V → Calls Tryz.prog 104 #[.slice pa pn pc, .string { data := #[116, 121, 112, 101] }] V fun e W' => e = .returned (.tuple #[.string ty, .bool true]) ∧ G V W')) (HKN : Hid (∀ V, Calls Tryz.prog 106 #[.string ty] V fun e W' => e = .returned (I tv) ∧ W' = V)) (htv : decide (tv > 0) = false) (e0 : (kk.toList == [117, 110, 105, 113, 117, 101]) = false) (e1 : (kk.toList == [110, 101, 101, 100, 115]) = false) (e2 : (kk.toList == [111, 110, 108, 121]) = true) : Calls Tryz.prog 68 #[.agg #[I id, .string lb, .slice pa pn pc]] W fun e W' => e = .returned (.tuple #[.agg #[I id, I 3, .string of, .string ky, I tv, .string { data := #[] }, .string { data := #[] }, I 0], .bool false]) ∧ G W W' := by
  obtain ⟨w2, hw2⟩ : ∃ w2, w2 = ((W.alloc (.cells #[I id, .string lb, .slice pa pn pc] 69)).alloc (.cells #[I 0, I 0, .string { data := #[] }, .string { data := #[] }, I 0, .string { data := #[] }, .string { data := #[] }, I 0] 66)) := ⟨_, rfl⟩
  obtain ⟨B0, hB0⟩ : ∃ B0, B0 = W.heap.size := ⟨_, rfl⟩
  obtain ⟨rb, hrb⟩ : ∃ rb, rb = B0 + 1 := ⟨_, rfl⟩
  have HGw2 : Hid (G W w2) := by rw [hw2]; exact ((G.refl W).alloc _).alloc _
  have HNw2 : Hid (Blk w2 B0 69 [I id, .string lb, .slice pa pn pc]) := by rw [hw2, hB0]; exact (Blk.new W [I id, .string lb, .slice pa pn pc] 69).G ((G.refl _).alloc _)
  have HRw2 : Hid (Blk w2 rb 66 [I 0, I 0, .string { data := #[] }, .string { data := #[] }, I 0, .string { data := #[] }, .string { data := #[] }, I 0]) := by
    have := Blk.new (W.alloc (.cells #[I id, .string lb, .slice pa pn pc] 69)) [I 0, I 0, .string { data := #[] }, .string { data := #[] }, I 0, .string { data := #[] }, .string { data := #[] }, I 0] 66
    rw [Hid, hw2, hrb, hB0]
    simpa using this
  have HLO : Hid (W.heap.size ≤ rb) := by show _ ≤ _; omega
  have HEW : Hid (((W.alloc (.cells #[I id, .string lb, .slice pa pn pc] 69)).alloc (.cells #[I 0, I 0, .string { data := #[] }, .string { data := #[] }, I 0, .string { data := #[] }, .string { data := #[] }, I 0] 66)) = w2) := hw2.symm
  have HE1 : Hid (W.heap.size = B0) := hB0.symm
  have HE2 : Hid (B0 + 1 = rb) := hrb.symm
  have e0 := ((Blk.new W [I id, .string lb, .slice pa pn pc] 69).G ((G.refl _).alloc (.cells #[I 0, I 0, .string { data := #[] }, .string { data := #[] }, I 0, .string { data := #[] }, .string { data := #[] }, I 0] 66))).cell
  have cN := HNw2.out.cell
  clear hw2 hB0 hrb
  go_enter Tryz.func68, Tryz.ntmps68
  go_wp2_with (first | (rw [HEW.out]; (try rw [HE1.out]); (try rw [HE2.out]); clear HEW e0) | fail)
  try rw [HEW.out]
  try rw [HE1.out]
  try rw [HE2.out]
  clear cN
  refine (HK.out w2 HGw2.out).mono ?_
  rintro e w3 ⟨rfl, hg'⟩
  have HNw3 := hide (HNw2.out.G hg'); have HRw3 := hide (HRw2.out.G hg'); have HGw3 := hide (HGw2.out.trans hg')
  clear hg'
  have cN := HNw3.out.cell
  go_wp2_with fail
  clear cN
  refine (HO.out w3 HGw3.out).mono ?_
  rintro e w4 ⟨rfl, hg'⟩
  have HNw4 := hide (HNw3.out.G hg'); have HRw4 := hide (HRw3.out.G hg'); have HGw4 := hide (HGw3.out.trans hg')
  clear hg'
  obtain ⟨w5, hw⟩ : ∃ w, w = w4.alloc (.cells #[I id, I 0, .string of, .string { data := #[] }, I 0, .string { data := #[] }, .string { data := #[] }, I 0] 66) := ⟨_, rfl⟩
  obtain ⟨r8, hr8⟩ : ∃ r, r = w4.heap.size := ⟨_, rfl⟩
  have hg' : G w4 w5 := by rw [hw]; exact (G.refl _).alloc _
  have H8w5 : Hid (Blk w5 r8 66 [I id, I 0, .string of, .string { data := #[] }, I 0, .string { data := #[] }, .string { data := #[] }, I 0]) := by rw [Hid, hw, hr8]; exact Blk.new w4 [I id, I 0, .string of, .string { data := #[] }, I 0, .string { data := #[] }, .string { data := #[] }, I 0] 66
  have HNw5 := hide (HNw4.out.G hg'); have HRw5 := hide (HRw4.out.G hg'); have HGw5 := hide (HGw4.out.trans hg')
  have HEX : Hid (w4.alloc (.cells #[I id, I 0, .string of, .string { data := #[] }, I 0, .string { data := #[] }, .string { data := #[] }, I 0] 66) = w5) := hw.symm
  have HE8 : Hid (w4.heap.size = r8) := hr8.symm
  have HNE : Hid (B0 ≠ r8 ∧ rb ≠ r8 ∧ W.heap.size ≤ r8 ∧ B0 ≠ rb) := ⟨by have := HNw4.out.lt; omega, by have := HRw4.out.lt; omega, by have := HGw4.out.size; omega, by have := HE2.out; omega⟩
  have cN := HNw4.out.cell
  have cN2 := HNw5.out.cell
  clear hw hr8 hg'
  go_wp2_with (first | (rw [HEX.out]; (try rw [HE8.out]); clear HEX) | fail)
  try rw [HEX.out]
  (try rw [HE8.out])
  clear cN cN2
  refine (HY.out w5 HGw5.out).mono ?_
  rintro e w6 ⟨rfl, hg'⟩
  have HNw6 := hide (HNw5.out.G hg'); have HRw6 := hide (HRw5.out.G hg'); have HGw6 := hide (HGw5.out.trans hg')
  have H8w6 := hide (H8w5.out.G hg')
  clear hg'
  obtain ⟨w7, hw⟩ : ∃ w, w = ((w6.setCell ⟨r8, 3, none⟩ (.string ky)).setCell ⟨r8, 1, none⟩ (I 1)) := ⟨_, rfl⟩
  have H8w7 : Hid (Blk w7 r8 66 [I id, I 1, .string of, .string ky, I 0, .string { data := #[] }, .string { data := #[] }, I 0]) := by rw [hw]; exact ((H8w6.out.set 3 (.string ky)).set 1 (I 1))
  have HNw7 : Hid (Blk w7 B0 69 [I id, .string lb, .slice pa pn pc]) := by rw [hw]; exact ((HNw6.out.off (b := r8) (o := 3) (v := .string ky) HNE.out.1).off (b := r8) (o := 1) (v := I 1) HNE.out.1)
  have HRw7 : Hid (Blk w7 rb 66 [I 0, I 0, .string { data := #[] }, .string { data := #[] }, I 0, .string { data := #[] }, .string { data := #[] }, I 0]) := by rw [hw]; exact ((HRw6.out.off (b := r8) (o := 3) (v := .string ky) HNE.out.2.1).off (b := r8) (o := 1) (v := I 1) HNE.out.2.1)
  have HGw7 : Hid (G W w7) := by rw [hw]; exact ((HGw6.out.setCell HNE.out.2.2.1 (.string ky)).setCell HNE.out.2.2.1 (I 1))
  have HES : Hid (((w6.setCell ⟨r8, 3, none⟩ (.string ky)).setCell ⟨r8, 1, none⟩ (I 1)) = w7) := hw.symm
  clear hw
  have cN := HNw6.out.cell
  have c8 := H8w6.out.cell
  have z8 := H8w6.out.frozen
  have cNx : ∀ o, ((w6.setCell ⟨r8, 3, none⟩ (.string ky)).setCell ⟨r8, 1, none⟩ (I 1)).cell? ⟨B0, o, none⟩ = ([I id, .string lb, .slice pa pn pc] : List Value)[o]? := by rw [HES.out]; exact HNw7.out.cell
  have c8x : ∀ o, ((w6.setCell ⟨r8, 3, none⟩ (.string ky)).setCell ⟨r8, 1, none⟩ (I 1)).cell? ⟨r8, o, none⟩ = ([I id, I 1, .string of, .string ky, I 0, .string { data := #[] }, .string { data := #[] }, I 0] : List Value)[o]? := by rw [HES.out]; exact H8w7.out.cell
  have cNo := HNw7.out.cell
  have c8o := H8w7.out.cell
  go_wp2_with (first | (rw [HES.out]; clear HES) | (rw [HEX.out]; (try rw [HE8.out]); clear HEX) | (rw [HEV.out]; (try rw [HEB.out]); clear HEV) | fail)
  try rw [HEX.out]
  (try rw [HE8.out])
  try rw [HES.out]
  clear cN c8 z8 cNx c8x cNo c8o
  refine (HT.out w7 HGw7.out).mono ?_
  rintro e w8 ⟨rfl, hg'⟩
  have HNw8 := hide (HNw7.out.G hg'); have HRw8 := hide (HRw7.out.G hg'); have HGw8 := hide (HGw7.out.trans hg')
  have H8w8 := hide (H8w7.out.G hg')
  clear hg'
  obtain ⟨w9, hw⟩ : ∃ w, w = (w8.setCell ⟨r8, 1, none⟩ (I 3)) := ⟨_, rfl⟩
  have H8w9 : Hid (Blk w9 r8 66 [I id, I 3, .string of, .string ky, I 0, .string { data := #[] }, .string { data := #[] }, I 0]) := by rw [hw]; exact (H8w8.out.set 1 (I 3))
  have HNw9 : Hid (Blk w9 B0 69 [I id, .string lb, .slice pa pn pc]) := by rw [hw]; exact (HNw8.out.off (b := r8) (o := 1) (v := I 3) HNE.out.1)
  have HRw9 : Hid (Blk w9 rb 66 [I 0, I 0, .string { data := #[] }, .string { data := #[] }, I 0, .string { data := #[] }, .string { data := #[] }, I 0]) := by rw [hw]; exact (HRw8.out.off (b := r8) (o := 1) (v := I 3) HNE.out.2.1)
  have HGw9 : Hid (G W w9) := by rw [hw]; exact (HGw8.out.setCell HNE.out.2.2.1 (I 3))
  have HES : Hid ((w8.setCell ⟨r8, 1, none⟩ (I 3)) = w9) := hw.symm
  clear hw
  have cN := HNw8.out.cell
  have c8 := H8w8.out.cell
  have z8 := H8w8.out.frozen
  have cNx : ∀ o, (w8.setCell ⟨r8, 1, none⟩ (I 3)).cell? ⟨B0, o, none⟩ = ([I id, .string lb, .slice pa pn pc] : List Value)[o]? := by rw [HES.out]; exact HNw9.out.cell
  have c8x : ∀ o, (w8.setCell ⟨r8, 1, none⟩ (I 3)).cell? ⟨r8, o, none⟩ = ([I id, I 3, .string of, .string ky, I 0, .string { data := #[] }, .string { data := #[] }, I 0] : List Value)[o]? := by rw [HES.out]; exact H8w9.out.cell
  have cNo := HNw9.out.cell
  have c8o := H8w9.out.cell
  go_wp2_with (first | (rw [HES.out]; clear HES) | (rw [HEX.out]; (try rw [HE8.out]); clear HEX) | (rw [HEV.out]; (try rw [HEB.out]); clear HEV) | fail)
  try rw [HEX.out]
  (try rw [HE8.out])
  try rw [HES.out]
  clear cN c8 z8 cNx c8x cNo c8o
  refine (HKN.out w9).mono ?_
  rintro e w' ⟨rfl, h9⟩
  subst w'
  obtain ⟨w10, hw⟩ : ∃ w, w = (w9.setCell ⟨r8, 4, none⟩ (I tv)) := ⟨_, rfl⟩
  have H8w10 : Hid (Blk w10 r8 66 [I id, I 3, .string of, .string ky, I tv, .string { data := #[] }, .string { data := #[] }, I 0]) := by rw [hw]; exact (H8w9.out.set 4 (I tv))
  have HNw10 : Hid (Blk w10 B0 69 [I id, .string lb, .slice pa pn pc]) := by rw [hw]; exact (HNw9.out.off (b := r8) (o := 4) (v := I tv) HNE.out.1)
  have HRw10 : Hid (Blk w10 rb 66 [I 0, I 0, .string { data := #[] }, .string { data := #[] }, I 0, .string { data := #[] }, .string { data := #[] }, I 0]) := by rw [hw]; exact (HRw9.out.off (b := r8) (o := 4) (v := I tv) HNE.out.2.1)
  have HGw10 : Hid (G W w10) := by rw [hw]; exact (HGw9.out.setCell HNE.out.2.2.1 (I tv))
  have HES : Hid ((w9.setCell ⟨r8, 4, none⟩ (I tv)) = w10) := hw.symm
  clear hw
  have cN := HNw9.out.cell
  have c8 := H8w9.out.cell
  have z8 := H8w9.out.frozen
  have cNx : ∀ o, (w9.setCell ⟨r8, 4, none⟩ (I tv)).cell? ⟨B0, o, none⟩ = ([I id, .string lb, .slice pa pn pc] : List Value)[o]? := by rw [HES.out]; exact HNw10.out.cell
  have c8x : ∀ o, (w9.setCell ⟨r8, 4, none⟩ (I tv)).cell? ⟨r8, o, none⟩ = ([I id, I 3, .string of, .string ky, I tv, .string { data := #[] }, .string { data := #[] }, I 0] : List Value)[o]? := by rw [HES.out]; exact H8w10.out.cell
  have cNo := HNw10.out.cell
  have c8o := H8w10.out.cell
  go_wp2_with (first | (rw [HES.out]; clear HES) | (rw [HEX.out]; (try rw [HE8.out]); clear HEX) | (rw [HEV.out]; (try rw [HEB.out]); clear HEV) | fail)
  try rw [HEX.out]
  (try rw [HE8.out])
  try rw [HES.out]
  clear cN c8 z8 cNx c8x cNo c8o
  refine wp_region_noPanic ?_
  refine wp_region_held_drew (S := (fun V => (∀ o, V.cell? ⟨B0, o, none⟩ = ([I id, .string lb, .slice pa pn pc] : List Value)[o]?) ∧ (∀ o, V.cell? ⟨r8, o, none⟩ = ([I id, I 3, .string of, .string ky, I tv, .string { data := #[] }, .string { data := #[] }, I 0] : List Value)[o]?) ∧ G W V)) (by kernel_rfl) (⟨(HNw10.out.G (G.refl _).drew).cell, (H8w10.out.G (G.refl _).drew).cell, HGw10.out.drew⟩) (fun hHeld => ?_)
  refine wpAnyH_take (i := 0) (v := ?_) rfl (by kernel_rfl) (by kernel_rfl) (by kernel_rfl) (fun _ _ _ h => h) (Or.inl ⟨by rfl, ?_⟩) hHeld ?_
  rotate_left 1
  · (intro w hSw; obtain ⟨k1, k2, -⟩ := hSw; go_simp; try with_reducible rfl)
  try simp only [Act.put, List.getElem_toArray, List.getElem_cons_zero, List.setIfInBounds_toArray, List.set_cons_zero, List.set_cons_succ]
  refine wpAnyH_take (i := 1) (v := ?_) rfl (by kernel_rfl) (by kernel_rfl) (by kernel_rfl) (fun _ _ _ h => h) (Or.inl ⟨by rfl, ?_⟩) hHeld ?_
  rotate_left 1
  · (intro w hSw; (try dsimp only at hSw); go_simp; try with_reducible rfl)
  try simp only [Act.put, List.getElem_toArray, List.getElem_cons_zero, List.getElem_cons_succ, List.setIfInBounds_toArray, List.set_cons_zero, List.set_cons_succ]
  refine wpAnyH_take (i := 2) (v := ?_) rfl (by kernel_rfl) (by kernel_rfl) (by kernel_rfl) (fun _ _ _ h => h) (Or.inl ⟨by rfl, ?_⟩) hHeld ?_
  rotate_left 1
  · (intro w hSw; (try dsimp only at hSw); go_simp; try with_reducible rfl)
  try simp only [Act.put, List.getElem_toArray, List.getElem_cons_zero, List.getElem_cons_succ, List.setIfInBounds_toArray, List.set_cons_zero, List.set_cons_succ]
  refine wpAnyH_take (i := 3) (v := undef) rfl (by kernel_rfl) (by kernel_rfl) (by kernel_rfl) (fun _ _ _ h => h) (Or.inr ⟨by rfl, rfl⟩) hHeld ?_
  try simp only [Act.put, List.getElem_toArray, List.getElem_cons_zero, List.getElem_cons_succ, List.setIfInBounds_toArray, List.set_cons_zero, List.set_cons_succ]
  refine wpAnyH_take (i := 4) (v := undef) rfl (by kernel_rfl) (by kernel_rfl) (by kernel_rfl) (fun _ _ _ h => h) (Or.inr ⟨by rfl, rfl⟩) hHeld ?_
  try simp only [Act.put, List.getElem_toArray, List.getElem_cons_zero, List.getElem_cons_succ, List.setIfInBounds_toArray, List.set_cons_zero, List.set_cons_succ]
  refine wpAnyH_take (i := 5) (v := undef) rfl (by kernel_rfl) (by kernel_rfl) (by kernel_rfl) (fun _ _ _ h => h) (Or.inr ⟨by rfl, rfl⟩) hHeld ?_
  try simp only [Act.put, List.getElem_toArray, List.getElem_cons_zero, List.getElem_cons_succ, List.setIfInBounds_toArray, List.set_cons_zero, List.set_cons_succ]
  refine wpAnyH_take (i := 6) (v := undef) rfl (by kernel_rfl) (by kernel_rfl) (by kernel_rfl) (fun _ _ _ h => h) (Or.inr ⟨by rfl, rfl⟩) hHeld ?_
  try simp only [Act.put, List.getElem_toArray, List.getElem_cons_zero, List.getElem_cons_succ, List.setIfInBounds_toArray, List.set_cons_zero, List.set_cons_succ]
  refine wpAnyH_take (i := 7) (v := undef) rfl (by kernel_rfl) (by kernel_rfl) (by kernel_rfl) (fun _ _ _ h => h) (Or.inr ⟨by rfl, rfl⟩) hHeld ?_
  try simp only [Act.put, List.getElem_toArray, List.getElem_cons_zero, List.getElem_cons_succ, List.setIfInBounds_toArray, List.set_cons_zero, List.set_cons_succ]
  refine wpAnyH_take (i := 8) (v := undef) rfl (by kernel_rfl) (by kernel_rfl) (by kernel_rfl) (fun _ _ _ h => h) (Or.inr ⟨by rfl, rfl⟩) hHeld ?_
  try simp only [Act.put, List.getElem_toArray, List.getElem_cons_zero, List.getElem_cons_succ, List.setIfInBounds_toArray, List.set_cons_zero, List.set_cons_succ]
  refine wpAnyH_take (i := 9) (v := ?_) rfl (by kernel_rfl) (by kernel_rfl) (by kernel_rfl) (fun _ _ _ h => h) (Or.inl ⟨by rfl, ?_⟩) hHeld ?_
  rotate_left 1
  · (intro w hSw; (try dsimp only at hSw); go_simp; try with_reducible rfl)
  try simp only [Act.put, List.getElem_toArray, List.getElem_cons_zero, List.getElem_cons_succ, List.setIfInBounds_toArray, List.set_cons_zero, List.set_cons_succ]
  refine wpAnyH_ready (rs := [10]) (by kernel_rfl) (by simp) (AllReadyH.cons rfl (fun K hK => ?_) AllReadyH.nil)
  clear hHeld
  have hrb7 := HRw10.out.G (G.refl w10).drew
  have HTH : Hid (w10.drew.there rb 0 8) := fun j hj => ⟨by rw [hrb7.cell, List.getElem?_eq_getElem (by simp; omega)]; rfl, hrb7.frozen _⟩
  have HB7 := hide ((((((((hrb7.set 0 (I id)).set 1 (I 3)).set 2 (.string of)).set 3 (.string ky)).set 4 (I tv)).set 5 (.string { data := #[] })).set 6 (.string { data := #[] })).set 7 (I 0))
  have HG7 : Hid (G W ((((((((w10.drew.setCell ⟨rb, 0, none⟩ (I id)).setCell ⟨rb, 1, none⟩ (I 3)).setCell ⟨rb, 2, none⟩ (.string of)).setCell ⟨rb, 3, none⟩ (.string ky)).setCell ⟨rb, 4, none⟩ (I tv)).setCell ⟨rb, 5, none⟩ (.string { data := #[] })).setCell ⟨rb, 6, none⟩ (.string { data := #[] })).setCell ⟨rb, 7, none⟩ (I 0))) := (((((((((HGw10.out.drew).setCell HLO.out (I id)).setCell HLO.out (I 3)).setCell HLO.out (.string of)).setCell HLO.out (.string ky)).setCell HLO.out (I tv)).setCell HLO.out (.string { data := #[] })).setCell HLO.out (.string { data := #[] })).setCell HLO.out (I 0))
  have HS7 : Hid ((∀ o, ((((((((w10.drew.setCell ⟨rb, 0, none⟩ (I id)).setCell ⟨rb, 1, none⟩ (I 3)).setCell ⟨rb, 2, none⟩ (.string of)).setCell ⟨rb, 3, none⟩ (.string ky)).setCell ⟨rb, 4, none⟩ (I tv)).setCell ⟨rb, 5, none⟩ (.string { data := #[] })).setCell ⟨rb, 6, none⟩ (.string { data := #[] })).setCell ⟨rb, 7, none⟩ (I 0)).cell? ⟨B0, o, none⟩ = ([I id, .string lb, .slice pa pn pc] : List Value)[o]?) ∧ (∀ o, ((((((((w10.drew.setCell ⟨rb, 0, none⟩ (I id)).setCell ⟨rb, 1, none⟩ (I 3)).setCell ⟨rb, 2, none⟩ (.string of)).setCell ⟨rb, 3, none⟩ (.string ky)).setCell ⟨rb, 4, none⟩ (I tv)).setCell ⟨rb, 5, none⟩ (.string { data := #[] })).setCell ⟨rb, 6, none⟩ (.string { data := #[] })).setCell ⟨rb, 7, none⟩ (I 0)).cell? ⟨r8, o, none⟩ = ([I id, I 3, .string of, .string ky, I tv, .string { data := #[] }, .string { data := #[] }, I 0] : List Value)[o]?)) := ⟨((((((((((((((((HNw10.out.G (G.refl w10).drew).off (b := rb) (o := 0) (v := I id) HNE.out.2.2.2)).off (b := rb) (o := 1) (v := I 3) HNE.out.2.2.2)).off (b := rb) (o := 2) (v := .string of) HNE.out.2.2.2)).off (b := rb) (o := 3) (v := .string ky) HNE.out.2.2.2)).off (b := rb) (o := 4) (v := I tv) HNE.out.2.2.2)).off (b := rb) (o := 5) (v := .string { data := #[] }) HNE.out.2.2.2)).off (b := rb) (o := 6) (v := .string { data := #[] }) HNE.out.2.2.2)).off (b := rb) (o := 7) (v := I 0) HNE.out.2.2.2).cell, ((((((((((((((((H8w10.out.G (G.refl w10).drew).off (b := rb) (o := 0) (v := I id) HNE.out.2.1.symm)).off (b := rb) (o := 1) (v := I 3) HNE.out.2.1.symm)).off (b := rb) (o := 2) (v := .string of) HNE.out.2.1.symm)).off (b := rb) (o := 3) (v := .string ky) HNE.out.2.1.symm)).off (b := rb) (o := 4) (v := I tv) HNE.out.2.1.symm)).off (b := rb) (o := 5) (v := .string { data := #[] }) HNE.out.2.1.symm)).off (b := rb) (o := 6) (v := .string { data := #[] }) HNE.out.2.1.symm)).off (b := rb) (o := 7) (v := I 0) HNE.out.2.1.symm).cell⟩
  clear hrb7
  refine (if_pos rfl).mpr ?_
  refine wp_store_mid 66 _ _ rfl rb 0 #[I id, I 3, .string of, .string ky, I tv, .string { data := #[] }, .string { data := #[] }, I 0] rfl rfl HTH.out (by kernel_rfl) (all_oneCell_toArray (cs := [I id, I 3, .string of, .string ky, I tv, .string { data := #[] }, .string { data := #[] }, I 0]) (fun v hv => one8 (by rfl) hv)) ?_
  refine hK.out _ _ (⟨HS7.out.1, HS7.out.2, HG7.out⟩) (fun hHeld => ?_)
  clear hK K
  try simp only [Act.put, List.getElem_toArray, List.getElem_cons_zero, List.getElem_cons_succ]
  refine wpAnyH_take (i := 11) (v := ?_) rfl (by kernel_rfl) (by kernel_rfl) (by kernel_rfl) (fun _ _ _ h => h) (Or.inl ⟨by rfl, ?_⟩) hHeld ?_
  rotate_left 1
  · (intro w hSw; (try dsimp only at hSw); go_simp; try with_reducible rfl)
  try simp only [Act.put, List.getElem_toArray, List.getElem_cons_zero, List.getElem_cons_succ, List.setIfInBounds_toArray, List.set_cons_zero, List.set_cons_succ]
  refine wpAnyH_done (by kernel_rfl) ?_ _
  refine NoPanic.normal ?_
  go_wp2_with fail
  exact bodyPost_ret_by (v := .tuple #[.agg #[I id, I 3, .string of, .string ky, I tv, .string { data := #[] }, .string { data := #[] }, I 0], .bool false]) (retY _ _ rb _ _ rfl rfl HB7.out rfl) rfl ⟨rfl, HG7.out⟩
set_option maxRecDepth 100000 in
set_option maxHeartbeats 4000000 in
theorem says_only_t (id : Int) (lb kk of : ByteArray) (bk : Bool) (pa : Option Addr) (pn pc : Nat) (W : World) (HK : Hid (∀ V, G W V → Calls Tryz.prog 104 #[.slice pa pn pc, .string { data := #[107, 105, 110, 100] }] V fun e W' => e = .returned (.tuple #[.string kk, .bool bk]) ∧ G V W')) (ky ty : ByteArray) (tv : Int) (HO : Hid (∀ V, G W V → Calls Tryz.prog 105 #[.slice pa pn pc, .string { data := #[111, 102] }] V fun e W' => e = .returned (.tuple #[.string of, .bool true]) ∧ G V W')) (HY : Hid (∀ V, G W V → Calls Tryz.prog 105 #[.slice pa pn pc, .string { data := #[107, 101, 121] }] V fun e W' => e = .returned (.tuple #[.string ky, .bool true]) ∧ G V W')) (HT : Hid (∀ V, G W V → Calls Tryz.prog 104 #[.slice pa pn pc, .string { data := #[116, 121, 112, 101] }] V fun e W' => e = .returned (.tuple #[.string ty, .bool true]) ∧ G V W')) (HKN : Hid (∀ V, Calls Tryz.prog 106 #[.string ty] V fun e W' => e = .returned (I tv) ∧ W' = V)) (htv : tv > 0) (e0 : (kk.toList == [117, 110, 105, 113, 117, 101]) = false) (e1 : (kk.toList == [110, 101, 101, 100, 115]) = false) (e2 : (kk.toList == [111, 110, 108, 121]) = true) : Calls Tryz.prog 68 #[.agg #[I id, .string lb, .slice pa pn pc]] W fun e W' => e = .returned (.tuple #[.agg #[I id, I 3, .string of, .string ky, I tv, .string { data := #[] }, .string { data := #[] }, I 0], .bool ((pn : Int) == 4)]) ∧ G W W' := by
  obtain ⟨w2, hw2⟩ : ∃ w2, w2 = ((W.alloc (.cells #[I id, .string lb, .slice pa pn pc] 69)).alloc (.cells #[I 0, I 0, .string { data := #[] }, .string { data := #[] }, I 0, .string { data := #[] }, .string { data := #[] }, I 0] 66)) := ⟨_, rfl⟩
  obtain ⟨B0, hB0⟩ : ∃ B0, B0 = W.heap.size := ⟨_, rfl⟩
  obtain ⟨rb, hrb⟩ : ∃ rb, rb = B0 + 1 := ⟨_, rfl⟩
  have HGw2 : Hid (G W w2) := by rw [hw2]; exact ((G.refl W).alloc _).alloc _
  have HNw2 : Hid (Blk w2 B0 69 [I id, .string lb, .slice pa pn pc]) := by rw [hw2, hB0]; exact (Blk.new W [I id, .string lb, .slice pa pn pc] 69).G ((G.refl _).alloc _)
  have HRw2 : Hid (Blk w2 rb 66 [I 0, I 0, .string { data := #[] }, .string { data := #[] }, I 0, .string { data := #[] }, .string { data := #[] }, I 0]) := by
    have := Blk.new (W.alloc (.cells #[I id, .string lb, .slice pa pn pc] 69)) [I 0, I 0, .string { data := #[] }, .string { data := #[] }, I 0, .string { data := #[] }, .string { data := #[] }, I 0] 66
    rw [Hid, hw2, hrb, hB0]
    simpa using this
  have HLO : Hid (W.heap.size ≤ rb) := by show _ ≤ _; omega
  have HEW : Hid (((W.alloc (.cells #[I id, .string lb, .slice pa pn pc] 69)).alloc (.cells #[I 0, I 0, .string { data := #[] }, .string { data := #[] }, I 0, .string { data := #[] }, .string { data := #[] }, I 0] 66)) = w2) := hw2.symm
  have HE1 : Hid (W.heap.size = B0) := hB0.symm
  have HE2 : Hid (B0 + 1 = rb) := hrb.symm
  have e0 := ((Blk.new W [I id, .string lb, .slice pa pn pc] 69).G ((G.refl _).alloc (.cells #[I 0, I 0, .string { data := #[] }, .string { data := #[] }, I 0, .string { data := #[] }, .string { data := #[] }, I 0] 66))).cell
  have cN := HNw2.out.cell
  clear hw2 hB0 hrb
  go_enter Tryz.func68, Tryz.ntmps68
  go_wp2_with (first | (rw [HEW.out]; (try rw [HE1.out]); (try rw [HE2.out]); clear HEW e0) | fail)
  try rw [HEW.out]
  try rw [HE1.out]
  try rw [HE2.out]
  clear cN
  refine (HK.out w2 HGw2.out).mono ?_
  rintro e w3 ⟨rfl, hg'⟩
  have HNw3 := hide (HNw2.out.G hg'); have HRw3 := hide (HRw2.out.G hg'); have HGw3 := hide (HGw2.out.trans hg')
  clear hg'
  have cN := HNw3.out.cell
  go_wp2_with fail
  clear cN
  refine (HO.out w3 HGw3.out).mono ?_
  rintro e w4 ⟨rfl, hg'⟩
  have HNw4 := hide (HNw3.out.G hg'); have HRw4 := hide (HRw3.out.G hg'); have HGw4 := hide (HGw3.out.trans hg')
  clear hg'
  obtain ⟨w5, hw⟩ : ∃ w, w = w4.alloc (.cells #[I id, I 0, .string of, .string { data := #[] }, I 0, .string { data := #[] }, .string { data := #[] }, I 0] 66) := ⟨_, rfl⟩
  obtain ⟨r8, hr8⟩ : ∃ r, r = w4.heap.size := ⟨_, rfl⟩
  have hg' : G w4 w5 := by rw [hw]; exact (G.refl _).alloc _
  have H8w5 : Hid (Blk w5 r8 66 [I id, I 0, .string of, .string { data := #[] }, I 0, .string { data := #[] }, .string { data := #[] }, I 0]) := by rw [Hid, hw, hr8]; exact Blk.new w4 [I id, I 0, .string of, .string { data := #[] }, I 0, .string { data := #[] }, .string { data := #[] }, I 0] 66
  have HNw5 := hide (HNw4.out.G hg'); have HRw5 := hide (HRw4.out.G hg'); have HGw5 := hide (HGw4.out.trans hg')
  have HEX : Hid (w4.alloc (.cells #[I id, I 0, .string of, .string { data := #[] }, I 0, .string { data := #[] }, .string { data := #[] }, I 0] 66) = w5) := hw.symm
  have HE8 : Hid (w4.heap.size = r8) := hr8.symm
  have HNE : Hid (B0 ≠ r8 ∧ rb ≠ r8 ∧ W.heap.size ≤ r8 ∧ B0 ≠ rb) := ⟨by have := HNw4.out.lt; omega, by have := HRw4.out.lt; omega, by have := HGw4.out.size; omega, by have := HE2.out; omega⟩
  have cN := HNw4.out.cell
  have cN2 := HNw5.out.cell
  clear hw hr8 hg'
  go_wp2_with (first | (rw [HEX.out]; (try rw [HE8.out]); clear HEX) | fail)
  try rw [HEX.out]
  (try rw [HE8.out])
  clear cN cN2
  refine (HY.out w5 HGw5.out).mono ?_
  rintro e w6 ⟨rfl, hg'⟩
  have HNw6 := hide (HNw5.out.G hg'); have HRw6 := hide (HRw5.out.G hg'); have HGw6 := hide (HGw5.out.trans hg')
  have H8w6 := hide (H8w5.out.G hg')
  clear hg'
  obtain ⟨w7, hw⟩ : ∃ w, w = ((w6.setCell ⟨r8, 3, none⟩ (.string ky)).setCell ⟨r8, 1, none⟩ (I 1)) := ⟨_, rfl⟩
  have H8w7 : Hid (Blk w7 r8 66 [I id, I 1, .string of, .string ky, I 0, .string { data := #[] }, .string { data := #[] }, I 0]) := by rw [hw]; exact ((H8w6.out.set 3 (.string ky)).set 1 (I 1))
  have HNw7 : Hid (Blk w7 B0 69 [I id, .string lb, .slice pa pn pc]) := by rw [hw]; exact ((HNw6.out.off (b := r8) (o := 3) (v := .string ky) HNE.out.1).off (b := r8) (o := 1) (v := I 1) HNE.out.1)
  have HRw7 : Hid (Blk w7 rb 66 [I 0, I 0, .string { data := #[] }, .string { data := #[] }, I 0, .string { data := #[] }, .string { data := #[] }, I 0]) := by rw [hw]; exact ((HRw6.out.off (b := r8) (o := 3) (v := .string ky) HNE.out.2.1).off (b := r8) (o := 1) (v := I 1) HNE.out.2.1)
  have HGw7 : Hid (G W w7) := by rw [hw]; exact ((HGw6.out.setCell HNE.out.2.2.1 (.string ky)).setCell HNE.out.2.2.1 (I 1))
  have HES : Hid (((w6.setCell ⟨r8, 3, none⟩ (.string ky)).setCell ⟨r8, 1, none⟩ (I 1)) = w7) := hw.symm
  clear hw
  have cN := HNw6.out.cell
  have c8 := H8w6.out.cell
  have z8 := H8w6.out.frozen
  have cNx : ∀ o, ((w6.setCell ⟨r8, 3, none⟩ (.string ky)).setCell ⟨r8, 1, none⟩ (I 1)).cell? ⟨B0, o, none⟩ = ([I id, .string lb, .slice pa pn pc] : List Value)[o]? := by rw [HES.out]; exact HNw7.out.cell
  have c8x : ∀ o, ((w6.setCell ⟨r8, 3, none⟩ (.string ky)).setCell ⟨r8, 1, none⟩ (I 1)).cell? ⟨r8, o, none⟩ = ([I id, I 1, .string of, .string ky, I 0, .string { data := #[] }, .string { data := #[] }, I 0] : List Value)[o]? := by rw [HES.out]; exact H8w7.out.cell
  have cNo := HNw7.out.cell
  have c8o := H8w7.out.cell
  go_wp2_with (first | (rw [HES.out]; clear HES) | (rw [HEX.out]; (try rw [HE8.out]); clear HEX) | (rw [HEV.out]; (try rw [HEB.out]); clear HEV) | fail)
  try rw [HEX.out]
  (try rw [HE8.out])
  try rw [HES.out]
  clear cN c8 z8 cNx c8x cNo c8o
  refine (HT.out w7 HGw7.out).mono ?_
  rintro e w8 ⟨rfl, hg'⟩
  have HNw8 := hide (HNw7.out.G hg'); have HRw8 := hide (HRw7.out.G hg'); have HGw8 := hide (HGw7.out.trans hg')
  have H8w8 := hide (H8w7.out.G hg')
  clear hg'
  obtain ⟨w9, hw⟩ : ∃ w, w = (w8.setCell ⟨r8, 1, none⟩ (I 3)) := ⟨_, rfl⟩
  have H8w9 : Hid (Blk w9 r8 66 [I id, I 3, .string of, .string ky, I 0, .string { data := #[] }, .string { data := #[] }, I 0]) := by rw [hw]; exact (H8w8.out.set 1 (I 3))
  have HNw9 : Hid (Blk w9 B0 69 [I id, .string lb, .slice pa pn pc]) := by rw [hw]; exact (HNw8.out.off (b := r8) (o := 1) (v := I 3) HNE.out.1)
  have HRw9 : Hid (Blk w9 rb 66 [I 0, I 0, .string { data := #[] }, .string { data := #[] }, I 0, .string { data := #[] }, .string { data := #[] }, I 0]) := by rw [hw]; exact (HRw8.out.off (b := r8) (o := 1) (v := I 3) HNE.out.2.1)
  have HGw9 : Hid (G W w9) := by rw [hw]; exact (HGw8.out.setCell HNE.out.2.2.1 (I 3))
  have HES : Hid ((w8.setCell ⟨r8, 1, none⟩ (I 3)) = w9) := hw.symm
  clear hw
  have cN := HNw8.out.cell
  have c8 := H8w8.out.cell
  have z8 := H8w8.out.frozen
  have cNx : ∀ o, (w8.setCell ⟨r8, 1, none⟩ (I 3)).cell? ⟨B0, o, none⟩ = ([I id, .string lb, .slice pa pn pc] : List Value)[o]? := by rw [HES.out]; exact HNw9.out.cell
  have c8x : ∀ o, (w8.setCell ⟨r8, 1, none⟩ (I 3)).cell? ⟨r8, o, none⟩ = ([I id, I 3, .string of, .string ky, I 0, .string { data := #[] }, .string { data := #[] }, I 0] : List Value)[o]? := by rw [HES.out]; exact H8w9.out.cell
  have cNo := HNw9.out.cell
  have c8o := H8w9.out.cell
  go_wp2_with (first | (rw [HES.out]; clear HES) | (rw [HEX.out]; (try rw [HE8.out]); clear HEX) | (rw [HEV.out]; (try rw [HEB.out]); clear HEV) | fail)
  try rw [HEX.out]
  (try rw [HE8.out])
  try rw [HES.out]
  clear cN c8 z8 cNx c8x cNo c8o
  refine (HKN.out w9).mono ?_
  rintro e w' ⟨rfl, h9⟩
  subst w'
  obtain ⟨w10, hw⟩ : ∃ w, w = (w9.setCell ⟨r8, 4, none⟩ (I tv)) := ⟨_, rfl⟩
  have H8w10 : Hid (Blk w10 r8 66 [I id, I 3, .string of, .string ky, I tv, .string { data := #[] }, .string { data := #[] }, I 0]) := by rw [hw]; exact (H8w9.out.set 4 (I tv))
  have HNw10 : Hid (Blk w10 B0 69 [I id, .string lb, .slice pa pn pc]) := by rw [hw]; exact (HNw9.out.off (b := r8) (o := 4) (v := I tv) HNE.out.1)
  have HRw10 : Hid (Blk w10 rb 66 [I 0, I 0, .string { data := #[] }, .string { data := #[] }, I 0, .string { data := #[] }, .string { data := #[] }, I 0]) := by rw [hw]; exact (HRw9.out.off (b := r8) (o := 4) (v := I tv) HNE.out.2.1)
  have HGw10 : Hid (G W w10) := by rw [hw]; exact (HGw9.out.setCell HNE.out.2.2.1 (I tv))
  have HES : Hid ((w9.setCell ⟨r8, 4, none⟩ (I tv)) = w10) := hw.symm
  clear hw
  have cN := HNw9.out.cell
  have c8 := H8w9.out.cell
  have z8 := H8w9.out.frozen
  have cNx : ∀ o, (w9.setCell ⟨r8, 4, none⟩ (I tv)).cell? ⟨B0, o, none⟩ = ([I id, .string lb, .slice pa pn pc] : List Value)[o]? := by rw [HES.out]; exact HNw10.out.cell
  have c8x : ∀ o, (w9.setCell ⟨r8, 4, none⟩ (I tv)).cell? ⟨r8, o, none⟩ = ([I id, I 3, .string of, .string ky, I tv, .string { data := #[] }, .string { data := #[] }, I 0] : List Value)[o]? := by rw [HES.out]; exact H8w10.out.cell
  have cNo := HNw10.out.cell
  have c8o := H8w10.out.cell
  go_wp2_with (first | (rw [HES.out]; clear HES) | (rw [HEX.out]; (try rw [HE8.out]); clear HEX) | (rw [HEV.out]; (try rw [HEB.out]); clear HEV) | fail)
  try rw [HEX.out]
  (try rw [HE8.out])
  try rw [HES.out]
  clear cN c8 z8 cNx c8x cNo c8o
  refine wp_region_noPanic ?_
  refine wp_region_held_drew (S := (fun V => (∀ o, V.cell? ⟨B0, o, none⟩ = ([I id, .string lb, .slice pa pn pc] : List Value)[o]?) ∧ (∀ o, V.cell? ⟨r8, o, none⟩ = ([I id, I 3, .string of, .string ky, I tv, .string { data := #[] }, .string { data := #[] }, I 0] : List Value)[o]?) ∧ G W V)) (by kernel_rfl) (⟨(HNw10.out.G (G.refl _).drew).cell, (H8w10.out.G (G.refl _).drew).cell, HGw10.out.drew⟩) (fun hHeld => ?_)
  refine wpAnyH_take (i := 0) (v := ?_) rfl (by kernel_rfl) (by kernel_rfl) (by kernel_rfl) (fun _ _ _ h => h) (Or.inl ⟨by rfl, ?_⟩) hHeld ?_
  rotate_left 1
  · (intro w hSw; obtain ⟨k1, k2, -⟩ := hSw; go_simp; try with_reducible rfl)
  try simp only [Act.put, List.getElem_toArray, List.getElem_cons_zero, List.setIfInBounds_toArray, List.set_cons_zero, List.set_cons_succ]
  refine wpAnyH_take (i := 1) (v := ?_) rfl (by kernel_rfl) (by kernel_rfl) (by kernel_rfl) (fun _ _ _ h => h) (Or.inl ⟨by rfl, ?_⟩) hHeld ?_
  rotate_left 1
  · (intro w hSw; (try dsimp only at hSw); go_simp; try with_reducible rfl)
  try simp only [Act.put, List.getElem_toArray, List.getElem_cons_zero, List.getElem_cons_succ, List.setIfInBounds_toArray, List.set_cons_zero, List.set_cons_succ]
  refine wpAnyH_take (i := 2) (v := ?_) rfl (by kernel_rfl) (by kernel_rfl) (by kernel_rfl) (fun _ _ _ h => h) (Or.inl ⟨by rfl, ?_⟩) hHeld ?_
  rotate_left 1
  · (intro w hSw; (try dsimp only at hSw); go_simp; try with_reducible rfl)
  try simp only [Act.put, List.getElem_toArray, List.getElem_cons_zero, List.getElem_cons_succ, List.setIfInBounds_toArray, List.set_cons_zero, List.set_cons_succ]
  refine wpAnyH_take (i := 3) (v := ?_) rfl (by kernel_rfl) (by kernel_rfl) (by kernel_rfl) (fun _ _ _ h => h) (Or.inl ⟨by rfl, ?_⟩) hHeld ?_
  rotate_left 1
  · (intro w hSw; (try dsimp only at hSw); go_simp; try with_reducible rfl)
  try simp only [Act.put, List.getElem_toArray, List.getElem_cons_zero, List.getElem_cons_succ, List.setIfInBounds_toArray, List.set_cons_zero, List.set_cons_succ]
  refine wpAnyH_take (i := 4) (v := ?_) rfl (by kernel_rfl) (by kernel_rfl) (by kernel_rfl) (fun _ _ _ h => h) (Or.inl ⟨by rfl, ?_⟩) hHeld ?_
  rotate_left 1
  · (intro w hSw; obtain ⟨k1, k2, -⟩ := hSw; go_simp; try with_reducible rfl)
  try simp only [Act.put, List.getElem_toArray, List.getElem_cons_zero, List.getElem_cons_succ, List.setIfInBounds_toArray, List.set_cons_zero, List.set_cons_succ]
  refine wpAnyH_take (i := 5) (v := ?_) rfl (by kernel_rfl) (by kernel_rfl) (by kernel_rfl) (fun _ _ _ h => h) (Or.inl ⟨by rfl, ?_⟩) hHeld ?_
  rotate_left 1
  · (intro w hSw; (try dsimp only at hSw); go_simp; try with_reducible rfl)
  try simp only [Act.put, List.getElem_toArray, List.getElem_cons_zero, List.getElem_cons_succ, List.setIfInBounds_toArray, List.set_cons_zero, List.set_cons_succ]
  refine wpAnyH_take (i := 6) (v := ?_) rfl (by kernel_rfl) (by kernel_rfl) (by kernel_rfl) (fun _ _ _ h => h) (Or.inl ⟨by rfl, ?_⟩) hHeld ?_
  rotate_left 1
  · (intro w hSw; (try dsimp only at hSw); go_simp; try with_reducible rfl)
  try simp only [Act.put, List.getElem_toArray, List.getElem_cons_zero, List.getElem_cons_succ, List.setIfInBounds_toArray, List.set_cons_zero, List.set_cons_succ]
  refine wpAnyH_take (i := 7) (v := ?_) rfl (by kernel_rfl) (by kernel_rfl) (by kernel_rfl) (fun _ _ _ h => h) (Or.inl ⟨by rfl, ?_⟩) hHeld ?_
  rotate_left 1
  · (intro w hSw; (try dsimp only at hSw); go_simp; try with_reducible rfl)
  try simp only [Act.put, List.getElem_toArray, List.getElem_cons_zero, List.getElem_cons_succ, List.setIfInBounds_toArray, List.set_cons_zero, List.set_cons_succ]
  refine wpAnyH_take (i := 8) (v := ?_) rfl (by kernel_rfl) (by kernel_rfl) (by kernel_rfl) (fun _ _ _ h => h) (Or.inl ⟨by rfl, ?_⟩) hHeld ?_
  rotate_left 1
  · (intro w hSw; (try dsimp only at hSw); go_simp; try with_reducible rfl)
  try simp only [Act.put, List.getElem_toArray, List.getElem_cons_zero, List.getElem_cons_succ, List.setIfInBounds_toArray, List.set_cons_zero, List.set_cons_succ]
  refine wpAnyH_take (i := 9) (v := ?_) rfl (by kernel_rfl) (by kernel_rfl) (by kernel_rfl) (fun _ _ _ h => h) (Or.inl ⟨by rfl, ?_⟩) hHeld ?_
  rotate_left 1
  · (intro w hSw; (try dsimp only at hSw); go_simp; try with_reducible rfl)
  try simp only [Act.put, List.getElem_toArray, List.getElem_cons_zero, List.getElem_cons_succ, List.setIfInBounds_toArray, List.set_cons_zero, List.set_cons_succ]
  refine wpAnyH_ready (rs := [10]) (by kernel_rfl) (by simp) (AllReadyH.cons rfl (fun K hK => ?_) AllReadyH.nil)
  clear hHeld
  have hrb7 := HRw10.out.G (G.refl w10).drew
  have HTH : Hid (w10.drew.there rb 0 8) := fun j hj => ⟨by rw [hrb7.cell, List.getElem?_eq_getElem (by simp; omega)]; rfl, hrb7.frozen _⟩
  have HB7 := hide ((((((((hrb7.set 0 (I id)).set 1 (I 3)).set 2 (.string of)).set 3 (.string ky)).set 4 (I tv)).set 5 (.string { data := #[] })).set 6 (.string { data := #[] })).set 7 (I 0))
  have HG7 : Hid (G W ((((((((w10.drew.setCell ⟨rb, 0, none⟩ (I id)).setCell ⟨rb, 1, none⟩ (I 3)).setCell ⟨rb, 2, none⟩ (.string of)).setCell ⟨rb, 3, none⟩ (.string ky)).setCell ⟨rb, 4, none⟩ (I tv)).setCell ⟨rb, 5, none⟩ (.string { data := #[] })).setCell ⟨rb, 6, none⟩ (.string { data := #[] })).setCell ⟨rb, 7, none⟩ (I 0))) := (((((((((HGw10.out.drew).setCell HLO.out (I id)).setCell HLO.out (I 3)).setCell HLO.out (.string of)).setCell HLO.out (.string ky)).setCell HLO.out (I tv)).setCell HLO.out (.string { data := #[] })).setCell HLO.out (.string { data := #[] })).setCell HLO.out (I 0))
  have HS7 : Hid ((∀ o, ((((((((w10.drew.setCell ⟨rb, 0, none⟩ (I id)).setCell ⟨rb, 1, none⟩ (I 3)).setCell ⟨rb, 2, none⟩ (.string of)).setCell ⟨rb, 3, none⟩ (.string ky)).setCell ⟨rb, 4, none⟩ (I tv)).setCell ⟨rb, 5, none⟩ (.string { data := #[] })).setCell ⟨rb, 6, none⟩ (.string { data := #[] })).setCell ⟨rb, 7, none⟩ (I 0)).cell? ⟨B0, o, none⟩ = ([I id, .string lb, .slice pa pn pc] : List Value)[o]?) ∧ (∀ o, ((((((((w10.drew.setCell ⟨rb, 0, none⟩ (I id)).setCell ⟨rb, 1, none⟩ (I 3)).setCell ⟨rb, 2, none⟩ (.string of)).setCell ⟨rb, 3, none⟩ (.string ky)).setCell ⟨rb, 4, none⟩ (I tv)).setCell ⟨rb, 5, none⟩ (.string { data := #[] })).setCell ⟨rb, 6, none⟩ (.string { data := #[] })).setCell ⟨rb, 7, none⟩ (I 0)).cell? ⟨r8, o, none⟩ = ([I id, I 3, .string of, .string ky, I tv, .string { data := #[] }, .string { data := #[] }, I 0] : List Value)[o]?)) := ⟨((((((((((((((((HNw10.out.G (G.refl w10).drew).off (b := rb) (o := 0) (v := I id) HNE.out.2.2.2)).off (b := rb) (o := 1) (v := I 3) HNE.out.2.2.2)).off (b := rb) (o := 2) (v := .string of) HNE.out.2.2.2)).off (b := rb) (o := 3) (v := .string ky) HNE.out.2.2.2)).off (b := rb) (o := 4) (v := I tv) HNE.out.2.2.2)).off (b := rb) (o := 5) (v := .string { data := #[] }) HNE.out.2.2.2)).off (b := rb) (o := 6) (v := .string { data := #[] }) HNE.out.2.2.2)).off (b := rb) (o := 7) (v := I 0) HNE.out.2.2.2).cell, ((((((((((((((((H8w10.out.G (G.refl w10).drew).off (b := rb) (o := 0) (v := I id) HNE.out.2.1.symm)).off (b := rb) (o := 1) (v := I 3) HNE.out.2.1.symm)).off (b := rb) (o := 2) (v := .string of) HNE.out.2.1.symm)).off (b := rb) (o := 3) (v := .string ky) HNE.out.2.1.symm)).off (b := rb) (o := 4) (v := I tv) HNE.out.2.1.symm)).off (b := rb) (o := 5) (v := .string { data := #[] }) HNE.out.2.1.symm)).off (b := rb) (o := 6) (v := .string { data := #[] }) HNE.out.2.1.symm)).off (b := rb) (o := 7) (v := I 0) HNE.out.2.1.symm).cell⟩
  clear hrb7
  refine (if_pos rfl).mpr ?_
  refine wp_store_mid 66 _ _ rfl rb 0 #[I id, I 3, .string of, .string ky, I tv, .string { data := #[] }, .string { data := #[] }, I 0] rfl rfl HTH.out (by kernel_rfl) (all_oneCell_toArray (cs := [I id, I 3, .string of, .string ky, I tv, .string { data := #[] }, .string { data := #[] }, I 0]) (fun v hv => one8 (by rfl) hv)) ?_
  refine hK.out _ _ (⟨HS7.out.1, HS7.out.2, HG7.out⟩) (fun hHeld => ?_)
  clear hK K
  try simp only [Act.put, List.getElem_toArray, List.getElem_cons_zero, List.getElem_cons_succ]
  refine wpAnyH_take (i := 11) (v := ?_) rfl (by kernel_rfl) (by kernel_rfl) (by kernel_rfl) (fun _ _ _ h => h) (Or.inl ⟨by rfl, ?_⟩) hHeld ?_
  rotate_left 1
  · (intro w hSw; (try dsimp only at hSw); go_simp; try with_reducible rfl)
  try simp only [Act.put, List.getElem_toArray, List.getElem_cons_zero, List.getElem_cons_succ, List.setIfInBounds_toArray, List.set_cons_zero, List.set_cons_succ]
  refine wpAnyH_done (by kernel_rfl) ?_ _
  refine NoPanic.normal ?_
  go_wp2_with fail
  exact bodyPost_ret_by (v := .tuple #[.agg #[I id, I 3, .string of, .string ky, I tv, .string { data := #[] }, .string { data := #[] }, I 0], .bool _]) (retY _ _ rb _ _ rfl rfl HB7.out rfl) rfl ⟨rfl, HG7.out⟩
set_option maxRecDepth 100000 in
set_option maxHeartbeats 4000000 in
theorem says_link_f (id : Int) (lb kk of : ByteArray) (bk : Bool) (pa : Option Addr) (pn pc : Nat) (W : World) (HK : Hid (∀ V, G W V → Calls Tryz.prog 104 #[.slice pa pn pc, .string { data := #[107, 105, 110, 100] }] V fun e W' => e = .returned (.tuple #[.string kk, .bool bk]) ∧ G V W')) (fr dst : ByteArray) (bd : Bool) (HO : Hid (∀ V, G W V → Calls Tryz.prog 105 #[.slice pa pn pc, .string { data := #[111, 102] }] V fun e W' => e = .returned (.tuple #[.string of, .bool true]) ∧ G V W')) (HLF : Hid (∀ V, G W V → Calls Tryz.prog 105 #[.slice pa pn pc, .string { data := #[102, 114, 111, 109] }] V fun e W' => e = .returned (.tuple #[.string fr, .bool false]) ∧ G V W')) (HLT : Hid (∀ V, G W V → Calls Tryz.prog 105 #[.slice pa pn pc, .string { data := #[116, 111] }] V fun e W' => e = .returned (.tuple #[.string dst, .bool bd]) ∧ G V W')) (e0 : (kk.toList == [117, 110, 105, 113, 117, 101]) = false) (e1 : (kk.toList == [110, 101, 101, 100, 115]) = false) (e2 : (kk.toList == [111, 110, 108, 121]) = false) (e3 : (kk.toList == [108, 105, 110, 107]) = true) : Calls Tryz.prog 68 #[.agg #[I id, .string lb, .slice pa pn pc]] W fun e W' => e = .returned (.tuple #[.agg #[I id, I 4, .string of, .string { data := #[] }, I 0, .string fr, .string dst, I 0], .bool false]) ∧ G W W' := by
  obtain ⟨w2, hw2⟩ : ∃ w2, w2 = ((W.alloc (.cells #[I id, .string lb, .slice pa pn pc] 69)).alloc (.cells #[I 0, I 0, .string { data := #[] }, .string { data := #[] }, I 0, .string { data := #[] }, .string { data := #[] }, I 0] 66)) := ⟨_, rfl⟩
  obtain ⟨B0, hB0⟩ : ∃ B0, B0 = W.heap.size := ⟨_, rfl⟩
  obtain ⟨rb, hrb⟩ : ∃ rb, rb = B0 + 1 := ⟨_, rfl⟩
  have HGw2 : Hid (G W w2) := by rw [hw2]; exact ((G.refl W).alloc _).alloc _
  have HNw2 : Hid (Blk w2 B0 69 [I id, .string lb, .slice pa pn pc]) := by rw [hw2, hB0]; exact (Blk.new W [I id, .string lb, .slice pa pn pc] 69).G ((G.refl _).alloc _)
  have HRw2 : Hid (Blk w2 rb 66 [I 0, I 0, .string { data := #[] }, .string { data := #[] }, I 0, .string { data := #[] }, .string { data := #[] }, I 0]) := by
    have := Blk.new (W.alloc (.cells #[I id, .string lb, .slice pa pn pc] 69)) [I 0, I 0, .string { data := #[] }, .string { data := #[] }, I 0, .string { data := #[] }, .string { data := #[] }, I 0] 66
    rw [Hid, hw2, hrb, hB0]
    simpa using this
  have HLO : Hid (W.heap.size ≤ rb) := by show _ ≤ _; omega
  have HEW : Hid (((W.alloc (.cells #[I id, .string lb, .slice pa pn pc] 69)).alloc (.cells #[I 0, I 0, .string { data := #[] }, .string { data := #[] }, I 0, .string { data := #[] }, .string { data := #[] }, I 0] 66)) = w2) := hw2.symm
  have HE1 : Hid (W.heap.size = B0) := hB0.symm
  have HE2 : Hid (B0 + 1 = rb) := hrb.symm
  have e0 := ((Blk.new W [I id, .string lb, .slice pa pn pc] 69).G ((G.refl _).alloc (.cells #[I 0, I 0, .string { data := #[] }, .string { data := #[] }, I 0, .string { data := #[] }, .string { data := #[] }, I 0] 66))).cell
  have cN := HNw2.out.cell
  clear hw2 hB0 hrb
  go_enter Tryz.func68, Tryz.ntmps68
  go_wp2_with (first | (rw [HEW.out]; (try rw [HE1.out]); (try rw [HE2.out]); clear HEW e0) | fail)
  try rw [HEW.out]
  try rw [HE1.out]
  try rw [HE2.out]
  clear cN
  refine (HK.out w2 HGw2.out).mono ?_
  rintro e w3 ⟨rfl, hg'⟩
  have HNw3 := hide (HNw2.out.G hg'); have HRw3 := hide (HRw2.out.G hg'); have HGw3 := hide (HGw2.out.trans hg')
  clear hg'
  have cN := HNw3.out.cell
  go_wp2_with fail
  clear cN
  refine (HO.out w3 HGw3.out).mono ?_
  rintro e w4 ⟨rfl, hg'⟩
  have HNw4 := hide (HNw3.out.G hg'); have HRw4 := hide (HRw3.out.G hg'); have HGw4 := hide (HGw3.out.trans hg')
  clear hg'
  obtain ⟨w5, hw⟩ : ∃ w, w = w4.alloc (.cells #[I id, I 0, .string of, .string { data := #[] }, I 0, .string { data := #[] }, .string { data := #[] }, I 0] 66) := ⟨_, rfl⟩
  obtain ⟨r8, hr8⟩ : ∃ r, r = w4.heap.size := ⟨_, rfl⟩
  have hg' : G w4 w5 := by rw [hw]; exact (G.refl _).alloc _
  have H8w5 : Hid (Blk w5 r8 66 [I id, I 0, .string of, .string { data := #[] }, I 0, .string { data := #[] }, .string { data := #[] }, I 0]) := by rw [Hid, hw, hr8]; exact Blk.new w4 [I id, I 0, .string of, .string { data := #[] }, I 0, .string { data := #[] }, .string { data := #[] }, I 0] 66
  have HNw5 := hide (HNw4.out.G hg'); have HRw5 := hide (HRw4.out.G hg'); have HGw5 := hide (HGw4.out.trans hg')
  have HEX : Hid (w4.alloc (.cells #[I id, I 0, .string of, .string { data := #[] }, I 0, .string { data := #[] }, .string { data := #[] }, I 0] 66) = w5) := hw.symm
  have HE8 : Hid (w4.heap.size = r8) := hr8.symm
  have HNE : Hid (B0 ≠ r8 ∧ rb ≠ r8 ∧ W.heap.size ≤ r8 ∧ B0 ≠ rb) := ⟨by have := HNw4.out.lt; omega, by have := HRw4.out.lt; omega, by have := HGw4.out.size; omega, by have := HE2.out; omega⟩
  have cN := HNw4.out.cell
  have cN2 := HNw5.out.cell
  clear hw hr8 hg'
  go_wp2_with (first | (rw [HEX.out]; (try rw [HE8.out]); clear HEX) | fail)
  try rw [HEX.out]
  (try rw [HE8.out])
  clear cN cN2
  refine (HLF.out w5 HGw5.out).mono ?_
  rintro e w6 ⟨rfl, hg'⟩
  have HNw6 := hide (HNw5.out.G hg'); have HRw6 := hide (HRw5.out.G hg'); have HGw6 := hide (HGw5.out.trans hg')
  have H8w6 := hide (H8w5.out.G hg')
  clear hg'
  have cN := HNw6.out.cell
  have c8 := H8w6.out.cell
  have z8 := H8w6.out.frozen
  go_wp2_with fail
  clear cN
  clear c8 z8
  refine (HLT.out w6 HGw6.out).mono ?_
  rintro e w7 ⟨rfl, hg'⟩
  have HNw7 := hide (HNw6.out.G hg'); have HRw7 := hide (HRw6.out.G hg'); have HGw7 := hide (HGw6.out.trans hg')
  have H8w7 := hide (H8w6.out.G hg')
  clear hg'
  obtain ⟨w8, hw⟩ : ∃ w, w = (((w7.setCell ⟨r8, 1, none⟩ (I 4)).setCell ⟨r8, 5, none⟩ (.string fr)).setCell ⟨r8, 6, none⟩ (.string dst)) := ⟨_, rfl⟩
  have H8w8 : Hid (Blk w8 r8 66 [I id, I 4, .string of, .string { data := #[] }, I 0, .string fr, .string dst, I 0]) := by rw [hw]; exact (((H8w7.out.set 1 (I 4)).set 5 (.string fr)).set 6 (.string dst))
  have HNw8 : Hid (Blk w8 B0 69 [I id, .string lb, .slice pa pn pc]) := by rw [hw]; exact (((HNw7.out.off (b := r8) (o := 1) (v := I 4) HNE.out.1).off (b := r8) (o := 5) (v := .string fr) HNE.out.1).off (b := r8) (o := 6) (v := .string dst) HNE.out.1)
  have HRw8 : Hid (Blk w8 rb 66 [I 0, I 0, .string { data := #[] }, .string { data := #[] }, I 0, .string { data := #[] }, .string { data := #[] }, I 0]) := by rw [hw]; exact (((HRw7.out.off (b := r8) (o := 1) (v := I 4) HNE.out.2.1).off (b := r8) (o := 5) (v := .string fr) HNE.out.2.1).off (b := r8) (o := 6) (v := .string dst) HNE.out.2.1)
  have HGw8 : Hid (G W w8) := by rw [hw]; exact (((HGw7.out.setCell HNE.out.2.2.1 (I 4)).setCell HNE.out.2.2.1 (.string fr)).setCell HNE.out.2.2.1 (.string dst))
  have HES : Hid ((((w7.setCell ⟨r8, 1, none⟩ (I 4)).setCell ⟨r8, 5, none⟩ (.string fr)).setCell ⟨r8, 6, none⟩ (.string dst)) = w8) := hw.symm
  clear hw
  have cN := HNw7.out.cell
  have c8 := H8w7.out.cell
  have z8 := H8w7.out.frozen
  have cNx : ∀ o, (((w7.setCell ⟨r8, 1, none⟩ (I 4)).setCell ⟨r8, 5, none⟩ (.string fr)).setCell ⟨r8, 6, none⟩ (.string dst)).cell? ⟨B0, o, none⟩ = ([I id, .string lb, .slice pa pn pc] : List Value)[o]? := by rw [HES.out]; exact HNw8.out.cell
  have c8x : ∀ o, (((w7.setCell ⟨r8, 1, none⟩ (I 4)).setCell ⟨r8, 5, none⟩ (.string fr)).setCell ⟨r8, 6, none⟩ (.string dst)).cell? ⟨r8, o, none⟩ = ([I id, I 4, .string of, .string { data := #[] }, I 0, .string fr, .string dst, I 0] : List Value)[o]? := by rw [HES.out]; exact H8w8.out.cell
  have cNo := HNw8.out.cell
  have c8o := H8w8.out.cell
  go_wp2_with (first | (rw [HES.out]; clear HES) | (rw [HEX.out]; (try rw [HE8.out]); clear HEX) | (rw [HEV.out]; (try rw [HEB.out]); clear HEV) | fail)
  try rw [HEX.out]
  (try rw [HE8.out])
  try rw [HES.out]
  clear cN c8 z8 cNx c8x cNo c8o
  refine wp_region_noPanic ?_
  refine wp_region_held_drew (S := (fun V => (∀ o, V.cell? ⟨B0, o, none⟩ = ([I id, .string lb, .slice pa pn pc] : List Value)[o]?) ∧ (∀ o, V.cell? ⟨r8, o, none⟩ = ([I id, I 4, .string of, .string { data := #[] }, I 0, .string fr, .string dst, I 0] : List Value)[o]?) ∧ G W V)) (by kernel_rfl) (⟨(HNw8.out.G (G.refl _).drew).cell, (H8w8.out.G (G.refl _).drew).cell, HGw8.out.drew⟩) (fun hHeld => ?_)
  refine wpAnyH_take (i := 0) (v := ?_) rfl (by kernel_rfl) (by kernel_rfl) (by kernel_rfl) (fun _ _ _ h => h) (Or.inl ⟨by rfl, ?_⟩) hHeld ?_
  rotate_left 1
  · (intro w hSw; obtain ⟨k1, k2, -⟩ := hSw; go_simp; try with_reducible rfl)
  try simp only [Act.put, List.getElem_toArray, List.getElem_cons_zero, List.setIfInBounds_toArray, List.set_cons_zero, List.set_cons_succ]
  refine wpAnyH_take (i := 1) (v := ?_) rfl (by kernel_rfl) (by kernel_rfl) (by kernel_rfl) (fun _ _ _ h => h) (Or.inl ⟨by rfl, ?_⟩) hHeld ?_
  rotate_left 1
  · (intro w hSw; (try dsimp only at hSw); go_simp; try with_reducible rfl)
  try simp only [Act.put, List.getElem_toArray, List.getElem_cons_zero, List.getElem_cons_succ, List.setIfInBounds_toArray, List.set_cons_zero, List.set_cons_succ]
  refine wpAnyH_take (i := 2) (v := ?_) rfl (by kernel_rfl) (by kernel_rfl) (by kernel_rfl) (fun _ _ _ h => h) (Or.inl ⟨by rfl, ?_⟩) hHeld ?_
  rotate_left 1
  · (intro w hSw; (try dsimp only at hSw); go_simp; try with_reducible rfl)
  try simp only [Act.put, List.getElem_toArray, List.getElem_cons_zero, List.getElem_cons_succ, List.setIfInBounds_toArray, List.set_cons_zero, List.set_cons_succ]
  refine wpAnyH_take (i := 3) (v := undef) rfl (by kernel_rfl) (by kernel_rfl) (by kernel_rfl) (fun _ _ _ h => h) (Or.inr ⟨by rfl, rfl⟩) hHeld ?_
  try simp only [Act.put, List.getElem_toArray, List.getElem_cons_zero, List.getElem_cons_succ, List.setIfInBounds_toArray, List.set_cons_zero, List.set_cons_succ]
  refine wpAnyH_take (i := 4) (v := undef) rfl (by kernel_rfl) (by kernel_rfl) (by kernel_rfl) (fun _ _ _ h => h) (Or.inr ⟨by rfl, rfl⟩) hHeld ?_
  try simp only [Act.put, List.getElem_toArray, List.getElem_cons_zero, List.getElem_cons_succ, List.setIfInBounds_toArray, List.set_cons_zero, List.set_cons_succ]
  refine wpAnyH_take (i := 5) (v := undef) rfl (by kernel_rfl) (by kernel_rfl) (by kernel_rfl) (fun _ _ _ h => h) (Or.inr ⟨by rfl, rfl⟩) hHeld ?_
  try simp only [Act.put, List.getElem_toArray, List.getElem_cons_zero, List.getElem_cons_succ, List.setIfInBounds_toArray, List.set_cons_zero, List.set_cons_succ]
  refine wpAnyH_take (i := 6) (v := undef) rfl (by kernel_rfl) (by kernel_rfl) (by kernel_rfl) (fun _ _ _ h => h) (Or.inr ⟨by rfl, rfl⟩) hHeld ?_
  try simp only [Act.put, List.getElem_toArray, List.getElem_cons_zero, List.getElem_cons_succ, List.setIfInBounds_toArray, List.set_cons_zero, List.set_cons_succ]
  refine wpAnyH_take (i := 7) (v := undef) rfl (by kernel_rfl) (by kernel_rfl) (by kernel_rfl) (fun _ _ _ h => h) (Or.inr ⟨by rfl, rfl⟩) hHeld ?_
  try simp only [Act.put, List.getElem_toArray, List.getElem_cons_zero, List.getElem_cons_succ, List.setIfInBounds_toArray, List.set_cons_zero, List.set_cons_succ]
  refine wpAnyH_take (i := 8) (v := undef) rfl (by kernel_rfl) (by kernel_rfl) (by kernel_rfl) (fun _ _ _ h => h) (Or.inr ⟨by rfl, rfl⟩) hHeld ?_
  try simp only [Act.put, List.getElem_toArray, List.getElem_cons_zero, List.getElem_cons_succ, List.setIfInBounds_toArray, List.set_cons_zero, List.set_cons_succ]
  refine wpAnyH_take (i := 9) (v := ?_) rfl (by kernel_rfl) (by kernel_rfl) (by kernel_rfl) (fun _ _ _ h => h) (Or.inl ⟨by rfl, ?_⟩) hHeld ?_
  rotate_left 1
  · (intro w hSw; (try dsimp only at hSw); go_simp; try with_reducible rfl)
  try simp only [Act.put, List.getElem_toArray, List.getElem_cons_zero, List.getElem_cons_succ, List.setIfInBounds_toArray, List.set_cons_zero, List.set_cons_succ]
  refine wpAnyH_ready (rs := [10]) (by kernel_rfl) (by simp) (AllReadyH.cons rfl (fun K hK => ?_) AllReadyH.nil)
  clear hHeld
  have hrb7 := HRw8.out.G (G.refl w8).drew
  have HTH : Hid (w8.drew.there rb 0 8) := fun j hj => ⟨by rw [hrb7.cell, List.getElem?_eq_getElem (by simp; omega)]; rfl, hrb7.frozen _⟩
  have HB7 := hide ((((((((hrb7.set 0 (I id)).set 1 (I 4)).set 2 (.string of)).set 3 (.string { data := #[] })).set 4 (I 0)).set 5 (.string fr)).set 6 (.string dst)).set 7 (I 0))
  have HG7 : Hid (G W ((((((((w8.drew.setCell ⟨rb, 0, none⟩ (I id)).setCell ⟨rb, 1, none⟩ (I 4)).setCell ⟨rb, 2, none⟩ (.string of)).setCell ⟨rb, 3, none⟩ (.string { data := #[] })).setCell ⟨rb, 4, none⟩ (I 0)).setCell ⟨rb, 5, none⟩ (.string fr)).setCell ⟨rb, 6, none⟩ (.string dst)).setCell ⟨rb, 7, none⟩ (I 0))) := (((((((((HGw8.out.drew).setCell HLO.out (I id)).setCell HLO.out (I 4)).setCell HLO.out (.string of)).setCell HLO.out (.string { data := #[] })).setCell HLO.out (I 0)).setCell HLO.out (.string fr)).setCell HLO.out (.string dst)).setCell HLO.out (I 0))
  have HS7 : Hid ((∀ o, ((((((((w8.drew.setCell ⟨rb, 0, none⟩ (I id)).setCell ⟨rb, 1, none⟩ (I 4)).setCell ⟨rb, 2, none⟩ (.string of)).setCell ⟨rb, 3, none⟩ (.string { data := #[] })).setCell ⟨rb, 4, none⟩ (I 0)).setCell ⟨rb, 5, none⟩ (.string fr)).setCell ⟨rb, 6, none⟩ (.string dst)).setCell ⟨rb, 7, none⟩ (I 0)).cell? ⟨B0, o, none⟩ = ([I id, .string lb, .slice pa pn pc] : List Value)[o]?) ∧ (∀ o, ((((((((w8.drew.setCell ⟨rb, 0, none⟩ (I id)).setCell ⟨rb, 1, none⟩ (I 4)).setCell ⟨rb, 2, none⟩ (.string of)).setCell ⟨rb, 3, none⟩ (.string { data := #[] })).setCell ⟨rb, 4, none⟩ (I 0)).setCell ⟨rb, 5, none⟩ (.string fr)).setCell ⟨rb, 6, none⟩ (.string dst)).setCell ⟨rb, 7, none⟩ (I 0)).cell? ⟨r8, o, none⟩ = ([I id, I 4, .string of, .string { data := #[] }, I 0, .string fr, .string dst, I 0] : List Value)[o]?)) := ⟨((((((((((((((((HNw8.out.G (G.refl w8).drew).off (b := rb) (o := 0) (v := I id) HNE.out.2.2.2)).off (b := rb) (o := 1) (v := I 4) HNE.out.2.2.2)).off (b := rb) (o := 2) (v := .string of) HNE.out.2.2.2)).off (b := rb) (o := 3) (v := .string { data := #[] }) HNE.out.2.2.2)).off (b := rb) (o := 4) (v := I 0) HNE.out.2.2.2)).off (b := rb) (o := 5) (v := .string fr) HNE.out.2.2.2)).off (b := rb) (o := 6) (v := .string dst) HNE.out.2.2.2)).off (b := rb) (o := 7) (v := I 0) HNE.out.2.2.2).cell, ((((((((((((((((H8w8.out.G (G.refl w8).drew).off (b := rb) (o := 0) (v := I id) HNE.out.2.1.symm)).off (b := rb) (o := 1) (v := I 4) HNE.out.2.1.symm)).off (b := rb) (o := 2) (v := .string of) HNE.out.2.1.symm)).off (b := rb) (o := 3) (v := .string { data := #[] }) HNE.out.2.1.symm)).off (b := rb) (o := 4) (v := I 0) HNE.out.2.1.symm)).off (b := rb) (o := 5) (v := .string fr) HNE.out.2.1.symm)).off (b := rb) (o := 6) (v := .string dst) HNE.out.2.1.symm)).off (b := rb) (o := 7) (v := I 0) HNE.out.2.1.symm).cell⟩
  clear hrb7
  refine (if_pos rfl).mpr ?_
  refine wp_store_mid 66 _ _ rfl rb 0 #[I id, I 4, .string of, .string { data := #[] }, I 0, .string fr, .string dst, I 0] rfl rfl HTH.out (by kernel_rfl) (all_oneCell_toArray (cs := [I id, I 4, .string of, .string { data := #[] }, I 0, .string fr, .string dst, I 0]) (fun v hv => one8 (by rfl) hv)) ?_
  refine hK.out _ _ (⟨HS7.out.1, HS7.out.2, HG7.out⟩) (fun hHeld => ?_)
  clear hK K
  try simp only [Act.put, List.getElem_toArray, List.getElem_cons_zero, List.getElem_cons_succ]
  refine wpAnyH_take (i := 11) (v := ?_) rfl (by kernel_rfl) (by kernel_rfl) (by kernel_rfl) (fun _ _ _ h => h) (Or.inl ⟨by rfl, ?_⟩) hHeld ?_
  rotate_left 1
  · (intro w hSw; (try dsimp only at hSw); go_simp; try with_reducible rfl)
  try simp only [Act.put, List.getElem_toArray, List.getElem_cons_zero, List.getElem_cons_succ, List.setIfInBounds_toArray, List.set_cons_zero, List.set_cons_succ]
  refine wpAnyH_done (by kernel_rfl) ?_ _
  refine NoPanic.normal ?_
  go_wp2_with fail
  exact bodyPost_ret_by (v := .tuple #[.agg #[I id, I 4, .string of, .string { data := #[] }, I 0, .string fr, .string dst, I 0], .bool false]) (retY _ _ rb _ _ rfl rfl HB7.out rfl) rfl ⟨rfl, HG7.out⟩
set_option maxRecDepth 100000 in
set_option maxHeartbeats 4000000 in
theorem says_link_g (id : Int) (lb kk of : ByteArray) (bk : Bool) (pa : Option Addr) (pn pc : Nat) (W : World) (HK : Hid (∀ V, G W V → Calls Tryz.prog 104 #[.slice pa pn pc, .string { data := #[107, 105, 110, 100] }] V fun e W' => e = .returned (.tuple #[.string kk, .bool bk]) ∧ G V W')) (fr dst : ByteArray) (HO : Hid (∀ V, G W V → Calls Tryz.prog 105 #[.slice pa pn pc, .string { data := #[111, 102] }] V fun e W' => e = .returned (.tuple #[.string of, .bool true]) ∧ G V W')) (HLF : Hid (∀ V, G W V → Calls Tryz.prog 105 #[.slice pa pn pc, .string { data := #[102, 114, 111, 109] }] V fun e W' => e = .returned (.tuple #[.string fr, .bool true]) ∧ G V W')) (HLT : Hid (∀ V, G W V → Calls Tryz.prog 105 #[.slice pa pn pc, .string { data := #[116, 111] }] V fun e W' => e = .returned (.tuple #[.string dst, .bool false]) ∧ G V W')) (e0 : (kk.toList == [117, 110, 105, 113, 117, 101]) = false) (e1 : (kk.toList == [110, 101, 101, 100, 115]) = false) (e2 : (kk.toList == [111, 110, 108, 121]) = false) (e3 : (kk.toList == [108, 105, 110, 107]) = true) : Calls Tryz.prog 68 #[.agg #[I id, .string lb, .slice pa pn pc]] W fun e W' => e = .returned (.tuple #[.agg #[I id, I 4, .string of, .string { data := #[] }, I 0, .string fr, .string dst, I 0], .bool false]) ∧ G W W' := by
  obtain ⟨w2, hw2⟩ : ∃ w2, w2 = ((W.alloc (.cells #[I id, .string lb, .slice pa pn pc] 69)).alloc (.cells #[I 0, I 0, .string { data := #[] }, .string { data := #[] }, I 0, .string { data := #[] }, .string { data := #[] }, I 0] 66)) := ⟨_, rfl⟩
  obtain ⟨B0, hB0⟩ : ∃ B0, B0 = W.heap.size := ⟨_, rfl⟩
  obtain ⟨rb, hrb⟩ : ∃ rb, rb = B0 + 1 := ⟨_, rfl⟩
  have HGw2 : Hid (G W w2) := by rw [hw2]; exact ((G.refl W).alloc _).alloc _
  have HNw2 : Hid (Blk w2 B0 69 [I id, .string lb, .slice pa pn pc]) := by rw [hw2, hB0]; exact (Blk.new W [I id, .string lb, .slice pa pn pc] 69).G ((G.refl _).alloc _)
  have HRw2 : Hid (Blk w2 rb 66 [I 0, I 0, .string { data := #[] }, .string { data := #[] }, I 0, .string { data := #[] }, .string { data := #[] }, I 0]) := by
    have := Blk.new (W.alloc (.cells #[I id, .string lb, .slice pa pn pc] 69)) [I 0, I 0, .string { data := #[] }, .string { data := #[] }, I 0, .string { data := #[] }, .string { data := #[] }, I 0] 66
    rw [Hid, hw2, hrb, hB0]
    simpa using this
  have HLO : Hid (W.heap.size ≤ rb) := by show _ ≤ _; omega
  have HEW : Hid (((W.alloc (.cells #[I id, .string lb, .slice pa pn pc] 69)).alloc (.cells #[I 0, I 0, .string { data := #[] }, .string { data := #[] }, I 0, .string { data := #[] }, .string { data := #[] }, I 0] 66)) = w2) := hw2.symm
  have HE1 : Hid (W.heap.size = B0) := hB0.symm
  have HE2 : Hid (B0 + 1 = rb) := hrb.symm
  have e0 := ((Blk.new W [I id, .string lb, .slice pa pn pc] 69).G ((G.refl _).alloc (.cells #[I 0, I 0, .string { data := #[] }, .string { data := #[] }, I 0, .string { data := #[] }, .string { data := #[] }, I 0] 66))).cell
  have cN := HNw2.out.cell
  clear hw2 hB0 hrb
  go_enter Tryz.func68, Tryz.ntmps68
  go_wp2_with (first | (rw [HEW.out]; (try rw [HE1.out]); (try rw [HE2.out]); clear HEW e0) | fail)
  try rw [HEW.out]
  try rw [HE1.out]
  try rw [HE2.out]
  clear cN
  refine (HK.out w2 HGw2.out).mono ?_
  rintro e w3 ⟨rfl, hg'⟩
  have HNw3 := hide (HNw2.out.G hg'); have HRw3 := hide (HRw2.out.G hg'); have HGw3 := hide (HGw2.out.trans hg')
  clear hg'
  have cN := HNw3.out.cell
  go_wp2_with fail
  clear cN
  refine (HO.out w3 HGw3.out).mono ?_
  rintro e w4 ⟨rfl, hg'⟩
  have HNw4 := hide (HNw3.out.G hg'); have HRw4 := hide (HRw3.out.G hg'); have HGw4 := hide (HGw3.out.trans hg')
  clear hg'
  obtain ⟨w5, hw⟩ : ∃ w, w = w4.alloc (.cells #[I id, I 0, .string of, .string { data := #[] }, I 0, .string { data := #[] }, .string { data := #[] }, I 0] 66) := ⟨_, rfl⟩
  obtain ⟨r8, hr8⟩ : ∃ r, r = w4.heap.size := ⟨_, rfl⟩
  have hg' : G w4 w5 := by rw [hw]; exact (G.refl _).alloc _
  have H8w5 : Hid (Blk w5 r8 66 [I id, I 0, .string of, .string { data := #[] }, I 0, .string { data := #[] }, .string { data := #[] }, I 0]) := by rw [Hid, hw, hr8]; exact Blk.new w4 [I id, I 0, .string of, .string { data := #[] }, I 0, .string { data := #[] }, .string { data := #[] }, I 0] 66
  have HNw5 := hide (HNw4.out.G hg'); have HRw5 := hide (HRw4.out.G hg'); have HGw5 := hide (HGw4.out.trans hg')
  have HEX : Hid (w4.alloc (.cells #[I id, I 0, .string of, .string { data := #[] }, I 0, .string { data := #[] }, .string { data := #[] }, I 0] 66) = w5) := hw.symm
  have HE8 : Hid (w4.heap.size = r8) := hr8.symm
  have HNE : Hid (B0 ≠ r8 ∧ rb ≠ r8 ∧ W.heap.size ≤ r8 ∧ B0 ≠ rb) := ⟨by have := HNw4.out.lt; omega, by have := HRw4.out.lt; omega, by have := HGw4.out.size; omega, by have := HE2.out; omega⟩
  have cN := HNw4.out.cell
  have cN2 := HNw5.out.cell
  clear hw hr8 hg'
  go_wp2_with (first | (rw [HEX.out]; (try rw [HE8.out]); clear HEX) | fail)
  try rw [HEX.out]
  (try rw [HE8.out])
  clear cN cN2
  refine (HLF.out w5 HGw5.out).mono ?_
  rintro e w6 ⟨rfl, hg'⟩
  have HNw6 := hide (HNw5.out.G hg'); have HRw6 := hide (HRw5.out.G hg'); have HGw6 := hide (HGw5.out.trans hg')
  have H8w6 := hide (H8w5.out.G hg')
  clear hg'
  have cN := HNw6.out.cell
  have c8 := H8w6.out.cell
  have z8 := H8w6.out.frozen
  go_wp2_with fail
  clear cN
  clear c8 z8
  refine (HLT.out w6 HGw6.out).mono ?_
  rintro e w7 ⟨rfl, hg'⟩
  have HNw7 := hide (HNw6.out.G hg'); have HRw7 := hide (HRw6.out.G hg'); have HGw7 := hide (HGw6.out.trans hg')
  have H8w7 := hide (H8w6.out.G hg')
  clear hg'
  obtain ⟨w8, hw⟩ : ∃ w, w = (((w7.setCell ⟨r8, 1, none⟩ (I 4)).setCell ⟨r8, 5, none⟩ (.string fr)).setCell ⟨r8, 6, none⟩ (.string dst)) := ⟨_, rfl⟩
  have H8w8 : Hid (Blk w8 r8 66 [I id, I 4, .string of, .string { data := #[] }, I 0, .string fr, .string dst, I 0]) := by rw [hw]; exact (((H8w7.out.set 1 (I 4)).set 5 (.string fr)).set 6 (.string dst))
  have HNw8 : Hid (Blk w8 B0 69 [I id, .string lb, .slice pa pn pc]) := by rw [hw]; exact (((HNw7.out.off (b := r8) (o := 1) (v := I 4) HNE.out.1).off (b := r8) (o := 5) (v := .string fr) HNE.out.1).off (b := r8) (o := 6) (v := .string dst) HNE.out.1)
  have HRw8 : Hid (Blk w8 rb 66 [I 0, I 0, .string { data := #[] }, .string { data := #[] }, I 0, .string { data := #[] }, .string { data := #[] }, I 0]) := by rw [hw]; exact (((HRw7.out.off (b := r8) (o := 1) (v := I 4) HNE.out.2.1).off (b := r8) (o := 5) (v := .string fr) HNE.out.2.1).off (b := r8) (o := 6) (v := .string dst) HNE.out.2.1)
  have HGw8 : Hid (G W w8) := by rw [hw]; exact (((HGw7.out.setCell HNE.out.2.2.1 (I 4)).setCell HNE.out.2.2.1 (.string fr)).setCell HNE.out.2.2.1 (.string dst))
  have HES : Hid ((((w7.setCell ⟨r8, 1, none⟩ (I 4)).setCell ⟨r8, 5, none⟩ (.string fr)).setCell ⟨r8, 6, none⟩ (.string dst)) = w8) := hw.symm
  clear hw
  have cN := HNw7.out.cell
  have c8 := H8w7.out.cell
  have z8 := H8w7.out.frozen
  have cNx : ∀ o, (((w7.setCell ⟨r8, 1, none⟩ (I 4)).setCell ⟨r8, 5, none⟩ (.string fr)).setCell ⟨r8, 6, none⟩ (.string dst)).cell? ⟨B0, o, none⟩ = ([I id, .string lb, .slice pa pn pc] : List Value)[o]? := by rw [HES.out]; exact HNw8.out.cell
  have c8x : ∀ o, (((w7.setCell ⟨r8, 1, none⟩ (I 4)).setCell ⟨r8, 5, none⟩ (.string fr)).setCell ⟨r8, 6, none⟩ (.string dst)).cell? ⟨r8, o, none⟩ = ([I id, I 4, .string of, .string { data := #[] }, I 0, .string fr, .string dst, I 0] : List Value)[o]? := by rw [HES.out]; exact H8w8.out.cell
  have cNo := HNw8.out.cell
  have c8o := H8w8.out.cell
  go_wp2_with (first | (rw [HES.out]; clear HES) | (rw [HEX.out]; (try rw [HE8.out]); clear HEX) | (rw [HEV.out]; (try rw [HEB.out]); clear HEV) | fail)
  try rw [HEX.out]
  (try rw [HE8.out])
  try rw [HES.out]
  clear cN c8 z8 cNx c8x cNo c8o
  refine wp_region_noPanic ?_
  refine wp_region_held_drew (S := (fun V => (∀ o, V.cell? ⟨B0, o, none⟩ = ([I id, .string lb, .slice pa pn pc] : List Value)[o]?) ∧ (∀ o, V.cell? ⟨r8, o, none⟩ = ([I id, I 4, .string of, .string { data := #[] }, I 0, .string fr, .string dst, I 0] : List Value)[o]?) ∧ G W V)) (by kernel_rfl) (⟨(HNw8.out.G (G.refl _).drew).cell, (H8w8.out.G (G.refl _).drew).cell, HGw8.out.drew⟩) (fun hHeld => ?_)
  refine wpAnyH_take (i := 0) (v := ?_) rfl (by kernel_rfl) (by kernel_rfl) (by kernel_rfl) (fun _ _ _ h => h) (Or.inl ⟨by rfl, ?_⟩) hHeld ?_
  rotate_left 1
  · (intro w hSw; obtain ⟨k1, k2, -⟩ := hSw; go_simp; try with_reducible rfl)
  try simp only [Act.put, List.getElem_toArray, List.getElem_cons_zero, List.setIfInBounds_toArray, List.set_cons_zero, List.set_cons_succ]
  refine wpAnyH_take (i := 1) (v := ?_) rfl (by kernel_rfl) (by kernel_rfl) (by kernel_rfl) (fun _ _ _ h => h) (Or.inl ⟨by rfl, ?_⟩) hHeld ?_
  rotate_left 1
  · (intro w hSw; (try dsimp only at hSw); go_simp; try with_reducible rfl)
  try simp only [Act.put, List.getElem_toArray, List.getElem_cons_zero, List.getElem_cons_succ, List.setIfInBounds_toArray, List.set_cons_zero, List.set_cons_succ]
  refine wpAnyH_take (i := 2) (v := ?_) rfl (by kernel_rfl) (by kernel_rfl) (by kernel_rfl) (fun _ _ _ h => h) (Or.inl ⟨by rfl, ?_⟩) hHeld ?_
  rotate_left 1
  · (intro w hSw; (try dsimp only at hSw); go_simp; try with_reducible rfl)
  try simp only [Act.put, List.getElem_toArray, List.getElem_cons_zero, List.getElem_cons_succ, List.setIfInBounds_toArray, List.set_cons_zero, List.set_cons_succ]
  refine wpAnyH_take (i := 3) (v := undef) rfl (by kernel_rfl) (by kernel_rfl) (by kernel_rfl) (fun _ _ _ h => h) (Or.inr ⟨by rfl, rfl⟩) hHeld ?_
  try simp only [Act.put, List.getElem_toArray, List.getElem_cons_zero, List.getElem_cons_succ, List.setIfInBounds_toArray, List.set_cons_zero, List.set_cons_succ]
  refine wpAnyH_take (i := 4) (v := undef) rfl (by kernel_rfl) (by kernel_rfl) (by kernel_rfl) (fun _ _ _ h => h) (Or.inr ⟨by rfl, rfl⟩) hHeld ?_
  try simp only [Act.put, List.getElem_toArray, List.getElem_cons_zero, List.getElem_cons_succ, List.setIfInBounds_toArray, List.set_cons_zero, List.set_cons_succ]
  refine wpAnyH_take (i := 5) (v := undef) rfl (by kernel_rfl) (by kernel_rfl) (by kernel_rfl) (fun _ _ _ h => h) (Or.inr ⟨by rfl, rfl⟩) hHeld ?_
  try simp only [Act.put, List.getElem_toArray, List.getElem_cons_zero, List.getElem_cons_succ, List.setIfInBounds_toArray, List.set_cons_zero, List.set_cons_succ]
  refine wpAnyH_take (i := 6) (v := undef) rfl (by kernel_rfl) (by kernel_rfl) (by kernel_rfl) (fun _ _ _ h => h) (Or.inr ⟨by rfl, rfl⟩) hHeld ?_
  try simp only [Act.put, List.getElem_toArray, List.getElem_cons_zero, List.getElem_cons_succ, List.setIfInBounds_toArray, List.set_cons_zero, List.set_cons_succ]
  refine wpAnyH_take (i := 7) (v := undef) rfl (by kernel_rfl) (by kernel_rfl) (by kernel_rfl) (fun _ _ _ h => h) (Or.inr ⟨by rfl, rfl⟩) hHeld ?_
  try simp only [Act.put, List.getElem_toArray, List.getElem_cons_zero, List.getElem_cons_succ, List.setIfInBounds_toArray, List.set_cons_zero, List.set_cons_succ]
  refine wpAnyH_take (i := 8) (v := undef) rfl (by kernel_rfl) (by kernel_rfl) (by kernel_rfl) (fun _ _ _ h => h) (Or.inr ⟨by rfl, rfl⟩) hHeld ?_
  try simp only [Act.put, List.getElem_toArray, List.getElem_cons_zero, List.getElem_cons_succ, List.setIfInBounds_toArray, List.set_cons_zero, List.set_cons_succ]
  refine wpAnyH_take (i := 9) (v := ?_) rfl (by kernel_rfl) (by kernel_rfl) (by kernel_rfl) (fun _ _ _ h => h) (Or.inl ⟨by rfl, ?_⟩) hHeld ?_
  rotate_left 1
  · (intro w hSw; (try dsimp only at hSw); go_simp; try with_reducible rfl)
  try simp only [Act.put, List.getElem_toArray, List.getElem_cons_zero, List.getElem_cons_succ, List.setIfInBounds_toArray, List.set_cons_zero, List.set_cons_succ]
  refine wpAnyH_ready (rs := [10]) (by kernel_rfl) (by simp) (AllReadyH.cons rfl (fun K hK => ?_) AllReadyH.nil)
  clear hHeld
  have hrb7 := HRw8.out.G (G.refl w8).drew
  have HTH : Hid (w8.drew.there rb 0 8) := fun j hj => ⟨by rw [hrb7.cell, List.getElem?_eq_getElem (by simp; omega)]; rfl, hrb7.frozen _⟩
  have HB7 := hide ((((((((hrb7.set 0 (I id)).set 1 (I 4)).set 2 (.string of)).set 3 (.string { data := #[] })).set 4 (I 0)).set 5 (.string fr)).set 6 (.string dst)).set 7 (I 0))
  have HG7 : Hid (G W ((((((((w8.drew.setCell ⟨rb, 0, none⟩ (I id)).setCell ⟨rb, 1, none⟩ (I 4)).setCell ⟨rb, 2, none⟩ (.string of)).setCell ⟨rb, 3, none⟩ (.string { data := #[] })).setCell ⟨rb, 4, none⟩ (I 0)).setCell ⟨rb, 5, none⟩ (.string fr)).setCell ⟨rb, 6, none⟩ (.string dst)).setCell ⟨rb, 7, none⟩ (I 0))) := (((((((((HGw8.out.drew).setCell HLO.out (I id)).setCell HLO.out (I 4)).setCell HLO.out (.string of)).setCell HLO.out (.string { data := #[] })).setCell HLO.out (I 0)).setCell HLO.out (.string fr)).setCell HLO.out (.string dst)).setCell HLO.out (I 0))
  have HS7 : Hid ((∀ o, ((((((((w8.drew.setCell ⟨rb, 0, none⟩ (I id)).setCell ⟨rb, 1, none⟩ (I 4)).setCell ⟨rb, 2, none⟩ (.string of)).setCell ⟨rb, 3, none⟩ (.string { data := #[] })).setCell ⟨rb, 4, none⟩ (I 0)).setCell ⟨rb, 5, none⟩ (.string fr)).setCell ⟨rb, 6, none⟩ (.string dst)).setCell ⟨rb, 7, none⟩ (I 0)).cell? ⟨B0, o, none⟩ = ([I id, .string lb, .slice pa pn pc] : List Value)[o]?) ∧ (∀ o, ((((((((w8.drew.setCell ⟨rb, 0, none⟩ (I id)).setCell ⟨rb, 1, none⟩ (I 4)).setCell ⟨rb, 2, none⟩ (.string of)).setCell ⟨rb, 3, none⟩ (.string { data := #[] })).setCell ⟨rb, 4, none⟩ (I 0)).setCell ⟨rb, 5, none⟩ (.string fr)).setCell ⟨rb, 6, none⟩ (.string dst)).setCell ⟨rb, 7, none⟩ (I 0)).cell? ⟨r8, o, none⟩ = ([I id, I 4, .string of, .string { data := #[] }, I 0, .string fr, .string dst, I 0] : List Value)[o]?)) := ⟨((((((((((((((((HNw8.out.G (G.refl w8).drew).off (b := rb) (o := 0) (v := I id) HNE.out.2.2.2)).off (b := rb) (o := 1) (v := I 4) HNE.out.2.2.2)).off (b := rb) (o := 2) (v := .string of) HNE.out.2.2.2)).off (b := rb) (o := 3) (v := .string { data := #[] }) HNE.out.2.2.2)).off (b := rb) (o := 4) (v := I 0) HNE.out.2.2.2)).off (b := rb) (o := 5) (v := .string fr) HNE.out.2.2.2)).off (b := rb) (o := 6) (v := .string dst) HNE.out.2.2.2)).off (b := rb) (o := 7) (v := I 0) HNE.out.2.2.2).cell, ((((((((((((((((H8w8.out.G (G.refl w8).drew).off (b := rb) (o := 0) (v := I id) HNE.out.2.1.symm)).off (b := rb) (o := 1) (v := I 4) HNE.out.2.1.symm)).off (b := rb) (o := 2) (v := .string of) HNE.out.2.1.symm)).off (b := rb) (o := 3) (v := .string { data := #[] }) HNE.out.2.1.symm)).off (b := rb) (o := 4) (v := I 0) HNE.out.2.1.symm)).off (b := rb) (o := 5) (v := .string fr) HNE.out.2.1.symm)).off (b := rb) (o := 6) (v := .string dst) HNE.out.2.1.symm)).off (b := rb) (o := 7) (v := I 0) HNE.out.2.1.symm).cell⟩
  clear hrb7
  refine (if_pos rfl).mpr ?_
  refine wp_store_mid 66 _ _ rfl rb 0 #[I id, I 4, .string of, .string { data := #[] }, I 0, .string fr, .string dst, I 0] rfl rfl HTH.out (by kernel_rfl) (all_oneCell_toArray (cs := [I id, I 4, .string of, .string { data := #[] }, I 0, .string fr, .string dst, I 0]) (fun v hv => one8 (by rfl) hv)) ?_
  refine hK.out _ _ (⟨HS7.out.1, HS7.out.2, HG7.out⟩) (fun hHeld => ?_)
  clear hK K
  try simp only [Act.put, List.getElem_toArray, List.getElem_cons_zero, List.getElem_cons_succ]
  refine wpAnyH_take (i := 11) (v := ?_) rfl (by kernel_rfl) (by kernel_rfl) (by kernel_rfl) (fun _ _ _ h => h) (Or.inl ⟨by rfl, ?_⟩) hHeld ?_
  rotate_left 1
  · (intro w hSw; (try dsimp only at hSw); go_simp; try with_reducible rfl)
  try simp only [Act.put, List.getElem_toArray, List.getElem_cons_zero, List.getElem_cons_succ, List.setIfInBounds_toArray, List.set_cons_zero, List.set_cons_succ]
  refine wpAnyH_done (by kernel_rfl) ?_ _
  refine NoPanic.normal ?_
  go_wp2_with fail
  exact bodyPost_ret_by (v := .tuple #[.agg #[I id, I 4, .string of, .string { data := #[] }, I 0, .string fr, .string dst, I 0], .bool false]) (retY _ _ rb _ _ rfl rfl HB7.out rfl) rfl ⟨rfl, HG7.out⟩
set_option maxRecDepth 100000 in
set_option maxHeartbeats 4000000 in
theorem says_link_t (id : Int) (lb kk of : ByteArray) (bk : Bool) (pa : Option Addr) (pn pc : Nat) (W : World) (HK : Hid (∀ V, G W V → Calls Tryz.prog 104 #[.slice pa pn pc, .string { data := #[107, 105, 110, 100] }] V fun e W' => e = .returned (.tuple #[.string kk, .bool bk]) ∧ G V W')) (fr dst : ByteArray) (HO : Hid (∀ V, G W V → Calls Tryz.prog 105 #[.slice pa pn pc, .string { data := #[111, 102] }] V fun e W' => e = .returned (.tuple #[.string of, .bool true]) ∧ G V W')) (HLF : Hid (∀ V, G W V → Calls Tryz.prog 105 #[.slice pa pn pc, .string { data := #[102, 114, 111, 109] }] V fun e W' => e = .returned (.tuple #[.string fr, .bool true]) ∧ G V W')) (HLT : Hid (∀ V, G W V → Calls Tryz.prog 105 #[.slice pa pn pc, .string { data := #[116, 111] }] V fun e W' => e = .returned (.tuple #[.string dst, .bool true]) ∧ G V W')) (e0 : (kk.toList == [117, 110, 105, 113, 117, 101]) = false) (e1 : (kk.toList == [110, 101, 101, 100, 115]) = false) (e2 : (kk.toList == [111, 110, 108, 121]) = false) (e3 : (kk.toList == [108, 105, 110, 107]) = true) : Calls Tryz.prog 68 #[.agg #[I id, .string lb, .slice pa pn pc]] W fun e W' => e = .returned (.tuple #[.agg #[I id, I 4, .string of, .string { data := #[] }, I 0, .string fr, .string dst, I 0], .bool ((pn : Int) == 4)]) ∧ G W W' := by
  obtain ⟨w2, hw2⟩ : ∃ w2, w2 = ((W.alloc (.cells #[I id, .string lb, .slice pa pn pc] 69)).alloc (.cells #[I 0, I 0, .string { data := #[] }, .string { data := #[] }, I 0, .string { data := #[] }, .string { data := #[] }, I 0] 66)) := ⟨_, rfl⟩
  obtain ⟨B0, hB0⟩ : ∃ B0, B0 = W.heap.size := ⟨_, rfl⟩
  obtain ⟨rb, hrb⟩ : ∃ rb, rb = B0 + 1 := ⟨_, rfl⟩
  have HGw2 : Hid (G W w2) := by rw [hw2]; exact ((G.refl W).alloc _).alloc _
  have HNw2 : Hid (Blk w2 B0 69 [I id, .string lb, .slice pa pn pc]) := by rw [hw2, hB0]; exact (Blk.new W [I id, .string lb, .slice pa pn pc] 69).G ((G.refl _).alloc _)
  have HRw2 : Hid (Blk w2 rb 66 [I 0, I 0, .string { data := #[] }, .string { data := #[] }, I 0, .string { data := #[] }, .string { data := #[] }, I 0]) := by
    have := Blk.new (W.alloc (.cells #[I id, .string lb, .slice pa pn pc] 69)) [I 0, I 0, .string { data := #[] }, .string { data := #[] }, I 0, .string { data := #[] }, .string { data := #[] }, I 0] 66
    rw [Hid, hw2, hrb, hB0]
    simpa using this
  have HLO : Hid (W.heap.size ≤ rb) := by show _ ≤ _; omega
  have HEW : Hid (((W.alloc (.cells #[I id, .string lb, .slice pa pn pc] 69)).alloc (.cells #[I 0, I 0, .string { data := #[] }, .string { data := #[] }, I 0, .string { data := #[] }, .string { data := #[] }, I 0] 66)) = w2) := hw2.symm
  have HE1 : Hid (W.heap.size = B0) := hB0.symm
  have HE2 : Hid (B0 + 1 = rb) := hrb.symm
  have e0 := ((Blk.new W [I id, .string lb, .slice pa pn pc] 69).G ((G.refl _).alloc (.cells #[I 0, I 0, .string { data := #[] }, .string { data := #[] }, I 0, .string { data := #[] }, .string { data := #[] }, I 0] 66))).cell
  have cN := HNw2.out.cell
  clear hw2 hB0 hrb
  go_enter Tryz.func68, Tryz.ntmps68
  go_wp2_with (first | (rw [HEW.out]; (try rw [HE1.out]); (try rw [HE2.out]); clear HEW e0) | fail)
  try rw [HEW.out]
  try rw [HE1.out]
  try rw [HE2.out]
  clear cN
  refine (HK.out w2 HGw2.out).mono ?_
  rintro e w3 ⟨rfl, hg'⟩
  have HNw3 := hide (HNw2.out.G hg'); have HRw3 := hide (HRw2.out.G hg'); have HGw3 := hide (HGw2.out.trans hg')
  clear hg'
  have cN := HNw3.out.cell
  go_wp2_with fail
  clear cN
  refine (HO.out w3 HGw3.out).mono ?_
  rintro e w4 ⟨rfl, hg'⟩
  have HNw4 := hide (HNw3.out.G hg'); have HRw4 := hide (HRw3.out.G hg'); have HGw4 := hide (HGw3.out.trans hg')
  clear hg'
  obtain ⟨w5, hw⟩ : ∃ w, w = w4.alloc (.cells #[I id, I 0, .string of, .string { data := #[] }, I 0, .string { data := #[] }, .string { data := #[] }, I 0] 66) := ⟨_, rfl⟩
  obtain ⟨r8, hr8⟩ : ∃ r, r = w4.heap.size := ⟨_, rfl⟩
  have hg' : G w4 w5 := by rw [hw]; exact (G.refl _).alloc _
  have H8w5 : Hid (Blk w5 r8 66 [I id, I 0, .string of, .string { data := #[] }, I 0, .string { data := #[] }, .string { data := #[] }, I 0]) := by rw [Hid, hw, hr8]; exact Blk.new w4 [I id, I 0, .string of, .string { data := #[] }, I 0, .string { data := #[] }, .string { data := #[] }, I 0] 66
  have HNw5 := hide (HNw4.out.G hg'); have HRw5 := hide (HRw4.out.G hg'); have HGw5 := hide (HGw4.out.trans hg')
  have HEX : Hid (w4.alloc (.cells #[I id, I 0, .string of, .string { data := #[] }, I 0, .string { data := #[] }, .string { data := #[] }, I 0] 66) = w5) := hw.symm
  have HE8 : Hid (w4.heap.size = r8) := hr8.symm
  have HNE : Hid (B0 ≠ r8 ∧ rb ≠ r8 ∧ W.heap.size ≤ r8 ∧ B0 ≠ rb) := ⟨by have := HNw4.out.lt; omega, by have := HRw4.out.lt; omega, by have := HGw4.out.size; omega, by have := HE2.out; omega⟩
  have cN := HNw4.out.cell
  have cN2 := HNw5.out.cell
  clear hw hr8 hg'
  go_wp2_with (first | (rw [HEX.out]; (try rw [HE8.out]); clear HEX) | fail)
  try rw [HEX.out]
  (try rw [HE8.out])
  clear cN cN2
  refine (HLF.out w5 HGw5.out).mono ?_
  rintro e w6 ⟨rfl, hg'⟩
  have HNw6 := hide (HNw5.out.G hg'); have HRw6 := hide (HRw5.out.G hg'); have HGw6 := hide (HGw5.out.trans hg')
  have H8w6 := hide (H8w5.out.G hg')
  clear hg'
  have cN := HNw6.out.cell
  have c8 := H8w6.out.cell
  have z8 := H8w6.out.frozen
  go_wp2_with fail
  clear cN
  clear c8 z8
  refine (HLT.out w6 HGw6.out).mono ?_
  rintro e w7 ⟨rfl, hg'⟩
  have HNw7 := hide (HNw6.out.G hg'); have HRw7 := hide (HRw6.out.G hg'); have HGw7 := hide (HGw6.out.trans hg')
  have H8w7 := hide (H8w6.out.G hg')
  clear hg'
  obtain ⟨w8, hw⟩ : ∃ w, w = (((w7.setCell ⟨r8, 1, none⟩ (I 4)).setCell ⟨r8, 5, none⟩ (.string fr)).setCell ⟨r8, 6, none⟩ (.string dst)) := ⟨_, rfl⟩
  have H8w8 : Hid (Blk w8 r8 66 [I id, I 4, .string of, .string { data := #[] }, I 0, .string fr, .string dst, I 0]) := by rw [hw]; exact (((H8w7.out.set 1 (I 4)).set 5 (.string fr)).set 6 (.string dst))
  have HNw8 : Hid (Blk w8 B0 69 [I id, .string lb, .slice pa pn pc]) := by rw [hw]; exact (((HNw7.out.off (b := r8) (o := 1) (v := I 4) HNE.out.1).off (b := r8) (o := 5) (v := .string fr) HNE.out.1).off (b := r8) (o := 6) (v := .string dst) HNE.out.1)
  have HRw8 : Hid (Blk w8 rb 66 [I 0, I 0, .string { data := #[] }, .string { data := #[] }, I 0, .string { data := #[] }, .string { data := #[] }, I 0]) := by rw [hw]; exact (((HRw7.out.off (b := r8) (o := 1) (v := I 4) HNE.out.2.1).off (b := r8) (o := 5) (v := .string fr) HNE.out.2.1).off (b := r8) (o := 6) (v := .string dst) HNE.out.2.1)
  have HGw8 : Hid (G W w8) := by rw [hw]; exact (((HGw7.out.setCell HNE.out.2.2.1 (I 4)).setCell HNE.out.2.2.1 (.string fr)).setCell HNE.out.2.2.1 (.string dst))
  have HES : Hid ((((w7.setCell ⟨r8, 1, none⟩ (I 4)).setCell ⟨r8, 5, none⟩ (.string fr)).setCell ⟨r8, 6, none⟩ (.string dst)) = w8) := hw.symm
  clear hw
  have cN := HNw7.out.cell
  have c8 := H8w7.out.cell
  have z8 := H8w7.out.frozen
  have cNx : ∀ o, (((w7.setCell ⟨r8, 1, none⟩ (I 4)).setCell ⟨r8, 5, none⟩ (.string fr)).setCell ⟨r8, 6, none⟩ (.string dst)).cell? ⟨B0, o, none⟩ = ([I id, .string lb, .slice pa pn pc] : List Value)[o]? := by rw [HES.out]; exact HNw8.out.cell
  have c8x : ∀ o, (((w7.setCell ⟨r8, 1, none⟩ (I 4)).setCell ⟨r8, 5, none⟩ (.string fr)).setCell ⟨r8, 6, none⟩ (.string dst)).cell? ⟨r8, o, none⟩ = ([I id, I 4, .string of, .string { data := #[] }, I 0, .string fr, .string dst, I 0] : List Value)[o]? := by rw [HES.out]; exact H8w8.out.cell
  have cNo := HNw8.out.cell
  have c8o := H8w8.out.cell
  go_wp2_with (first | (rw [HES.out]; clear HES) | (rw [HEX.out]; (try rw [HE8.out]); clear HEX) | (rw [HEV.out]; (try rw [HEB.out]); clear HEV) | fail)
  try rw [HEX.out]
  (try rw [HE8.out])
  try rw [HES.out]
  clear cN c8 z8 cNx c8x cNo c8o
  refine wp_region_noPanic ?_
  refine wp_region_held_drew (S := (fun V => (∀ o, V.cell? ⟨B0, o, none⟩ = ([I id, .string lb, .slice pa pn pc] : List Value)[o]?) ∧ (∀ o, V.cell? ⟨r8, o, none⟩ = ([I id, I 4, .string of, .string { data := #[] }, I 0, .string fr, .string dst, I 0] : List Value)[o]?) ∧ G W V)) (by kernel_rfl) (⟨(HNw8.out.G (G.refl _).drew).cell, (H8w8.out.G (G.refl _).drew).cell, HGw8.out.drew⟩) (fun hHeld => ?_)
  refine wpAnyH_take (i := 0) (v := ?_) rfl (by kernel_rfl) (by kernel_rfl) (by kernel_rfl) (fun _ _ _ h => h) (Or.inl ⟨by rfl, ?_⟩) hHeld ?_
  rotate_left 1
  · (intro w hSw; obtain ⟨k1, k2, -⟩ := hSw; go_simp; try with_reducible rfl)
  try simp only [Act.put, List.getElem_toArray, List.getElem_cons_zero, List.setIfInBounds_toArray, List.set_cons_zero, List.set_cons_succ]
  refine wpAnyH_take (i := 1) (v := ?_) rfl (by kernel_rfl) (by kernel_rfl) (by kernel_rfl) (fun _ _ _ h => h) (Or.inl ⟨by rfl, ?_⟩) hHeld ?_
  rotate_left 1
  · (intro w hSw; (try dsimp only at hSw); go_simp; try with_reducible rfl)
  try simp only [Act.put, List.getElem_toArray, List.getElem_cons_zero, List.getElem_cons_succ, List.setIfInBounds_toArray, List.set_cons_zero, List.set_cons_succ]
  refine wpAnyH_take (i := 2) (v := ?_) rfl (by kernel_rfl) (by kernel_rfl) (by kernel_rfl) (fun _ _ _ h => h) (Or.inl ⟨by rfl, ?_⟩) hHeld ?_
  rotate_left 1
  · (intro w hSw; (try dsimp only at hSw); go_simp; try with_reducible rfl)
  try simp only [Act.put, List.getElem_toArray, List.getElem_cons_zero, List.getElem_cons_succ, List.setIfInBounds_toArray, List.set_cons_zero, List.set_cons_succ]
  refine wpAnyH_take (i := 3) (v := ?_) rfl (by kernel_rfl) (by kernel_rfl) (by kernel_rfl) (fun _ _ _ h => h) (Or.inl ⟨by rfl, ?_⟩) hHeld ?_
  rotate_left 1
  · (intro w hSw; (try dsimp only at hSw); go_simp; try with_reducible rfl)
  try simp only [Act.put, List.getElem_toArray, List.getElem_cons_zero, List.getElem_cons_succ, List.setIfInBounds_toArray, List.set_cons_zero, List.set_cons_succ]
  refine wpAnyH_take (i := 4) (v := ?_) rfl (by kernel_rfl) (by kernel_rfl) (by kernel_rfl) (fun _ _ _ h => h) (Or.inl ⟨by rfl, ?_⟩) hHeld ?_
  rotate_left 1
  · (intro w hSw; obtain ⟨k1, k2, -⟩ := hSw; go_simp; try with_reducible rfl)
  try simp only [Act.put, List.getElem_toArray, List.getElem_cons_zero, List.getElem_cons_succ, List.setIfInBounds_toArray, List.set_cons_zero, List.set_cons_succ]
  refine wpAnyH_take (i := 5) (v := ?_) rfl (by kernel_rfl) (by kernel_rfl) (by kernel_rfl) (fun _ _ _ h => h) (Or.inl ⟨by rfl, ?_⟩) hHeld ?_
  rotate_left 1
  · (intro w hSw; (try dsimp only at hSw); go_simp; try with_reducible rfl)
  try simp only [Act.put, List.getElem_toArray, List.getElem_cons_zero, List.getElem_cons_succ, List.setIfInBounds_toArray, List.set_cons_zero, List.set_cons_succ]
  refine wpAnyH_take (i := 6) (v := ?_) rfl (by kernel_rfl) (by kernel_rfl) (by kernel_rfl) (fun _ _ _ h => h) (Or.inl ⟨by rfl, ?_⟩) hHeld ?_
  rotate_left 1
  · (intro w hSw; (try dsimp only at hSw); go_simp; try with_reducible rfl)
  try simp only [Act.put, List.getElem_toArray, List.getElem_cons_zero, List.getElem_cons_succ, List.setIfInBounds_toArray, List.set_cons_zero, List.set_cons_succ]
  refine wpAnyH_take (i := 7) (v := ?_) rfl (by kernel_rfl) (by kernel_rfl) (by kernel_rfl) (fun _ _ _ h => h) (Or.inl ⟨by rfl, ?_⟩) hHeld ?_
  rotate_left 1
  · (intro w hSw; (try dsimp only at hSw); go_simp; try with_reducible rfl)
  try simp only [Act.put, List.getElem_toArray, List.getElem_cons_zero, List.getElem_cons_succ, List.setIfInBounds_toArray, List.set_cons_zero, List.set_cons_succ]
  refine wpAnyH_take (i := 8) (v := ?_) rfl (by kernel_rfl) (by kernel_rfl) (by kernel_rfl) (fun _ _ _ h => h) (Or.inl ⟨by rfl, ?_⟩) hHeld ?_
  rotate_left 1
  · (intro w hSw; (try dsimp only at hSw); go_simp; try with_reducible rfl)
  try simp only [Act.put, List.getElem_toArray, List.getElem_cons_zero, List.getElem_cons_succ, List.setIfInBounds_toArray, List.set_cons_zero, List.set_cons_succ]
  refine wpAnyH_take (i := 9) (v := ?_) rfl (by kernel_rfl) (by kernel_rfl) (by kernel_rfl) (fun _ _ _ h => h) (Or.inl ⟨by rfl, ?_⟩) hHeld ?_
  rotate_left 1
  · (intro w hSw; (try dsimp only at hSw); go_simp; try with_reducible rfl)
  try simp only [Act.put, List.getElem_toArray, List.getElem_cons_zero, List.getElem_cons_succ, List.setIfInBounds_toArray, List.set_cons_zero, List.set_cons_succ]
  refine wpAnyH_ready (rs := [10]) (by kernel_rfl) (by simp) (AllReadyH.cons rfl (fun K hK => ?_) AllReadyH.nil)
  clear hHeld
  have hrb7 := HRw8.out.G (G.refl w8).drew
  have HTH : Hid (w8.drew.there rb 0 8) := fun j hj => ⟨by rw [hrb7.cell, List.getElem?_eq_getElem (by simp; omega)]; rfl, hrb7.frozen _⟩
  have HB7 := hide ((((((((hrb7.set 0 (I id)).set 1 (I 4)).set 2 (.string of)).set 3 (.string { data := #[] })).set 4 (I 0)).set 5 (.string fr)).set 6 (.string dst)).set 7 (I 0))
  have HG7 : Hid (G W ((((((((w8.drew.setCell ⟨rb, 0, none⟩ (I id)).setCell ⟨rb, 1, none⟩ (I 4)).setCell ⟨rb, 2, none⟩ (.string of)).setCell ⟨rb, 3, none⟩ (.string { data := #[] })).setCell ⟨rb, 4, none⟩ (I 0)).setCell ⟨rb, 5, none⟩ (.string fr)).setCell ⟨rb, 6, none⟩ (.string dst)).setCell ⟨rb, 7, none⟩ (I 0))) := (((((((((HGw8.out.drew).setCell HLO.out (I id)).setCell HLO.out (I 4)).setCell HLO.out (.string of)).setCell HLO.out (.string { data := #[] })).setCell HLO.out (I 0)).setCell HLO.out (.string fr)).setCell HLO.out (.string dst)).setCell HLO.out (I 0))
  have HS7 : Hid ((∀ o, ((((((((w8.drew.setCell ⟨rb, 0, none⟩ (I id)).setCell ⟨rb, 1, none⟩ (I 4)).setCell ⟨rb, 2, none⟩ (.string of)).setCell ⟨rb, 3, none⟩ (.string { data := #[] })).setCell ⟨rb, 4, none⟩ (I 0)).setCell ⟨rb, 5, none⟩ (.string fr)).setCell ⟨rb, 6, none⟩ (.string dst)).setCell ⟨rb, 7, none⟩ (I 0)).cell? ⟨B0, o, none⟩ = ([I id, .string lb, .slice pa pn pc] : List Value)[o]?) ∧ (∀ o, ((((((((w8.drew.setCell ⟨rb, 0, none⟩ (I id)).setCell ⟨rb, 1, none⟩ (I 4)).setCell ⟨rb, 2, none⟩ (.string of)).setCell ⟨rb, 3, none⟩ (.string { data := #[] })).setCell ⟨rb, 4, none⟩ (I 0)).setCell ⟨rb, 5, none⟩ (.string fr)).setCell ⟨rb, 6, none⟩ (.string dst)).setCell ⟨rb, 7, none⟩ (I 0)).cell? ⟨r8, o, none⟩ = ([I id, I 4, .string of, .string { data := #[] }, I 0, .string fr, .string dst, I 0] : List Value)[o]?)) := ⟨((((((((((((((((HNw8.out.G (G.refl w8).drew).off (b := rb) (o := 0) (v := I id) HNE.out.2.2.2)).off (b := rb) (o := 1) (v := I 4) HNE.out.2.2.2)).off (b := rb) (o := 2) (v := .string of) HNE.out.2.2.2)).off (b := rb) (o := 3) (v := .string { data := #[] }) HNE.out.2.2.2)).off (b := rb) (o := 4) (v := I 0) HNE.out.2.2.2)).off (b := rb) (o := 5) (v := .string fr) HNE.out.2.2.2)).off (b := rb) (o := 6) (v := .string dst) HNE.out.2.2.2)).off (b := rb) (o := 7) (v := I 0) HNE.out.2.2.2).cell, ((((((((((((((((H8w8.out.G (G.refl w8).drew).off (b := rb) (o := 0) (v := I id) HNE.out.2.1.symm)).off (b := rb) (o := 1) (v := I 4) HNE.out.2.1.symm)).off (b := rb) (o := 2) (v := .string of) HNE.out.2.1.symm)).off (b := rb) (o := 3) (v := .string { data := #[] }) HNE.out.2.1.symm)).off (b := rb) (o := 4) (v := I 0) HNE.out.2.1.symm)).off (b := rb) (o := 5) (v := .string fr) HNE.out.2.1.symm)).off (b := rb) (o := 6) (v := .string dst) HNE.out.2.1.symm)).off (b := rb) (o := 7) (v := I 0) HNE.out.2.1.symm).cell⟩
  clear hrb7
  refine (if_pos rfl).mpr ?_
  refine wp_store_mid 66 _ _ rfl rb 0 #[I id, I 4, .string of, .string { data := #[] }, I 0, .string fr, .string dst, I 0] rfl rfl HTH.out (by kernel_rfl) (all_oneCell_toArray (cs := [I id, I 4, .string of, .string { data := #[] }, I 0, .string fr, .string dst, I 0]) (fun v hv => one8 (by rfl) hv)) ?_
  refine hK.out _ _ (⟨HS7.out.1, HS7.out.2, HG7.out⟩) (fun hHeld => ?_)
  clear hK K
  try simp only [Act.put, List.getElem_toArray, List.getElem_cons_zero, List.getElem_cons_succ]
  refine wpAnyH_take (i := 11) (v := ?_) rfl (by kernel_rfl) (by kernel_rfl) (by kernel_rfl) (fun _ _ _ h => h) (Or.inl ⟨by rfl, ?_⟩) hHeld ?_
  rotate_left 1
  · (intro w hSw; (try dsimp only at hSw); go_simp; try with_reducible rfl)
  try simp only [Act.put, List.getElem_toArray, List.getElem_cons_zero, List.getElem_cons_succ, List.setIfInBounds_toArray, List.set_cons_zero, List.set_cons_succ]
  refine wpAnyH_done (by kernel_rfl) ?_ _
  refine NoPanic.normal ?_
  go_wp2_with fail
  exact bodyPost_ret_by (v := .tuple #[.agg #[I id, I 4, .string of, .string { data := #[] }, I 0, .string fr, .string dst, I 0], .bool _]) (retY _ _ rb _ _ rfl rfl HB7.out rfl) rfl ⟨rfl, HG7.out⟩
set_option maxRecDepth 100000 in
set_option maxHeartbeats 4000000 in
theorem says_most_f (id : Int) (lb kk of : ByteArray) (bk : Bool) (pa : Option Addr) (pn pc : Nat) (W : World) (HK : Hid (∀ V, G W V → Calls Tryz.prog 104 #[.slice pa pn pc, .string { data := #[107, 105, 110, 100] }] V fun e W' => e = .returned (.tuple #[.string kk, .bool bk]) ∧ G V W')) (nk na nb : Int) (nz : ByteArray) (HO : Hid (∀ V, G W V → Calls Tryz.prog 105 #[.slice pa pn pc, .string { data := #[111, 102] }] V fun e W' => e = .returned (.tuple #[.string of, .bool true]) ∧ G V W')) (HM : Hid (∀ V, G W V → Calls Tryz.prog 107 #[.slice pa pn pc, .string { data := #[110] }] V fun e W' => e = .returned (.tuple #[.agg #[I nk, I na, I nb, .string nz], .bool false]) ∧ G V W'))  (e0 : (kk.toList == [117, 110, 105, 113, 117, 101]) = false) (e1 : (kk.toList == [110, 101, 101, 100, 115]) = false) (e2 : (kk.toList == [111, 110, 108, 121]) = false) (e3 : (kk.toList == [108, 105, 110, 107]) = false) (e4 : (kk.toList == [109, 111, 115, 116]) = true) : Calls Tryz.prog 68 #[.agg #[I id, .string lb, .slice pa pn pc]] W fun e W' => e = .returned (.tuple #[.agg #[I id, I 5, .string of, .string { data := #[] }, I 0, .string { data := #[] }, .string { data := #[] }, I na], .bool false]) ∧ G W W' := by
  obtain ⟨w2, hw2⟩ : ∃ w2, w2 = ((W.alloc (.cells #[I id, .string lb, .slice pa pn pc] 69)).alloc (.cells #[I 0, I 0, .string { data := #[] }, .string { data := #[] }, I 0, .string { data := #[] }, .string { data := #[] }, I 0] 66)) := ⟨_, rfl⟩
  obtain ⟨B0, hB0⟩ : ∃ B0, B0 = W.heap.size := ⟨_, rfl⟩
  obtain ⟨rb, hrb⟩ : ∃ rb, rb = B0 + 1 := ⟨_, rfl⟩
  have HGw2 : Hid (G W w2) := by rw [hw2]; exact ((G.refl W).alloc _).alloc _
  have HNw2 : Hid (Blk w2 B0 69 [I id, .string lb, .slice pa pn pc]) := by rw [hw2, hB0]; exact (Blk.new W [I id, .string lb, .slice pa pn pc] 69).G ((G.refl _).alloc _)
  have HRw2 : Hid (Blk w2 rb 66 [I 0, I 0, .string { data := #[] }, .string { data := #[] }, I 0, .string { data := #[] }, .string { data := #[] }, I 0]) := by
    have := Blk.new (W.alloc (.cells #[I id, .string lb, .slice pa pn pc] 69)) [I 0, I 0, .string { data := #[] }, .string { data := #[] }, I 0, .string { data := #[] }, .string { data := #[] }, I 0] 66
    rw [Hid, hw2, hrb, hB0]
    simpa using this
  have HLO : Hid (W.heap.size ≤ rb) := by show _ ≤ _; omega
  have HEW : Hid (((W.alloc (.cells #[I id, .string lb, .slice pa pn pc] 69)).alloc (.cells #[I 0, I 0, .string { data := #[] }, .string { data := #[] }, I 0, .string { data := #[] }, .string { data := #[] }, I 0] 66)) = w2) := hw2.symm
  have HE1 : Hid (W.heap.size = B0) := hB0.symm
  have HE2 : Hid (B0 + 1 = rb) := hrb.symm
  have e0 := ((Blk.new W [I id, .string lb, .slice pa pn pc] 69).G ((G.refl _).alloc (.cells #[I 0, I 0, .string { data := #[] }, .string { data := #[] }, I 0, .string { data := #[] }, .string { data := #[] }, I 0] 66))).cell
  have cN := HNw2.out.cell
  clear hw2 hB0 hrb
  go_enter Tryz.func68, Tryz.ntmps68
  go_wp2_with (first | (rw [HEW.out]; (try rw [HE1.out]); (try rw [HE2.out]); clear HEW e0) | fail)
  try rw [HEW.out]
  try rw [HE1.out]
  try rw [HE2.out]
  clear cN
  refine (HK.out w2 HGw2.out).mono ?_
  rintro e w3 ⟨rfl, hg'⟩
  have HNw3 := hide (HNw2.out.G hg'); have HRw3 := hide (HRw2.out.G hg'); have HGw3 := hide (HGw2.out.trans hg')
  clear hg'
  have cN := HNw3.out.cell
  go_wp2_with fail
  clear cN
  refine (HO.out w3 HGw3.out).mono ?_
  rintro e w4 ⟨rfl, hg'⟩
  have HNw4 := hide (HNw3.out.G hg'); have HRw4 := hide (HRw3.out.G hg'); have HGw4 := hide (HGw3.out.trans hg')
  clear hg'
  obtain ⟨w5, hw⟩ : ∃ w, w = w4.alloc (.cells #[I id, I 0, .string of, .string { data := #[] }, I 0, .string { data := #[] }, .string { data := #[] }, I 0] 66) := ⟨_, rfl⟩
  obtain ⟨r8, hr8⟩ : ∃ r, r = w4.heap.size := ⟨_, rfl⟩
  have hg' : G w4 w5 := by rw [hw]; exact (G.refl _).alloc _
  have H8w5 : Hid (Blk w5 r8 66 [I id, I 0, .string of, .string { data := #[] }, I 0, .string { data := #[] }, .string { data := #[] }, I 0]) := by rw [Hid, hw, hr8]; exact Blk.new w4 [I id, I 0, .string of, .string { data := #[] }, I 0, .string { data := #[] }, .string { data := #[] }, I 0] 66
  have HNw5 := hide (HNw4.out.G hg'); have HRw5 := hide (HRw4.out.G hg'); have HGw5 := hide (HGw4.out.trans hg')
  have HEX : Hid (w4.alloc (.cells #[I id, I 0, .string of, .string { data := #[] }, I 0, .string { data := #[] }, .string { data := #[] }, I 0] 66) = w5) := hw.symm
  have HE8 : Hid (w4.heap.size = r8) := hr8.symm
  have HNE : Hid (B0 ≠ r8 ∧ rb ≠ r8 ∧ W.heap.size ≤ r8 ∧ B0 ≠ rb) := ⟨by have := HNw4.out.lt; omega, by have := HRw4.out.lt; omega, by have := HGw4.out.size; omega, by have := HE2.out; omega⟩
  have cN := HNw4.out.cell
  have cN2 := HNw5.out.cell
  clear hw hr8 hg'
  go_wp2_with (first | (rw [HEX.out]; (try rw [HE8.out]); clear HEX) | fail)
  try rw [HEX.out]
  (try rw [HE8.out])
  clear cN cN2
  refine (HM.out w5 HGw5.out).mono ?_
  rintro e w6 ⟨rfl, hg'⟩
  have HNw6 := hide (HNw5.out.G hg'); have HRw6 := hide (HRw5.out.G hg'); have HGw6 := hide (HGw5.out.trans hg')
  have H8w6 := hide (H8w5.out.G hg')
  clear hg'
  obtain ⟨wv, hw⟩ : ∃ w, w = (w6.alloc (.cells #[I nk, I na, I nb, .string nz] 41)) := ⟨_, rfl⟩
  obtain ⟨rV, hrV⟩ : ∃ r, r = w6.heap.size := ⟨_, rfl⟩
  have hg' : G w6 wv := by rw [hw]; exact (G.refl _).alloc _
  have HVB : Hid (Blk wv rV 41 [I nk, I na, I nb, .string nz]) := by rw [Hid, hw, hrV]; exact Blk.new w6 [I nk, I na, I nb, .string nz] 41
  have HNwv := hide (HNw6.out.G hg'); have HRwv := hide (HRw6.out.G hg'); have HGwv := hide (HGw6.out.trans hg'); have H8wv := hide (H8w6.out.G hg')
  have HEV : Hid ((w6.alloc (.cells #[I nk, I na, I nb, .string nz] 41)) = wv) := hw.symm
  have HEB : Hid (w6.heap.size = rV) := hrV.symm
  have HNV : Hid (rV ≠ r8) := by have := H8w6.out.lt; show _ ≠ _; omega
  clear hw hrV hg'
  have cV := HVB.out.cell
  obtain ⟨w8, hw⟩ : ∃ w, w = ((wv.setCell ⟨r8, 1, none⟩ (I 5)).setCell ⟨r8, 7, none⟩ (I na)) := ⟨_, rfl⟩
  have H8w8 : Hid (Blk w8 r8 66 [I id, I 5, .string of, .string { data := #[] }, I 0, .string { data := #[] }, .string { data := #[] }, I na]) := by rw [hw]; exact ((H8wv.out.set 1 (I 5)).set 7 (I na))
  have HNw8 : Hid (Blk w8 B0 69 [I id, .string lb, .slice pa pn pc]) := by rw [hw]; exact ((HNwv.out.off (b := r8) (o := 1) (v := I 5) HNE.out.1).off (b := r8) (o := 7) (v := I na) HNE.out.1)
  have HRw8 : Hid (Blk w8 rb 66 [I 0, I 0, .string { data := #[] }, .string { data := #[] }, I 0, .string { data := #[] }, .string { data := #[] }, I 0]) := by rw [hw]; exact ((HRwv.out.off (b := r8) (o := 1) (v := I 5) HNE.out.2.1).off (b := r8) (o := 7) (v := I na) HNE.out.2.1)
  have HGw8 : Hid (G W w8) := by rw [hw]; exact ((HGwv.out.setCell HNE.out.2.2.1 (I 5)).setCell HNE.out.2.2.1 (I na))
  have HES : Hid (((wv.setCell ⟨r8, 1, none⟩ (I 5)).setCell ⟨r8, 7, none⟩ (I na)) = w8) := hw.symm
  clear hw
  have cN := HNwv.out.cell
  have c8 := H8wv.out.cell
  have z8 := H8wv.out.frozen
  have cNx : ∀ o, ((wv.setCell ⟨r8, 1, none⟩ (I 5)).setCell ⟨r8, 7, none⟩ (I na)).cell? ⟨B0, o, none⟩ = ([I id, .string lb, .slice pa pn pc] : List Value)[o]? := by rw [HES.out]; exact HNw8.out.cell
  have c8x : ∀ o, ((wv.setCell ⟨r8, 1, none⟩ (I 5)).setCell ⟨r8, 7, none⟩ (I na)).cell? ⟨r8, o, none⟩ = ([I id, I 5, .string of, .string { data := #[] }, I 0, .string { data := #[] }, .string { data := #[] }, I na] : List Value)[o]? := by rw [HES.out]; exact H8w8.out.cell
  have cNo := HNw8.out.cell
  have c8o := H8w8.out.cell
  have cV1 := (HVB.out.off (b := r8) (o := 1) (v := I 5) HNV.out).cell
  have cV2 := ((HVB.out.off (b := r8) (o := 1) (v := I 5) HNV.out).off (b := r8) (o := 7) (v := I na) HNV.out).cell
  have cV8 : ∀ o, w8.cell? ⟨rV, o, none⟩ = ([I nk, I na, I nb, .string nz] : List Value)[o]? := by rw [← HES.out]; exact cV2
  go_wp2_with (first | (rw [HES.out]; clear HES) | (rw [HEX.out]; (try rw [HE8.out]); clear HEX) | (rw [HEV.out]; (try rw [HEB.out]); clear HEV) | fail)
  try rw [HEX.out]
  (try rw [HE8.out])
  try rw [HES.out]
  clear cN c8 z8 cNx c8x cNo c8o
  clear cV cV1 cV2 cV8
  refine wp_region_noPanic ?_
  refine wp_region_held_drew (S := (fun V => (∀ o, V.cell? ⟨B0, o, none⟩ = ([I id, .string lb, .slice pa pn pc] : List Value)[o]?) ∧ (∀ o, V.cell? ⟨r8, o, none⟩ = ([I id, I 5, .string of, .string { data := #[] }, I 0, .string { data := #[] }, .string { data := #[] }, I na] : List Value)[o]?) ∧ G W V)) (by kernel_rfl) (⟨(HNw8.out.G (G.refl _).drew).cell, (H8w8.out.G (G.refl _).drew).cell, HGw8.out.drew⟩) (fun hHeld => ?_)
  refine wpAnyH_take (i := 0) (v := ?_) rfl (by kernel_rfl) (by kernel_rfl) (by kernel_rfl) (fun _ _ _ h => h) (Or.inl ⟨by rfl, ?_⟩) hHeld ?_
  rotate_left 1
  · (intro w hSw; obtain ⟨k1, k2, -⟩ := hSw; go_simp; try with_reducible rfl)
  try simp only [Act.put, List.getElem_toArray, List.getElem_cons_zero, List.setIfInBounds_toArray, List.set_cons_zero, List.set_cons_succ]
  refine wpAnyH_take (i := 1) (v := ?_) rfl (by kernel_rfl) (by kernel_rfl) (by kernel_rfl) (fun _ _ _ h => h) (Or.inl ⟨by rfl, ?_⟩) hHeld ?_
  rotate_left 1
  · (intro w hSw; (try dsimp only at hSw); go_simp; try with_reducible rfl)
  try simp only [Act.put, List.getElem_toArray, List.getElem_cons_zero, List.getElem_cons_succ, List.setIfInBounds_toArray, List.set_cons_zero, List.set_cons_succ]
  refine wpAnyH_take (i := 2) (v := ?_) rfl (by kernel_rfl) (by kernel_rfl) (by kernel_rfl) (fun _ _ _ h => h) (Or.inl ⟨by rfl, ?_⟩) hHeld ?_
  rotate_left 1
  · (intro w hSw; (try dsimp only at hSw); go_simp; try with_reducible rfl)
  try simp only [Act.put, List.getElem_toArray, List.getElem_cons_zero, List.getElem_cons_succ, List.setIfInBounds_toArray, List.set_cons_zero, List.set_cons_succ]
  refine wpAnyH_take (i := 3) (v := undef) rfl (by kernel_rfl) (by kernel_rfl) (by kernel_rfl) (fun _ _ _ h => h) (Or.inr ⟨by rfl, rfl⟩) hHeld ?_
  try simp only [Act.put, List.getElem_toArray, List.getElem_cons_zero, List.getElem_cons_succ, List.setIfInBounds_toArray, List.set_cons_zero, List.set_cons_succ]
  refine wpAnyH_take (i := 4) (v := undef) rfl (by kernel_rfl) (by kernel_rfl) (by kernel_rfl) (fun _ _ _ h => h) (Or.inr ⟨by rfl, rfl⟩) hHeld ?_
  try simp only [Act.put, List.getElem_toArray, List.getElem_cons_zero, List.getElem_cons_succ, List.setIfInBounds_toArray, List.set_cons_zero, List.set_cons_succ]
  refine wpAnyH_take (i := 5) (v := undef) rfl (by kernel_rfl) (by kernel_rfl) (by kernel_rfl) (fun _ _ _ h => h) (Or.inr ⟨by rfl, rfl⟩) hHeld ?_
  try simp only [Act.put, List.getElem_toArray, List.getElem_cons_zero, List.getElem_cons_succ, List.setIfInBounds_toArray, List.set_cons_zero, List.set_cons_succ]
  refine wpAnyH_take (i := 6) (v := undef) rfl (by kernel_rfl) (by kernel_rfl) (by kernel_rfl) (fun _ _ _ h => h) (Or.inr ⟨by rfl, rfl⟩) hHeld ?_
  try simp only [Act.put, List.getElem_toArray, List.getElem_cons_zero, List.getElem_cons_succ, List.setIfInBounds_toArray, List.set_cons_zero, List.set_cons_succ]
  refine wpAnyH_take (i := 7) (v := undef) rfl (by kernel_rfl) (by kernel_rfl) (by kernel_rfl) (fun _ _ _ h => h) (Or.inr ⟨by rfl, rfl⟩) hHeld ?_
  try simp only [Act.put, List.getElem_toArray, List.getElem_cons_zero, List.getElem_cons_succ, List.setIfInBounds_toArray, List.set_cons_zero, List.set_cons_succ]
  refine wpAnyH_take (i := 8) (v := undef) rfl (by kernel_rfl) (by kernel_rfl) (by kernel_rfl) (fun _ _ _ h => h) (Or.inr ⟨by rfl, rfl⟩) hHeld ?_
  try simp only [Act.put, List.getElem_toArray, List.getElem_cons_zero, List.getElem_cons_succ, List.setIfInBounds_toArray, List.set_cons_zero, List.set_cons_succ]
  refine wpAnyH_take (i := 9) (v := ?_) rfl (by kernel_rfl) (by kernel_rfl) (by kernel_rfl) (fun _ _ _ h => h) (Or.inl ⟨by rfl, ?_⟩) hHeld ?_
  rotate_left 1
  · (intro w hSw; (try dsimp only at hSw); go_simp; try with_reducible rfl)
  try simp only [Act.put, List.getElem_toArray, List.getElem_cons_zero, List.getElem_cons_succ, List.setIfInBounds_toArray, List.set_cons_zero, List.set_cons_succ]
  refine wpAnyH_ready (rs := [10]) (by kernel_rfl) (by simp) (AllReadyH.cons rfl (fun K hK => ?_) AllReadyH.nil)
  clear hHeld
  have hrb7 := HRw8.out.G (G.refl w8).drew
  have HTH : Hid (w8.drew.there rb 0 8) := fun j hj => ⟨by rw [hrb7.cell, List.getElem?_eq_getElem (by simp; omega)]; rfl, hrb7.frozen _⟩
  have HB7 := hide ((((((((hrb7.set 0 (I id)).set 1 (I 5)).set 2 (.string of)).set 3 (.string { data := #[] })).set 4 (I 0)).set 5 (.string { data := #[] })).set 6 (.string { data := #[] })).set 7 (I na))
  have HG7 : Hid (G W ((((((((w8.drew.setCell ⟨rb, 0, none⟩ (I id)).setCell ⟨rb, 1, none⟩ (I 5)).setCell ⟨rb, 2, none⟩ (.string of)).setCell ⟨rb, 3, none⟩ (.string { data := #[] })).setCell ⟨rb, 4, none⟩ (I 0)).setCell ⟨rb, 5, none⟩ (.string { data := #[] })).setCell ⟨rb, 6, none⟩ (.string { data := #[] })).setCell ⟨rb, 7, none⟩ (I na))) := (((((((((HGw8.out.drew).setCell HLO.out (I id)).setCell HLO.out (I 5)).setCell HLO.out (.string of)).setCell HLO.out (.string { data := #[] })).setCell HLO.out (I 0)).setCell HLO.out (.string { data := #[] })).setCell HLO.out (.string { data := #[] })).setCell HLO.out (I na))
  have HS7 : Hid ((∀ o, ((((((((w8.drew.setCell ⟨rb, 0, none⟩ (I id)).setCell ⟨rb, 1, none⟩ (I 5)).setCell ⟨rb, 2, none⟩ (.string of)).setCell ⟨rb, 3, none⟩ (.string { data := #[] })).setCell ⟨rb, 4, none⟩ (I 0)).setCell ⟨rb, 5, none⟩ (.string { data := #[] })).setCell ⟨rb, 6, none⟩ (.string { data := #[] })).setCell ⟨rb, 7, none⟩ (I na)).cell? ⟨B0, o, none⟩ = ([I id, .string lb, .slice pa pn pc] : List Value)[o]?) ∧ (∀ o, ((((((((w8.drew.setCell ⟨rb, 0, none⟩ (I id)).setCell ⟨rb, 1, none⟩ (I 5)).setCell ⟨rb, 2, none⟩ (.string of)).setCell ⟨rb, 3, none⟩ (.string { data := #[] })).setCell ⟨rb, 4, none⟩ (I 0)).setCell ⟨rb, 5, none⟩ (.string { data := #[] })).setCell ⟨rb, 6, none⟩ (.string { data := #[] })).setCell ⟨rb, 7, none⟩ (I na)).cell? ⟨r8, o, none⟩ = ([I id, I 5, .string of, .string { data := #[] }, I 0, .string { data := #[] }, .string { data := #[] }, I na] : List Value)[o]?)) := ⟨((((((((((((((((HNw8.out.G (G.refl w8).drew).off (b := rb) (o := 0) (v := I id) HNE.out.2.2.2)).off (b := rb) (o := 1) (v := I 5) HNE.out.2.2.2)).off (b := rb) (o := 2) (v := .string of) HNE.out.2.2.2)).off (b := rb) (o := 3) (v := .string { data := #[] }) HNE.out.2.2.2)).off (b := rb) (o := 4) (v := I 0) HNE.out.2.2.2)).off (b := rb) (o := 5) (v := .string { data := #[] }) HNE.out.2.2.2)).off (b := rb) (o := 6) (v := .string { data := #[] }) HNE.out.2.2.2)).off (b := rb) (o := 7) (v := I na) HNE.out.2.2.2).cell, ((((((((((((((((H8w8.out.G (G.refl w8).drew).off (b := rb) (o := 0) (v := I id) HNE.out.2.1.symm)).off (b := rb) (o := 1) (v := I 5) HNE.out.2.1.symm)).off (b := rb) (o := 2) (v := .string of) HNE.out.2.1.symm)).off (b := rb) (o := 3) (v := .string { data := #[] }) HNE.out.2.1.symm)).off (b := rb) (o := 4) (v := I 0) HNE.out.2.1.symm)).off (b := rb) (o := 5) (v := .string { data := #[] }) HNE.out.2.1.symm)).off (b := rb) (o := 6) (v := .string { data := #[] }) HNE.out.2.1.symm)).off (b := rb) (o := 7) (v := I na) HNE.out.2.1.symm).cell⟩
  clear hrb7
  refine (if_pos rfl).mpr ?_
  refine wp_store_mid 66 _ _ rfl rb 0 #[I id, I 5, .string of, .string { data := #[] }, I 0, .string { data := #[] }, .string { data := #[] }, I na] rfl rfl HTH.out (by kernel_rfl) (all_oneCell_toArray (cs := [I id, I 5, .string of, .string { data := #[] }, I 0, .string { data := #[] }, .string { data := #[] }, I na]) (fun v hv => one8 (by rfl) hv)) ?_
  refine hK.out _ _ (⟨HS7.out.1, HS7.out.2, HG7.out⟩) (fun hHeld => ?_)
  clear hK K
  try simp only [Act.put, List.getElem_toArray, List.getElem_cons_zero, List.getElem_cons_succ]
  refine wpAnyH_take (i := 11) (v := ?_) rfl (by kernel_rfl) (by kernel_rfl) (by kernel_rfl) (fun _ _ _ h => h) (Or.inl ⟨by rfl, ?_⟩) hHeld ?_
  rotate_left 1
  · (intro w hSw; (try dsimp only at hSw); go_simp; try with_reducible rfl)
  try simp only [Act.put, List.getElem_toArray, List.getElem_cons_zero, List.getElem_cons_succ, List.setIfInBounds_toArray, List.set_cons_zero, List.set_cons_succ]
  refine wpAnyH_done (by kernel_rfl) ?_ _
  refine NoPanic.normal ?_
  go_wp2_with fail
  exact bodyPost_ret_by (v := .tuple #[.agg #[I id, I 5, .string of, .string { data := #[] }, I 0, .string { data := #[] }, .string { data := #[] }, I na], .bool false]) (retY _ _ rb _ _ rfl rfl HB7.out rfl) rfl ⟨rfl, HG7.out⟩
set_option maxRecDepth 100000 in
set_option maxHeartbeats 4000000 in
theorem says_most_g (id : Int) (lb kk of : ByteArray) (bk : Bool) (pa : Option Addr) (pn pc : Nat) (W : World) (HK : Hid (∀ V, G W V → Calls Tryz.prog 104 #[.slice pa pn pc, .string { data := #[107, 105, 110, 100] }] V fun e W' => e = .returned (.tuple #[.string kk, .bool bk]) ∧ G V W')) (nk na nb : Int) (nz : ByteArray) (HO : Hid (∀ V, G W V → Calls Tryz.prog 105 #[.slice pa pn pc, .string { data := #[111, 102] }] V fun e W' => e = .returned (.tuple #[.string of, .bool true]) ∧ G V W')) (HM : Hid (∀ V, G W V → Calls Tryz.prog 107 #[.slice pa pn pc, .string { data := #[110] }] V fun e W' => e = .returned (.tuple #[.agg #[I nk, I na, I nb, .string nz], .bool true]) ∧ G V W')) (hnk : (nk == 2) = false) (e0 : (kk.toList == [117, 110, 105, 113, 117, 101]) = false) (e1 : (kk.toList == [110, 101, 101, 100, 115]) = false) (e2 : (kk.toList == [111, 110, 108, 121]) = false) (e3 : (kk.toList == [108, 105, 110, 107]) = false) (e4 : (kk.toList == [109, 111, 115, 116]) = true) : Calls Tryz.prog 68 #[.agg #[I id, .string lb, .slice pa pn pc]] W fun e W' => e = .returned (.tuple #[.agg #[I id, I 5, .string of, .string { data := #[] }, I 0, .string { data := #[] }, .string { data := #[] }, I na], .bool false]) ∧ G W W' := by
  obtain ⟨w2, hw2⟩ : ∃ w2, w2 = ((W.alloc (.cells #[I id, .string lb, .slice pa pn pc] 69)).alloc (.cells #[I 0, I 0, .string { data := #[] }, .string { data := #[] }, I 0, .string { data := #[] }, .string { data := #[] }, I 0] 66)) := ⟨_, rfl⟩
  obtain ⟨B0, hB0⟩ : ∃ B0, B0 = W.heap.size := ⟨_, rfl⟩
  obtain ⟨rb, hrb⟩ : ∃ rb, rb = B0 + 1 := ⟨_, rfl⟩
  have HGw2 : Hid (G W w2) := by rw [hw2]; exact ((G.refl W).alloc _).alloc _
  have HNw2 : Hid (Blk w2 B0 69 [I id, .string lb, .slice pa pn pc]) := by rw [hw2, hB0]; exact (Blk.new W [I id, .string lb, .slice pa pn pc] 69).G ((G.refl _).alloc _)
  have HRw2 : Hid (Blk w2 rb 66 [I 0, I 0, .string { data := #[] }, .string { data := #[] }, I 0, .string { data := #[] }, .string { data := #[] }, I 0]) := by
    have := Blk.new (W.alloc (.cells #[I id, .string lb, .slice pa pn pc] 69)) [I 0, I 0, .string { data := #[] }, .string { data := #[] }, I 0, .string { data := #[] }, .string { data := #[] }, I 0] 66
    rw [Hid, hw2, hrb, hB0]
    simpa using this
  have HLO : Hid (W.heap.size ≤ rb) := by show _ ≤ _; omega
  have HEW : Hid (((W.alloc (.cells #[I id, .string lb, .slice pa pn pc] 69)).alloc (.cells #[I 0, I 0, .string { data := #[] }, .string { data := #[] }, I 0, .string { data := #[] }, .string { data := #[] }, I 0] 66)) = w2) := hw2.symm
  have HE1 : Hid (W.heap.size = B0) := hB0.symm
  have HE2 : Hid (B0 + 1 = rb) := hrb.symm
  have e0 := ((Blk.new W [I id, .string lb, .slice pa pn pc] 69).G ((G.refl _).alloc (.cells #[I 0, I 0, .string { data := #[] }, .string { data := #[] }, I 0, .string { data := #[] }, .string { data := #[] }, I 0] 66))).cell
  have cN := HNw2.out.cell
  clear hw2 hB0 hrb
  go_enter Tryz.func68, Tryz.ntmps68
  go_wp2_with (first | (rw [HEW.out]; (try rw [HE1.out]); (try rw [HE2.out]); clear HEW e0) | fail)
  try rw [HEW.out]
  try rw [HE1.out]
  try rw [HE2.out]
  clear cN
  refine (HK.out w2 HGw2.out).mono ?_
  rintro e w3 ⟨rfl, hg'⟩
  have HNw3 := hide (HNw2.out.G hg'); have HRw3 := hide (HRw2.out.G hg'); have HGw3 := hide (HGw2.out.trans hg')
  clear hg'
  have cN := HNw3.out.cell
  go_wp2_with fail
  clear cN
  refine (HO.out w3 HGw3.out).mono ?_
  rintro e w4 ⟨rfl, hg'⟩
  have HNw4 := hide (HNw3.out.G hg'); have HRw4 := hide (HRw3.out.G hg'); have HGw4 := hide (HGw3.out.trans hg')
  clear hg'
  obtain ⟨w5, hw⟩ : ∃ w, w = w4.alloc (.cells #[I id, I 0, .string of, .string { data := #[] }, I 0, .string { data := #[] }, .string { data := #[] }, I 0] 66) := ⟨_, rfl⟩
  obtain ⟨r8, hr8⟩ : ∃ r, r = w4.heap.size := ⟨_, rfl⟩
  have hg' : G w4 w5 := by rw [hw]; exact (G.refl _).alloc _
  have H8w5 : Hid (Blk w5 r8 66 [I id, I 0, .string of, .string { data := #[] }, I 0, .string { data := #[] }, .string { data := #[] }, I 0]) := by rw [Hid, hw, hr8]; exact Blk.new w4 [I id, I 0, .string of, .string { data := #[] }, I 0, .string { data := #[] }, .string { data := #[] }, I 0] 66
  have HNw5 := hide (HNw4.out.G hg'); have HRw5 := hide (HRw4.out.G hg'); have HGw5 := hide (HGw4.out.trans hg')
  have HEX : Hid (w4.alloc (.cells #[I id, I 0, .string of, .string { data := #[] }, I 0, .string { data := #[] }, .string { data := #[] }, I 0] 66) = w5) := hw.symm
  have HE8 : Hid (w4.heap.size = r8) := hr8.symm
  have HNE : Hid (B0 ≠ r8 ∧ rb ≠ r8 ∧ W.heap.size ≤ r8 ∧ B0 ≠ rb) := ⟨by have := HNw4.out.lt; omega, by have := HRw4.out.lt; omega, by have := HGw4.out.size; omega, by have := HE2.out; omega⟩
  have cN := HNw4.out.cell
  have cN2 := HNw5.out.cell
  clear hw hr8 hg'
  go_wp2_with (first | (rw [HEX.out]; (try rw [HE8.out]); clear HEX) | fail)
  try rw [HEX.out]
  (try rw [HE8.out])
  clear cN cN2
  refine (HM.out w5 HGw5.out).mono ?_
  rintro e w6 ⟨rfl, hg'⟩
  have HNw6 := hide (HNw5.out.G hg'); have HRw6 := hide (HRw5.out.G hg'); have HGw6 := hide (HGw5.out.trans hg')
  have H8w6 := hide (H8w5.out.G hg')
  clear hg'
  obtain ⟨wv, hw⟩ : ∃ w, w = (w6.alloc (.cells #[I nk, I na, I nb, .string nz] 41)) := ⟨_, rfl⟩
  obtain ⟨rV, hrV⟩ : ∃ r, r = w6.heap.size := ⟨_, rfl⟩
  have hg' : G w6 wv := by rw [hw]; exact (G.refl _).alloc _
  have HVB : Hid (Blk wv rV 41 [I nk, I na, I nb, .string nz]) := by rw [Hid, hw, hrV]; exact Blk.new w6 [I nk, I na, I nb, .string nz] 41
  have HNwv := hide (HNw6.out.G hg'); have HRwv := hide (HRw6.out.G hg'); have HGwv := hide (HGw6.out.trans hg'); have H8wv := hide (H8w6.out.G hg')
  have HEV : Hid ((w6.alloc (.cells #[I nk, I na, I nb, .string nz] 41)) = wv) := hw.symm
  have HEB : Hid (w6.heap.size = rV) := hrV.symm
  have HNV : Hid (rV ≠ r8) := by have := H8w6.out.lt; show _ ≠ _; omega
  clear hw hrV hg'
  have cV := HVB.out.cell
  obtain ⟨w8, hw⟩ : ∃ w, w = ((wv.setCell ⟨r8, 1, none⟩ (I 5)).setCell ⟨r8, 7, none⟩ (I na)) := ⟨_, rfl⟩
  have H8w8 : Hid (Blk w8 r8 66 [I id, I 5, .string of, .string { data := #[] }, I 0, .string { data := #[] }, .string { data := #[] }, I na]) := by rw [hw]; exact ((H8wv.out.set 1 (I 5)).set 7 (I na))
  have HNw8 : Hid (Blk w8 B0 69 [I id, .string lb, .slice pa pn pc]) := by rw [hw]; exact ((HNwv.out.off (b := r8) (o := 1) (v := I 5) HNE.out.1).off (b := r8) (o := 7) (v := I na) HNE.out.1)
  have HRw8 : Hid (Blk w8 rb 66 [I 0, I 0, .string { data := #[] }, .string { data := #[] }, I 0, .string { data := #[] }, .string { data := #[] }, I 0]) := by rw [hw]; exact ((HRwv.out.off (b := r8) (o := 1) (v := I 5) HNE.out.2.1).off (b := r8) (o := 7) (v := I na) HNE.out.2.1)
  have HGw8 : Hid (G W w8) := by rw [hw]; exact ((HGwv.out.setCell HNE.out.2.2.1 (I 5)).setCell HNE.out.2.2.1 (I na))
  have HES : Hid (((wv.setCell ⟨r8, 1, none⟩ (I 5)).setCell ⟨r8, 7, none⟩ (I na)) = w8) := hw.symm
  clear hw
  have cN := HNwv.out.cell
  have c8 := H8wv.out.cell
  have z8 := H8wv.out.frozen
  have cNx : ∀ o, ((wv.setCell ⟨r8, 1, none⟩ (I 5)).setCell ⟨r8, 7, none⟩ (I na)).cell? ⟨B0, o, none⟩ = ([I id, .string lb, .slice pa pn pc] : List Value)[o]? := by rw [HES.out]; exact HNw8.out.cell
  have c8x : ∀ o, ((wv.setCell ⟨r8, 1, none⟩ (I 5)).setCell ⟨r8, 7, none⟩ (I na)).cell? ⟨r8, o, none⟩ = ([I id, I 5, .string of, .string { data := #[] }, I 0, .string { data := #[] }, .string { data := #[] }, I na] : List Value)[o]? := by rw [HES.out]; exact H8w8.out.cell
  have cNo := HNw8.out.cell
  have c8o := H8w8.out.cell
  have cV1 := (HVB.out.off (b := r8) (o := 1) (v := I 5) HNV.out).cell
  have cV2 := ((HVB.out.off (b := r8) (o := 1) (v := I 5) HNV.out).off (b := r8) (o := 7) (v := I na) HNV.out).cell
  have cV8 : ∀ o, w8.cell? ⟨rV, o, none⟩ = ([I nk, I na, I nb, .string nz] : List Value)[o]? := by rw [← HES.out]; exact cV2
  go_wp2_with (first | (rw [HES.out]; clear HES) | (rw [HEX.out]; (try rw [HE8.out]); clear HEX) | (rw [HEV.out]; (try rw [HEB.out]); clear HEV) | fail)
  try rw [HEX.out]
  (try rw [HE8.out])
  try rw [HES.out]
  clear cN c8 z8 cNx c8x cNo c8o
  clear cV cV1 cV2 cV8
  refine wp_region_noPanic ?_
  refine wp_region_held_drew (S := (fun V => (∀ o, V.cell? ⟨B0, o, none⟩ = ([I id, .string lb, .slice pa pn pc] : List Value)[o]?) ∧ (∀ o, V.cell? ⟨r8, o, none⟩ = ([I id, I 5, .string of, .string { data := #[] }, I 0, .string { data := #[] }, .string { data := #[] }, I na] : List Value)[o]?) ∧ G W V)) (by kernel_rfl) (⟨(HNw8.out.G (G.refl _).drew).cell, (H8w8.out.G (G.refl _).drew).cell, HGw8.out.drew⟩) (fun hHeld => ?_)
  refine wpAnyH_take (i := 0) (v := ?_) rfl (by kernel_rfl) (by kernel_rfl) (by kernel_rfl) (fun _ _ _ h => h) (Or.inl ⟨by rfl, ?_⟩) hHeld ?_
  rotate_left 1
  · (intro w hSw; obtain ⟨k1, k2, -⟩ := hSw; go_simp; try with_reducible rfl)
  try simp only [Act.put, List.getElem_toArray, List.getElem_cons_zero, List.setIfInBounds_toArray, List.set_cons_zero, List.set_cons_succ]
  refine wpAnyH_take (i := 1) (v := ?_) rfl (by kernel_rfl) (by kernel_rfl) (by kernel_rfl) (fun _ _ _ h => h) (Or.inl ⟨by rfl, ?_⟩) hHeld ?_
  rotate_left 1
  · (intro w hSw; (try dsimp only at hSw); go_simp; try with_reducible rfl)
  try simp only [Act.put, List.getElem_toArray, List.getElem_cons_zero, List.getElem_cons_succ, List.setIfInBounds_toArray, List.set_cons_zero, List.set_cons_succ]
  refine wpAnyH_take (i := 2) (v := ?_) rfl (by kernel_rfl) (by kernel_rfl) (by kernel_rfl) (fun _ _ _ h => h) (Or.inl ⟨by rfl, ?_⟩) hHeld ?_
  rotate_left 1
  · (intro w hSw; (try dsimp only at hSw); go_simp; try with_reducible rfl)
  try simp only [Act.put, List.getElem_toArray, List.getElem_cons_zero, List.getElem_cons_succ, List.setIfInBounds_toArray, List.set_cons_zero, List.set_cons_succ]
  refine wpAnyH_take (i := 3) (v := undef) rfl (by kernel_rfl) (by kernel_rfl) (by kernel_rfl) (fun _ _ _ h => h) (Or.inr ⟨by rfl, rfl⟩) hHeld ?_
  try simp only [Act.put, List.getElem_toArray, List.getElem_cons_zero, List.getElem_cons_succ, List.setIfInBounds_toArray, List.set_cons_zero, List.set_cons_succ]
  refine wpAnyH_take (i := 4) (v := undef) rfl (by kernel_rfl) (by kernel_rfl) (by kernel_rfl) (fun _ _ _ h => h) (Or.inr ⟨by rfl, rfl⟩) hHeld ?_
  try simp only [Act.put, List.getElem_toArray, List.getElem_cons_zero, List.getElem_cons_succ, List.setIfInBounds_toArray, List.set_cons_zero, List.set_cons_succ]
  refine wpAnyH_take (i := 5) (v := undef) rfl (by kernel_rfl) (by kernel_rfl) (by kernel_rfl) (fun _ _ _ h => h) (Or.inr ⟨by rfl, rfl⟩) hHeld ?_
  try simp only [Act.put, List.getElem_toArray, List.getElem_cons_zero, List.getElem_cons_succ, List.setIfInBounds_toArray, List.set_cons_zero, List.set_cons_succ]
  refine wpAnyH_take (i := 6) (v := undef) rfl (by kernel_rfl) (by kernel_rfl) (by kernel_rfl) (fun _ _ _ h => h) (Or.inr ⟨by rfl, rfl⟩) hHeld ?_
  try simp only [Act.put, List.getElem_toArray, List.getElem_cons_zero, List.getElem_cons_succ, List.setIfInBounds_toArray, List.set_cons_zero, List.set_cons_succ]
  refine wpAnyH_take (i := 7) (v := undef) rfl (by kernel_rfl) (by kernel_rfl) (by kernel_rfl) (fun _ _ _ h => h) (Or.inr ⟨by rfl, rfl⟩) hHeld ?_
  try simp only [Act.put, List.getElem_toArray, List.getElem_cons_zero, List.getElem_cons_succ, List.setIfInBounds_toArray, List.set_cons_zero, List.set_cons_succ]
  refine wpAnyH_take (i := 8) (v := undef) rfl (by kernel_rfl) (by kernel_rfl) (by kernel_rfl) (fun _ _ _ h => h) (Or.inr ⟨by rfl, rfl⟩) hHeld ?_
  try simp only [Act.put, List.getElem_toArray, List.getElem_cons_zero, List.getElem_cons_succ, List.setIfInBounds_toArray, List.set_cons_zero, List.set_cons_succ]
  refine wpAnyH_take (i := 9) (v := ?_) rfl (by kernel_rfl) (by kernel_rfl) (by kernel_rfl) (fun _ _ _ h => h) (Or.inl ⟨by rfl, ?_⟩) hHeld ?_
  rotate_left 1
  · (intro w hSw; (try dsimp only at hSw); go_simp; try with_reducible rfl)
  try simp only [Act.put, List.getElem_toArray, List.getElem_cons_zero, List.getElem_cons_succ, List.setIfInBounds_toArray, List.set_cons_zero, List.set_cons_succ]
  refine wpAnyH_ready (rs := [10]) (by kernel_rfl) (by simp) (AllReadyH.cons rfl (fun K hK => ?_) AllReadyH.nil)
  clear hHeld
  have hrb7 := HRw8.out.G (G.refl w8).drew
  have HTH : Hid (w8.drew.there rb 0 8) := fun j hj => ⟨by rw [hrb7.cell, List.getElem?_eq_getElem (by simp; omega)]; rfl, hrb7.frozen _⟩
  have HB7 := hide ((((((((hrb7.set 0 (I id)).set 1 (I 5)).set 2 (.string of)).set 3 (.string { data := #[] })).set 4 (I 0)).set 5 (.string { data := #[] })).set 6 (.string { data := #[] })).set 7 (I na))
  have HG7 : Hid (G W ((((((((w8.drew.setCell ⟨rb, 0, none⟩ (I id)).setCell ⟨rb, 1, none⟩ (I 5)).setCell ⟨rb, 2, none⟩ (.string of)).setCell ⟨rb, 3, none⟩ (.string { data := #[] })).setCell ⟨rb, 4, none⟩ (I 0)).setCell ⟨rb, 5, none⟩ (.string { data := #[] })).setCell ⟨rb, 6, none⟩ (.string { data := #[] })).setCell ⟨rb, 7, none⟩ (I na))) := (((((((((HGw8.out.drew).setCell HLO.out (I id)).setCell HLO.out (I 5)).setCell HLO.out (.string of)).setCell HLO.out (.string { data := #[] })).setCell HLO.out (I 0)).setCell HLO.out (.string { data := #[] })).setCell HLO.out (.string { data := #[] })).setCell HLO.out (I na))
  have HS7 : Hid ((∀ o, ((((((((w8.drew.setCell ⟨rb, 0, none⟩ (I id)).setCell ⟨rb, 1, none⟩ (I 5)).setCell ⟨rb, 2, none⟩ (.string of)).setCell ⟨rb, 3, none⟩ (.string { data := #[] })).setCell ⟨rb, 4, none⟩ (I 0)).setCell ⟨rb, 5, none⟩ (.string { data := #[] })).setCell ⟨rb, 6, none⟩ (.string { data := #[] })).setCell ⟨rb, 7, none⟩ (I na)).cell? ⟨B0, o, none⟩ = ([I id, .string lb, .slice pa pn pc] : List Value)[o]?) ∧ (∀ o, ((((((((w8.drew.setCell ⟨rb, 0, none⟩ (I id)).setCell ⟨rb, 1, none⟩ (I 5)).setCell ⟨rb, 2, none⟩ (.string of)).setCell ⟨rb, 3, none⟩ (.string { data := #[] })).setCell ⟨rb, 4, none⟩ (I 0)).setCell ⟨rb, 5, none⟩ (.string { data := #[] })).setCell ⟨rb, 6, none⟩ (.string { data := #[] })).setCell ⟨rb, 7, none⟩ (I na)).cell? ⟨r8, o, none⟩ = ([I id, I 5, .string of, .string { data := #[] }, I 0, .string { data := #[] }, .string { data := #[] }, I na] : List Value)[o]?)) := ⟨((((((((((((((((HNw8.out.G (G.refl w8).drew).off (b := rb) (o := 0) (v := I id) HNE.out.2.2.2)).off (b := rb) (o := 1) (v := I 5) HNE.out.2.2.2)).off (b := rb) (o := 2) (v := .string of) HNE.out.2.2.2)).off (b := rb) (o := 3) (v := .string { data := #[] }) HNE.out.2.2.2)).off (b := rb) (o := 4) (v := I 0) HNE.out.2.2.2)).off (b := rb) (o := 5) (v := .string { data := #[] }) HNE.out.2.2.2)).off (b := rb) (o := 6) (v := .string { data := #[] }) HNE.out.2.2.2)).off (b := rb) (o := 7) (v := I na) HNE.out.2.2.2).cell, ((((((((((((((((H8w8.out.G (G.refl w8).drew).off (b := rb) (o := 0) (v := I id) HNE.out.2.1.symm)).off (b := rb) (o := 1) (v := I 5) HNE.out.2.1.symm)).off (b := rb) (o := 2) (v := .string of) HNE.out.2.1.symm)).off (b := rb) (o := 3) (v := .string { data := #[] }) HNE.out.2.1.symm)).off (b := rb) (o := 4) (v := I 0) HNE.out.2.1.symm)).off (b := rb) (o := 5) (v := .string { data := #[] }) HNE.out.2.1.symm)).off (b := rb) (o := 6) (v := .string { data := #[] }) HNE.out.2.1.symm)).off (b := rb) (o := 7) (v := I na) HNE.out.2.1.symm).cell⟩
  clear hrb7
  refine (if_pos rfl).mpr ?_
  refine wp_store_mid 66 _ _ rfl rb 0 #[I id, I 5, .string of, .string { data := #[] }, I 0, .string { data := #[] }, .string { data := #[] }, I na] rfl rfl HTH.out (by kernel_rfl) (all_oneCell_toArray (cs := [I id, I 5, .string of, .string { data := #[] }, I 0, .string { data := #[] }, .string { data := #[] }, I na]) (fun v hv => one8 (by rfl) hv)) ?_
  refine hK.out _ _ (⟨HS7.out.1, HS7.out.2, HG7.out⟩) (fun hHeld => ?_)
  clear hK K
  try simp only [Act.put, List.getElem_toArray, List.getElem_cons_zero, List.getElem_cons_succ]
  refine wpAnyH_take (i := 11) (v := ?_) rfl (by kernel_rfl) (by kernel_rfl) (by kernel_rfl) (fun _ _ _ h => h) (Or.inl ⟨by rfl, ?_⟩) hHeld ?_
  rotate_left 1
  · (intro w hSw; (try dsimp only at hSw); go_simp; try with_reducible rfl)
  try simp only [Act.put, List.getElem_toArray, List.getElem_cons_zero, List.getElem_cons_succ, List.setIfInBounds_toArray, List.set_cons_zero, List.set_cons_succ]
  refine wpAnyH_done (by kernel_rfl) ?_ _
  refine NoPanic.normal ?_
  go_wp2_with fail
  exact bodyPost_ret_by (v := .tuple #[.agg #[I id, I 5, .string of, .string { data := #[] }, I 0, .string { data := #[] }, .string { data := #[] }, I na], .bool false]) (retY _ _ rb _ _ rfl rfl HB7.out rfl) rfl ⟨rfl, HG7.out⟩
set_option maxRecDepth 100000 in
set_option maxHeartbeats 4000000 in
theorem says_most_h (id : Int) (lb kk of : ByteArray) (bk : Bool) (pa : Option Addr) (pn pc : Nat) (W : World) (HK : Hid (∀ V, G W V → Calls Tryz.prog 104 #[.slice pa pn pc, .string { data := #[107, 105, 110, 100] }] V fun e W' => e = .returned (.tuple #[.string kk, .bool bk]) ∧ G V W')) (nk na nb : Int) (nz : ByteArray) (HO : Hid (∀ V, G W V → Calls Tryz.prog 105 #[.slice pa pn pc, .string { data := #[111, 102] }] V fun e W' => e = .returned (.tuple #[.string of, .bool true]) ∧ G V W')) (HM : Hid (∀ V, G W V → Calls Tryz.prog 107 #[.slice pa pn pc, .string { data := #[110] }] V fun e W' => e = .returned (.tuple #[.agg #[I nk, I na, I nb, .string nz], .bool true]) ∧ G V W')) (hnk : (nk == 2) = true) (hna : decide (na ≥ 0) = false) (e0 : (kk.toList == [117, 110, 105, 113, 117, 101]) = false) (e1 : (kk.toList == [110, 101, 101, 100, 115]) = false) (e2 : (kk.toList == [111, 110, 108, 121]) = false) (e3 : (kk.toList == [108, 105, 110, 107]) = false) (e4 : (kk.toList == [109, 111, 115, 116]) = true) : Calls Tryz.prog 68 #[.agg #[I id, .string lb, .slice pa pn pc]] W fun e W' => e = .returned (.tuple #[.agg #[I id, I 5, .string of, .string { data := #[] }, I 0, .string { data := #[] }, .string { data := #[] }, I na], .bool false]) ∧ G W W' := by
  obtain ⟨w2, hw2⟩ : ∃ w2, w2 = ((W.alloc (.cells #[I id, .string lb, .slice pa pn pc] 69)).alloc (.cells #[I 0, I 0, .string { data := #[] }, .string { data := #[] }, I 0, .string { data := #[] }, .string { data := #[] }, I 0] 66)) := ⟨_, rfl⟩
  obtain ⟨B0, hB0⟩ : ∃ B0, B0 = W.heap.size := ⟨_, rfl⟩
  obtain ⟨rb, hrb⟩ : ∃ rb, rb = B0 + 1 := ⟨_, rfl⟩
  have HGw2 : Hid (G W w2) := by rw [hw2]; exact ((G.refl W).alloc _).alloc _
  have HNw2 : Hid (Blk w2 B0 69 [I id, .string lb, .slice pa pn pc]) := by rw [hw2, hB0]; exact (Blk.new W [I id, .string lb, .slice pa pn pc] 69).G ((G.refl _).alloc _)
  have HRw2 : Hid (Blk w2 rb 66 [I 0, I 0, .string { data := #[] }, .string { data := #[] }, I 0, .string { data := #[] }, .string { data := #[] }, I 0]) := by
    have := Blk.new (W.alloc (.cells #[I id, .string lb, .slice pa pn pc] 69)) [I 0, I 0, .string { data := #[] }, .string { data := #[] }, I 0, .string { data := #[] }, .string { data := #[] }, I 0] 66
    rw [Hid, hw2, hrb, hB0]
    simpa using this
  have HLO : Hid (W.heap.size ≤ rb) := by show _ ≤ _; omega
  have HEW : Hid (((W.alloc (.cells #[I id, .string lb, .slice pa pn pc] 69)).alloc (.cells #[I 0, I 0, .string { data := #[] }, .string { data := #[] }, I 0, .string { data := #[] }, .string { data := #[] }, I 0] 66)) = w2) := hw2.symm
  have HE1 : Hid (W.heap.size = B0) := hB0.symm
  have HE2 : Hid (B0 + 1 = rb) := hrb.symm
  have e0 := ((Blk.new W [I id, .string lb, .slice pa pn pc] 69).G ((G.refl _).alloc (.cells #[I 0, I 0, .string { data := #[] }, .string { data := #[] }, I 0, .string { data := #[] }, .string { data := #[] }, I 0] 66))).cell
  have cN := HNw2.out.cell
  clear hw2 hB0 hrb
  go_enter Tryz.func68, Tryz.ntmps68
  go_wp2_with (first | (rw [HEW.out]; (try rw [HE1.out]); (try rw [HE2.out]); clear HEW e0) | fail)
  try rw [HEW.out]
  try rw [HE1.out]
  try rw [HE2.out]
  clear cN
  refine (HK.out w2 HGw2.out).mono ?_
  rintro e w3 ⟨rfl, hg'⟩
  have HNw3 := hide (HNw2.out.G hg'); have HRw3 := hide (HRw2.out.G hg'); have HGw3 := hide (HGw2.out.trans hg')
  clear hg'
  have cN := HNw3.out.cell
  go_wp2_with fail
  clear cN
  refine (HO.out w3 HGw3.out).mono ?_
  rintro e w4 ⟨rfl, hg'⟩
  have HNw4 := hide (HNw3.out.G hg'); have HRw4 := hide (HRw3.out.G hg'); have HGw4 := hide (HGw3.out.trans hg')
  clear hg'
  obtain ⟨w5, hw⟩ : ∃ w, w = w4.alloc (.cells #[I id, I 0, .string of, .string { data := #[] }, I 0, .string { data := #[] }, .string { data := #[] }, I 0] 66) := ⟨_, rfl⟩
  obtain ⟨r8, hr8⟩ : ∃ r, r = w4.heap.size := ⟨_, rfl⟩
  have hg' : G w4 w5 := by rw [hw]; exact (G.refl _).alloc _
  have H8w5 : Hid (Blk w5 r8 66 [I id, I 0, .string of, .string { data := #[] }, I 0, .string { data := #[] }, .string { data := #[] }, I 0]) := by rw [Hid, hw, hr8]; exact Blk.new w4 [I id, I 0, .string of, .string { data := #[] }, I 0, .string { data := #[] }, .string { data := #[] }, I 0] 66
  have HNw5 := hide (HNw4.out.G hg'); have HRw5 := hide (HRw4.out.G hg'); have HGw5 := hide (HGw4.out.trans hg')
  have HEX : Hid (w4.alloc (.cells #[I id, I 0, .string of, .string { data := #[] }, I 0, .string { data := #[] }, .string { data := #[] }, I 0] 66) = w5) := hw.symm
  have HE8 : Hid (w4.heap.size = r8) := hr8.symm
  have HNE : Hid (B0 ≠ r8 ∧ rb ≠ r8 ∧ W.heap.size ≤ r8 ∧ B0 ≠ rb) := ⟨by have := HNw4.out.lt; omega, by have := HRw4.out.lt; omega, by have := HGw4.out.size; omega, by have := HE2.out; omega⟩
  have cN := HNw4.out.cell
  have cN2 := HNw5.out.cell
  clear hw hr8 hg'
  go_wp2_with (first | (rw [HEX.out]; (try rw [HE8.out]); clear HEX) | fail)
  try rw [HEX.out]
  (try rw [HE8.out])
  clear cN cN2
  refine (HM.out w5 HGw5.out).mono ?_
  rintro e w6 ⟨rfl, hg'⟩
  have HNw6 := hide (HNw5.out.G hg'); have HRw6 := hide (HRw5.out.G hg'); have HGw6 := hide (HGw5.out.trans hg')
  have H8w6 := hide (H8w5.out.G hg')
  clear hg'
  obtain ⟨wv, hw⟩ : ∃ w, w = (w6.alloc (.cells #[I nk, I na, I nb, .string nz] 41)) := ⟨_, rfl⟩
  obtain ⟨rV, hrV⟩ : ∃ r, r = w6.heap.size := ⟨_, rfl⟩
  have hg' : G w6 wv := by rw [hw]; exact (G.refl _).alloc _
  have HVB : Hid (Blk wv rV 41 [I nk, I na, I nb, .string nz]) := by rw [Hid, hw, hrV]; exact Blk.new w6 [I nk, I na, I nb, .string nz] 41
  have HNwv := hide (HNw6.out.G hg'); have HRwv := hide (HRw6.out.G hg'); have HGwv := hide (HGw6.out.trans hg'); have H8wv := hide (H8w6.out.G hg')
  have HEV : Hid ((w6.alloc (.cells #[I nk, I na, I nb, .string nz] 41)) = wv) := hw.symm
  have HEB : Hid (w6.heap.size = rV) := hrV.symm
  have HNV : Hid (rV ≠ r8) := by have := H8w6.out.lt; show _ ≠ _; omega
  clear hw hrV hg'
  have cV := HVB.out.cell
  obtain ⟨w8, hw⟩ : ∃ w, w = ((wv.setCell ⟨r8, 1, none⟩ (I 5)).setCell ⟨r8, 7, none⟩ (I na)) := ⟨_, rfl⟩
  have H8w8 : Hid (Blk w8 r8 66 [I id, I 5, .string of, .string { data := #[] }, I 0, .string { data := #[] }, .string { data := #[] }, I na]) := by rw [hw]; exact ((H8wv.out.set 1 (I 5)).set 7 (I na))
  have HNw8 : Hid (Blk w8 B0 69 [I id, .string lb, .slice pa pn pc]) := by rw [hw]; exact ((HNwv.out.off (b := r8) (o := 1) (v := I 5) HNE.out.1).off (b := r8) (o := 7) (v := I na) HNE.out.1)
  have HRw8 : Hid (Blk w8 rb 66 [I 0, I 0, .string { data := #[] }, .string { data := #[] }, I 0, .string { data := #[] }, .string { data := #[] }, I 0]) := by rw [hw]; exact ((HRwv.out.off (b := r8) (o := 1) (v := I 5) HNE.out.2.1).off (b := r8) (o := 7) (v := I na) HNE.out.2.1)
  have HGw8 : Hid (G W w8) := by rw [hw]; exact ((HGwv.out.setCell HNE.out.2.2.1 (I 5)).setCell HNE.out.2.2.1 (I na))
  have HES : Hid (((wv.setCell ⟨r8, 1, none⟩ (I 5)).setCell ⟨r8, 7, none⟩ (I na)) = w8) := hw.symm
  clear hw
  have cN := HNwv.out.cell
  have c8 := H8wv.out.cell
  have z8 := H8wv.out.frozen
  have cNx : ∀ o, ((wv.setCell ⟨r8, 1, none⟩ (I 5)).setCell ⟨r8, 7, none⟩ (I na)).cell? ⟨B0, o, none⟩ = ([I id, .string lb, .slice pa pn pc] : List Value)[o]? := by rw [HES.out]; exact HNw8.out.cell
  have c8x : ∀ o, ((wv.setCell ⟨r8, 1, none⟩ (I 5)).setCell ⟨r8, 7, none⟩ (I na)).cell? ⟨r8, o, none⟩ = ([I id, I 5, .string of, .string { data := #[] }, I 0, .string { data := #[] }, .string { data := #[] }, I na] : List Value)[o]? := by rw [HES.out]; exact H8w8.out.cell
  have cNo := HNw8.out.cell
  have c8o := H8w8.out.cell
  have cV1 := (HVB.out.off (b := r8) (o := 1) (v := I 5) HNV.out).cell
  have cV2 := ((HVB.out.off (b := r8) (o := 1) (v := I 5) HNV.out).off (b := r8) (o := 7) (v := I na) HNV.out).cell
  have cV8 : ∀ o, w8.cell? ⟨rV, o, none⟩ = ([I nk, I na, I nb, .string nz] : List Value)[o]? := by rw [← HES.out]; exact cV2
  go_wp2_with (first | (rw [HES.out]; clear HES) | (rw [HEX.out]; (try rw [HE8.out]); clear HEX) | (rw [HEV.out]; (try rw [HEB.out]); clear HEV) | fail)
  try rw [HEX.out]
  (try rw [HE8.out])
  try rw [HES.out]
  clear cN c8 z8 cNx c8x cNo c8o
  clear cV cV1 cV2 cV8
  refine wp_region_noPanic ?_
  refine wp_region_held_drew (S := (fun V => (∀ o, V.cell? ⟨B0, o, none⟩ = ([I id, .string lb, .slice pa pn pc] : List Value)[o]?) ∧ (∀ o, V.cell? ⟨r8, o, none⟩ = ([I id, I 5, .string of, .string { data := #[] }, I 0, .string { data := #[] }, .string { data := #[] }, I na] : List Value)[o]?) ∧ G W V)) (by kernel_rfl) (⟨(HNw8.out.G (G.refl _).drew).cell, (H8w8.out.G (G.refl _).drew).cell, HGw8.out.drew⟩) (fun hHeld => ?_)
  refine wpAnyH_take (i := 0) (v := ?_) rfl (by kernel_rfl) (by kernel_rfl) (by kernel_rfl) (fun _ _ _ h => h) (Or.inl ⟨by rfl, ?_⟩) hHeld ?_
  rotate_left 1
  · (intro w hSw; obtain ⟨k1, k2, -⟩ := hSw; go_simp; try with_reducible rfl)
  try simp only [Act.put, List.getElem_toArray, List.getElem_cons_zero, List.setIfInBounds_toArray, List.set_cons_zero, List.set_cons_succ]
  refine wpAnyH_take (i := 1) (v := ?_) rfl (by kernel_rfl) (by kernel_rfl) (by kernel_rfl) (fun _ _ _ h => h) (Or.inl ⟨by rfl, ?_⟩) hHeld ?_
  rotate_left 1
  · (intro w hSw; (try dsimp only at hSw); go_simp; try with_reducible rfl)
  try simp only [Act.put, List.getElem_toArray, List.getElem_cons_zero, List.getElem_cons_succ, List.setIfInBounds_toArray, List.set_cons_zero, List.set_cons_succ]
  refine wpAnyH_take (i := 2) (v := ?_) rfl (by kernel_rfl) (by kernel_rfl) (by kernel_rfl) (fun _ _ _ h => h) (Or.inl ⟨by rfl, ?_⟩) hHeld ?_
  rotate_left 1
  · (intro w hSw; (try dsimp only at hSw); go_simp; try with_reducible rfl)
  try simp only [Act.put, List.getElem_toArray, List.getElem_cons_zero, List.getElem_cons_succ, List.setIfInBounds_toArray, List.set_cons_zero, List.set_cons_succ]
  refine wpAnyH_take (i := 3) (v := undef) rfl (by kernel_rfl) (by kernel_rfl) (by kernel_rfl) (fun _ _ _ h => h) (Or.inr ⟨by rfl, rfl⟩) hHeld ?_
  try simp only [Act.put, List.getElem_toArray, List.getElem_cons_zero, List.getElem_cons_succ, List.setIfInBounds_toArray, List.set_cons_zero, List.set_cons_succ]
  refine wpAnyH_take (i := 4) (v := undef) rfl (by kernel_rfl) (by kernel_rfl) (by kernel_rfl) (fun _ _ _ h => h) (Or.inr ⟨by rfl, rfl⟩) hHeld ?_
  try simp only [Act.put, List.getElem_toArray, List.getElem_cons_zero, List.getElem_cons_succ, List.setIfInBounds_toArray, List.set_cons_zero, List.set_cons_succ]
  refine wpAnyH_take (i := 5) (v := undef) rfl (by kernel_rfl) (by kernel_rfl) (by kernel_rfl) (fun _ _ _ h => h) (Or.inr ⟨by rfl, rfl⟩) hHeld ?_
  try simp only [Act.put, List.getElem_toArray, List.getElem_cons_zero, List.getElem_cons_succ, List.setIfInBounds_toArray, List.set_cons_zero, List.set_cons_succ]
  refine wpAnyH_take (i := 6) (v := undef) rfl (by kernel_rfl) (by kernel_rfl) (by kernel_rfl) (fun _ _ _ h => h) (Or.inr ⟨by rfl, rfl⟩) hHeld ?_
  try simp only [Act.put, List.getElem_toArray, List.getElem_cons_zero, List.getElem_cons_succ, List.setIfInBounds_toArray, List.set_cons_zero, List.set_cons_succ]
  refine wpAnyH_take (i := 7) (v := undef) rfl (by kernel_rfl) (by kernel_rfl) (by kernel_rfl) (fun _ _ _ h => h) (Or.inr ⟨by rfl, rfl⟩) hHeld ?_
  try simp only [Act.put, List.getElem_toArray, List.getElem_cons_zero, List.getElem_cons_succ, List.setIfInBounds_toArray, List.set_cons_zero, List.set_cons_succ]
  refine wpAnyH_take (i := 8) (v := undef) rfl (by kernel_rfl) (by kernel_rfl) (by kernel_rfl) (fun _ _ _ h => h) (Or.inr ⟨by rfl, rfl⟩) hHeld ?_
  try simp only [Act.put, List.getElem_toArray, List.getElem_cons_zero, List.getElem_cons_succ, List.setIfInBounds_toArray, List.set_cons_zero, List.set_cons_succ]
  refine wpAnyH_take (i := 9) (v := ?_) rfl (by kernel_rfl) (by kernel_rfl) (by kernel_rfl) (fun _ _ _ h => h) (Or.inl ⟨by rfl, ?_⟩) hHeld ?_
  rotate_left 1
  · (intro w hSw; (try dsimp only at hSw); go_simp; try with_reducible rfl)
  try simp only [Act.put, List.getElem_toArray, List.getElem_cons_zero, List.getElem_cons_succ, List.setIfInBounds_toArray, List.set_cons_zero, List.set_cons_succ]
  refine wpAnyH_ready (rs := [10]) (by kernel_rfl) (by simp) (AllReadyH.cons rfl (fun K hK => ?_) AllReadyH.nil)
  clear hHeld
  have hrb7 := HRw8.out.G (G.refl w8).drew
  have HTH : Hid (w8.drew.there rb 0 8) := fun j hj => ⟨by rw [hrb7.cell, List.getElem?_eq_getElem (by simp; omega)]; rfl, hrb7.frozen _⟩
  have HB7 := hide ((((((((hrb7.set 0 (I id)).set 1 (I 5)).set 2 (.string of)).set 3 (.string { data := #[] })).set 4 (I 0)).set 5 (.string { data := #[] })).set 6 (.string { data := #[] })).set 7 (I na))
  have HG7 : Hid (G W ((((((((w8.drew.setCell ⟨rb, 0, none⟩ (I id)).setCell ⟨rb, 1, none⟩ (I 5)).setCell ⟨rb, 2, none⟩ (.string of)).setCell ⟨rb, 3, none⟩ (.string { data := #[] })).setCell ⟨rb, 4, none⟩ (I 0)).setCell ⟨rb, 5, none⟩ (.string { data := #[] })).setCell ⟨rb, 6, none⟩ (.string { data := #[] })).setCell ⟨rb, 7, none⟩ (I na))) := (((((((((HGw8.out.drew).setCell HLO.out (I id)).setCell HLO.out (I 5)).setCell HLO.out (.string of)).setCell HLO.out (.string { data := #[] })).setCell HLO.out (I 0)).setCell HLO.out (.string { data := #[] })).setCell HLO.out (.string { data := #[] })).setCell HLO.out (I na))
  have HS7 : Hid ((∀ o, ((((((((w8.drew.setCell ⟨rb, 0, none⟩ (I id)).setCell ⟨rb, 1, none⟩ (I 5)).setCell ⟨rb, 2, none⟩ (.string of)).setCell ⟨rb, 3, none⟩ (.string { data := #[] })).setCell ⟨rb, 4, none⟩ (I 0)).setCell ⟨rb, 5, none⟩ (.string { data := #[] })).setCell ⟨rb, 6, none⟩ (.string { data := #[] })).setCell ⟨rb, 7, none⟩ (I na)).cell? ⟨B0, o, none⟩ = ([I id, .string lb, .slice pa pn pc] : List Value)[o]?) ∧ (∀ o, ((((((((w8.drew.setCell ⟨rb, 0, none⟩ (I id)).setCell ⟨rb, 1, none⟩ (I 5)).setCell ⟨rb, 2, none⟩ (.string of)).setCell ⟨rb, 3, none⟩ (.string { data := #[] })).setCell ⟨rb, 4, none⟩ (I 0)).setCell ⟨rb, 5, none⟩ (.string { data := #[] })).setCell ⟨rb, 6, none⟩ (.string { data := #[] })).setCell ⟨rb, 7, none⟩ (I na)).cell? ⟨r8, o, none⟩ = ([I id, I 5, .string of, .string { data := #[] }, I 0, .string { data := #[] }, .string { data := #[] }, I na] : List Value)[o]?)) := ⟨((((((((((((((((HNw8.out.G (G.refl w8).drew).off (b := rb) (o := 0) (v := I id) HNE.out.2.2.2)).off (b := rb) (o := 1) (v := I 5) HNE.out.2.2.2)).off (b := rb) (o := 2) (v := .string of) HNE.out.2.2.2)).off (b := rb) (o := 3) (v := .string { data := #[] }) HNE.out.2.2.2)).off (b := rb) (o := 4) (v := I 0) HNE.out.2.2.2)).off (b := rb) (o := 5) (v := .string { data := #[] }) HNE.out.2.2.2)).off (b := rb) (o := 6) (v := .string { data := #[] }) HNE.out.2.2.2)).off (b := rb) (o := 7) (v := I na) HNE.out.2.2.2).cell, ((((((((((((((((H8w8.out.G (G.refl w8).drew).off (b := rb) (o := 0) (v := I id) HNE.out.2.1.symm)).off (b := rb) (o := 1) (v := I 5) HNE.out.2.1.symm)).off (b := rb) (o := 2) (v := .string of) HNE.out.2.1.symm)).off (b := rb) (o := 3) (v := .string { data := #[] }) HNE.out.2.1.symm)).off (b := rb) (o := 4) (v := I 0) HNE.out.2.1.symm)).off (b := rb) (o := 5) (v := .string { data := #[] }) HNE.out.2.1.symm)).off (b := rb) (o := 6) (v := .string { data := #[] }) HNE.out.2.1.symm)).off (b := rb) (o := 7) (v := I na) HNE.out.2.1.symm).cell⟩
  clear hrb7
  refine (if_pos rfl).mpr ?_
  refine wp_store_mid 66 _ _ rfl rb 0 #[I id, I 5, .string of, .string { data := #[] }, I 0, .string { data := #[] }, .string { data := #[] }, I na] rfl rfl HTH.out (by kernel_rfl) (all_oneCell_toArray (cs := [I id, I 5, .string of, .string { data := #[] }, I 0, .string { data := #[] }, .string { data := #[] }, I na]) (fun v hv => one8 (by rfl) hv)) ?_
  refine hK.out _ _ (⟨HS7.out.1, HS7.out.2, HG7.out⟩) (fun hHeld => ?_)
  clear hK K
  try simp only [Act.put, List.getElem_toArray, List.getElem_cons_zero, List.getElem_cons_succ]
  refine wpAnyH_take (i := 11) (v := ?_) rfl (by kernel_rfl) (by kernel_rfl) (by kernel_rfl) (fun _ _ _ h => h) (Or.inl ⟨by rfl, ?_⟩) hHeld ?_
  rotate_left 1
  · (intro w hSw; (try dsimp only at hSw); go_simp; try with_reducible rfl)
  try simp only [Act.put, List.getElem_toArray, List.getElem_cons_zero, List.getElem_cons_succ, List.setIfInBounds_toArray, List.set_cons_zero, List.set_cons_succ]
  refine wpAnyH_done (by kernel_rfl) ?_ _
  refine NoPanic.normal ?_
  go_wp2_with fail
  exact bodyPost_ret_by (v := .tuple #[.agg #[I id, I 5, .string of, .string { data := #[] }, I 0, .string { data := #[] }, .string { data := #[] }, I na], .bool false]) (retY _ _ rb _ _ rfl rfl HB7.out rfl) rfl ⟨rfl, HG7.out⟩
set_option maxRecDepth 100000 in
set_option maxHeartbeats 4000000 in
theorem says_most_t (id : Int) (lb kk of : ByteArray) (bk : Bool) (pa : Option Addr) (pn pc : Nat) (W : World) (HK : Hid (∀ V, G W V → Calls Tryz.prog 104 #[.slice pa pn pc, .string { data := #[107, 105, 110, 100] }] V fun e W' => e = .returned (.tuple #[.string kk, .bool bk]) ∧ G V W')) (nk na nb : Int) (nz : ByteArray) (HO : Hid (∀ V, G W V → Calls Tryz.prog 105 #[.slice pa pn pc, .string { data := #[111, 102] }] V fun e W' => e = .returned (.tuple #[.string of, .bool true]) ∧ G V W')) (HM : Hid (∀ V, G W V → Calls Tryz.prog 107 #[.slice pa pn pc, .string { data := #[110] }] V fun e W' => e = .returned (.tuple #[.agg #[I nk, I na, I nb, .string nz], .bool true]) ∧ G V W')) (hnk : (nk == 2) = true) (hna : na ≥ 0) (e0 : (kk.toList == [117, 110, 105, 113, 117, 101]) = false) (e1 : (kk.toList == [110, 101, 101, 100, 115]) = false) (e2 : (kk.toList == [111, 110, 108, 121]) = false) (e3 : (kk.toList == [108, 105, 110, 107]) = false) (e4 : (kk.toList == [109, 111, 115, 116]) = true) : Calls Tryz.prog 68 #[.agg #[I id, .string lb, .slice pa pn pc]] W fun e W' => e = .returned (.tuple #[.agg #[I id, I 5, .string of, .string { data := #[] }, I 0, .string { data := #[] }, .string { data := #[] }, I na], .bool ((pn : Int) == 3)]) ∧ G W W' := by
  obtain ⟨w2, hw2⟩ : ∃ w2, w2 = ((W.alloc (.cells #[I id, .string lb, .slice pa pn pc] 69)).alloc (.cells #[I 0, I 0, .string { data := #[] }, .string { data := #[] }, I 0, .string { data := #[] }, .string { data := #[] }, I 0] 66)) := ⟨_, rfl⟩
  obtain ⟨B0, hB0⟩ : ∃ B0, B0 = W.heap.size := ⟨_, rfl⟩
  obtain ⟨rb, hrb⟩ : ∃ rb, rb = B0 + 1 := ⟨_, rfl⟩
  have HGw2 : Hid (G W w2) := by rw [hw2]; exact ((G.refl W).alloc _).alloc _
  have HNw2 : Hid (Blk w2 B0 69 [I id, .string lb, .slice pa pn pc]) := by rw [hw2, hB0]; exact (Blk.new W [I id, .string lb, .slice pa pn pc] 69).G ((G.refl _).alloc _)
  have HRw2 : Hid (Blk w2 rb 66 [I 0, I 0, .string { data := #[] }, .string { data := #[] }, I 0, .string { data := #[] }, .string { data := #[] }, I 0]) := by
    have := Blk.new (W.alloc (.cells #[I id, .string lb, .slice pa pn pc] 69)) [I 0, I 0, .string { data := #[] }, .string { data := #[] }, I 0, .string { data := #[] }, .string { data := #[] }, I 0] 66
    rw [Hid, hw2, hrb, hB0]
    simpa using this
  have HLO : Hid (W.heap.size ≤ rb) := by show _ ≤ _; omega
  have HEW : Hid (((W.alloc (.cells #[I id, .string lb, .slice pa pn pc] 69)).alloc (.cells #[I 0, I 0, .string { data := #[] }, .string { data := #[] }, I 0, .string { data := #[] }, .string { data := #[] }, I 0] 66)) = w2) := hw2.symm
  have HE1 : Hid (W.heap.size = B0) := hB0.symm
  have HE2 : Hid (B0 + 1 = rb) := hrb.symm
  have e0 := ((Blk.new W [I id, .string lb, .slice pa pn pc] 69).G ((G.refl _).alloc (.cells #[I 0, I 0, .string { data := #[] }, .string { data := #[] }, I 0, .string { data := #[] }, .string { data := #[] }, I 0] 66))).cell
  have cN := HNw2.out.cell
  clear hw2 hB0 hrb
  go_enter Tryz.func68, Tryz.ntmps68
  go_wp2_with (first | (rw [HEW.out]; (try rw [HE1.out]); (try rw [HE2.out]); clear HEW e0) | fail)
  try rw [HEW.out]
  try rw [HE1.out]
  try rw [HE2.out]
  clear cN
  refine (HK.out w2 HGw2.out).mono ?_
  rintro e w3 ⟨rfl, hg'⟩
  have HNw3 := hide (HNw2.out.G hg'); have HRw3 := hide (HRw2.out.G hg'); have HGw3 := hide (HGw2.out.trans hg')
  clear hg'
  have cN := HNw3.out.cell
  go_wp2_with fail
  clear cN
  refine (HO.out w3 HGw3.out).mono ?_
  rintro e w4 ⟨rfl, hg'⟩
  have HNw4 := hide (HNw3.out.G hg'); have HRw4 := hide (HRw3.out.G hg'); have HGw4 := hide (HGw3.out.trans hg')
  clear hg'
  obtain ⟨w5, hw⟩ : ∃ w, w = w4.alloc (.cells #[I id, I 0, .string of, .string { data := #[] }, I 0, .string { data := #[] }, .string { data := #[] }, I 0] 66) := ⟨_, rfl⟩
  obtain ⟨r8, hr8⟩ : ∃ r, r = w4.heap.size := ⟨_, rfl⟩
  have hg' : G w4 w5 := by rw [hw]; exact (G.refl _).alloc _
  have H8w5 : Hid (Blk w5 r8 66 [I id, I 0, .string of, .string { data := #[] }, I 0, .string { data := #[] }, .string { data := #[] }, I 0]) := by rw [Hid, hw, hr8]; exact Blk.new w4 [I id, I 0, .string of, .string { data := #[] }, I 0, .string { data := #[] }, .string { data := #[] }, I 0] 66
  have HNw5 := hide (HNw4.out.G hg'); have HRw5 := hide (HRw4.out.G hg'); have HGw5 := hide (HGw4.out.trans hg')
  have HEX : Hid (w4.alloc (.cells #[I id, I 0, .string of, .string { data := #[] }, I 0, .string { data := #[] }, .string { data := #[] }, I 0] 66) = w5) := hw.symm
  have HE8 : Hid (w4.heap.size = r8) := hr8.symm
  have HNE : Hid (B0 ≠ r8 ∧ rb ≠ r8 ∧ W.heap.size ≤ r8 ∧ B0 ≠ rb) := ⟨by have := HNw4.out.lt; omega, by have := HRw4.out.lt; omega, by have := HGw4.out.size; omega, by have := HE2.out; omega⟩
  have cN := HNw4.out.cell
  have cN2 := HNw5.out.cell
  clear hw hr8 hg'
  go_wp2_with (first | (rw [HEX.out]; (try rw [HE8.out]); clear HEX) | fail)
  try rw [HEX.out]
  (try rw [HE8.out])
  clear cN cN2
  refine (HM.out w5 HGw5.out).mono ?_
  rintro e w6 ⟨rfl, hg'⟩
  have HNw6 := hide (HNw5.out.G hg'); have HRw6 := hide (HRw5.out.G hg'); have HGw6 := hide (HGw5.out.trans hg')
  have H8w6 := hide (H8w5.out.G hg')
  clear hg'
  obtain ⟨wv, hw⟩ : ∃ w, w = (w6.alloc (.cells #[I nk, I na, I nb, .string nz] 41)) := ⟨_, rfl⟩
  obtain ⟨rV, hrV⟩ : ∃ r, r = w6.heap.size := ⟨_, rfl⟩
  have hg' : G w6 wv := by rw [hw]; exact (G.refl _).alloc _
  have HVB : Hid (Blk wv rV 41 [I nk, I na, I nb, .string nz]) := by rw [Hid, hw, hrV]; exact Blk.new w6 [I nk, I na, I nb, .string nz] 41
  have HNwv := hide (HNw6.out.G hg'); have HRwv := hide (HRw6.out.G hg'); have HGwv := hide (HGw6.out.trans hg'); have H8wv := hide (H8w6.out.G hg')
  have HEV : Hid ((w6.alloc (.cells #[I nk, I na, I nb, .string nz] 41)) = wv) := hw.symm
  have HEB : Hid (w6.heap.size = rV) := hrV.symm
  have HNV : Hid (rV ≠ r8) := by have := H8w6.out.lt; show _ ≠ _; omega
  clear hw hrV hg'
  have cV := HVB.out.cell
  obtain ⟨w8, hw⟩ : ∃ w, w = ((wv.setCell ⟨r8, 1, none⟩ (I 5)).setCell ⟨r8, 7, none⟩ (I na)) := ⟨_, rfl⟩
  have H8w8 : Hid (Blk w8 r8 66 [I id, I 5, .string of, .string { data := #[] }, I 0, .string { data := #[] }, .string { data := #[] }, I na]) := by rw [hw]; exact ((H8wv.out.set 1 (I 5)).set 7 (I na))
  have HNw8 : Hid (Blk w8 B0 69 [I id, .string lb, .slice pa pn pc]) := by rw [hw]; exact ((HNwv.out.off (b := r8) (o := 1) (v := I 5) HNE.out.1).off (b := r8) (o := 7) (v := I na) HNE.out.1)
  have HRw8 : Hid (Blk w8 rb 66 [I 0, I 0, .string { data := #[] }, .string { data := #[] }, I 0, .string { data := #[] }, .string { data := #[] }, I 0]) := by rw [hw]; exact ((HRwv.out.off (b := r8) (o := 1) (v := I 5) HNE.out.2.1).off (b := r8) (o := 7) (v := I na) HNE.out.2.1)
  have HGw8 : Hid (G W w8) := by rw [hw]; exact ((HGwv.out.setCell HNE.out.2.2.1 (I 5)).setCell HNE.out.2.2.1 (I na))
  have HES : Hid (((wv.setCell ⟨r8, 1, none⟩ (I 5)).setCell ⟨r8, 7, none⟩ (I na)) = w8) := hw.symm
  clear hw
  have cN := HNwv.out.cell
  have c8 := H8wv.out.cell
  have z8 := H8wv.out.frozen
  have cNx : ∀ o, ((wv.setCell ⟨r8, 1, none⟩ (I 5)).setCell ⟨r8, 7, none⟩ (I na)).cell? ⟨B0, o, none⟩ = ([I id, .string lb, .slice pa pn pc] : List Value)[o]? := by rw [HES.out]; exact HNw8.out.cell
  have c8x : ∀ o, ((wv.setCell ⟨r8, 1, none⟩ (I 5)).setCell ⟨r8, 7, none⟩ (I na)).cell? ⟨r8, o, none⟩ = ([I id, I 5, .string of, .string { data := #[] }, I 0, .string { data := #[] }, .string { data := #[] }, I na] : List Value)[o]? := by rw [HES.out]; exact H8w8.out.cell
  have cNo := HNw8.out.cell
  have c8o := H8w8.out.cell
  have cV1 := (HVB.out.off (b := r8) (o := 1) (v := I 5) HNV.out).cell
  have cV2 := ((HVB.out.off (b := r8) (o := 1) (v := I 5) HNV.out).off (b := r8) (o := 7) (v := I na) HNV.out).cell
  have cV8 : ∀ o, w8.cell? ⟨rV, o, none⟩ = ([I nk, I na, I nb, .string nz] : List Value)[o]? := by rw [← HES.out]; exact cV2
  go_wp2_with (first | (rw [HES.out]; clear HES) | (rw [HEX.out]; (try rw [HE8.out]); clear HEX) | (rw [HEV.out]; (try rw [HEB.out]); clear HEV) | fail)
  try rw [HEX.out]
  (try rw [HE8.out])
  try rw [HES.out]
  clear cN c8 z8 cNx c8x cNo c8o
  clear cV cV1 cV2 cV8
  refine wp_region_noPanic ?_
  refine wp_region_held_drew (S := (fun V => (∀ o, V.cell? ⟨B0, o, none⟩ = ([I id, .string lb, .slice pa pn pc] : List Value)[o]?) ∧ (∀ o, V.cell? ⟨r8, o, none⟩ = ([I id, I 5, .string of, .string { data := #[] }, I 0, .string { data := #[] }, .string { data := #[] }, I na] : List Value)[o]?) ∧ G W V)) (by kernel_rfl) (⟨(HNw8.out.G (G.refl _).drew).cell, (H8w8.out.G (G.refl _).drew).cell, HGw8.out.drew⟩) (fun hHeld => ?_)
  refine wpAnyH_take (i := 0) (v := ?_) rfl (by kernel_rfl) (by kernel_rfl) (by kernel_rfl) (fun _ _ _ h => h) (Or.inl ⟨by rfl, ?_⟩) hHeld ?_
  rotate_left 1
  · (intro w hSw; obtain ⟨k1, k2, -⟩ := hSw; go_simp; try with_reducible rfl)
  try simp only [Act.put, List.getElem_toArray, List.getElem_cons_zero, List.setIfInBounds_toArray, List.set_cons_zero, List.set_cons_succ]
  refine wpAnyH_take (i := 1) (v := ?_) rfl (by kernel_rfl) (by kernel_rfl) (by kernel_rfl) (fun _ _ _ h => h) (Or.inl ⟨by rfl, ?_⟩) hHeld ?_
  rotate_left 1
  · (intro w hSw; (try dsimp only at hSw); go_simp; try with_reducible rfl)
  try simp only [Act.put, List.getElem_toArray, List.getElem_cons_zero, List.getElem_cons_succ, List.setIfInBounds_toArray, List.set_cons_zero, List.set_cons_succ]
  refine wpAnyH_take (i := 2) (v := ?_) rfl (by kernel_rfl) (by kernel_rfl) (by kernel_rfl) (fun _ _ _ h => h) (Or.inl ⟨by rfl, ?_⟩) hHeld ?_
  rotate_left 1
  · (intro w hSw; (try dsimp only at hSw); go_simp; try with_reducible rfl)
  try simp only [Act.put, List.getElem_toArray, List.getElem_cons_zero, List.getElem_cons_succ, List.setIfInBounds_toArray, List.set_cons_zero, List.set_cons_succ]
  refine wpAnyH_take (i := 3) (v := ?_) rfl (by kernel_rfl) (by kernel_rfl) (by kernel_rfl) (fun _ _ _ h => h) (Or.inl ⟨by rfl, ?_⟩) hHeld ?_
  rotate_left 1
  · (intro w hSw; (try dsimp only at hSw); go_simp; try with_reducible rfl)
  try simp only [Act.put, List.getElem_toArray, List.getElem_cons_zero, List.getElem_cons_succ, List.setIfInBounds_toArray, List.set_cons_zero, List.set_cons_succ]
  refine wpAnyH_take (i := 4) (v := ?_) rfl (by kernel_rfl) (by kernel_rfl) (by kernel_rfl) (fun _ _ _ h => h) (Or.inl ⟨by rfl, ?_⟩) hHeld ?_
  rotate_left 1
  · (intro w hSw; obtain ⟨k1, k2, -⟩ := hSw; go_simp; try with_reducible rfl)
  try simp only [Act.put, List.getElem_toArray, List.getElem_cons_zero, List.getElem_cons_succ, List.setIfInBounds_toArray, List.set_cons_zero, List.set_cons_succ]
  refine wpAnyH_take (i := 5) (v := ?_) rfl (by kernel_rfl) (by kernel_rfl) (by kernel_rfl) (fun _ _ _ h => h) (Or.inl ⟨by rfl, ?_⟩) hHeld ?_
  rotate_left 1
  · (intro w hSw; (try dsimp only at hSw); go_simp; try with_reducible rfl)
  try simp only [Act.put, List.getElem_toArray, List.getElem_cons_zero, List.getElem_cons_succ, List.setIfInBounds_toArray, List.set_cons_zero, List.set_cons_succ]
  refine wpAnyH_take (i := 6) (v := ?_) rfl (by kernel_rfl) (by kernel_rfl) (by kernel_rfl) (fun _ _ _ h => h) (Or.inl ⟨by rfl, ?_⟩) hHeld ?_
  rotate_left 1
  · (intro w hSw; (try dsimp only at hSw); go_simp; try with_reducible rfl)
  try simp only [Act.put, List.getElem_toArray, List.getElem_cons_zero, List.getElem_cons_succ, List.setIfInBounds_toArray, List.set_cons_zero, List.set_cons_succ]
  refine wpAnyH_take (i := 7) (v := ?_) rfl (by kernel_rfl) (by kernel_rfl) (by kernel_rfl) (fun _ _ _ h => h) (Or.inl ⟨by rfl, ?_⟩) hHeld ?_
  rotate_left 1
  · (intro w hSw; (try dsimp only at hSw); go_simp; try with_reducible rfl)
  try simp only [Act.put, List.getElem_toArray, List.getElem_cons_zero, List.getElem_cons_succ, List.setIfInBounds_toArray, List.set_cons_zero, List.set_cons_succ]
  refine wpAnyH_take (i := 8) (v := ?_) rfl (by kernel_rfl) (by kernel_rfl) (by kernel_rfl) (fun _ _ _ h => h) (Or.inl ⟨by rfl, ?_⟩) hHeld ?_
  rotate_left 1
  · (intro w hSw; (try dsimp only at hSw); go_simp; try with_reducible rfl)
  try simp only [Act.put, List.getElem_toArray, List.getElem_cons_zero, List.getElem_cons_succ, List.setIfInBounds_toArray, List.set_cons_zero, List.set_cons_succ]
  refine wpAnyH_take (i := 9) (v := ?_) rfl (by kernel_rfl) (by kernel_rfl) (by kernel_rfl) (fun _ _ _ h => h) (Or.inl ⟨by rfl, ?_⟩) hHeld ?_
  rotate_left 1
  · (intro w hSw; (try dsimp only at hSw); go_simp; try with_reducible rfl)
  try simp only [Act.put, List.getElem_toArray, List.getElem_cons_zero, List.getElem_cons_succ, List.setIfInBounds_toArray, List.set_cons_zero, List.set_cons_succ]
  refine wpAnyH_ready (rs := [10]) (by kernel_rfl) (by simp) (AllReadyH.cons rfl (fun K hK => ?_) AllReadyH.nil)
  clear hHeld
  have hrb7 := HRw8.out.G (G.refl w8).drew
  have HTH : Hid (w8.drew.there rb 0 8) := fun j hj => ⟨by rw [hrb7.cell, List.getElem?_eq_getElem (by simp; omega)]; rfl, hrb7.frozen _⟩
  have HB7 := hide ((((((((hrb7.set 0 (I id)).set 1 (I 5)).set 2 (.string of)).set 3 (.string { data := #[] })).set 4 (I 0)).set 5 (.string { data := #[] })).set 6 (.string { data := #[] })).set 7 (I na))
  have HG7 : Hid (G W ((((((((w8.drew.setCell ⟨rb, 0, none⟩ (I id)).setCell ⟨rb, 1, none⟩ (I 5)).setCell ⟨rb, 2, none⟩ (.string of)).setCell ⟨rb, 3, none⟩ (.string { data := #[] })).setCell ⟨rb, 4, none⟩ (I 0)).setCell ⟨rb, 5, none⟩ (.string { data := #[] })).setCell ⟨rb, 6, none⟩ (.string { data := #[] })).setCell ⟨rb, 7, none⟩ (I na))) := (((((((((HGw8.out.drew).setCell HLO.out (I id)).setCell HLO.out (I 5)).setCell HLO.out (.string of)).setCell HLO.out (.string { data := #[] })).setCell HLO.out (I 0)).setCell HLO.out (.string { data := #[] })).setCell HLO.out (.string { data := #[] })).setCell HLO.out (I na))
  have HS7 : Hid ((∀ o, ((((((((w8.drew.setCell ⟨rb, 0, none⟩ (I id)).setCell ⟨rb, 1, none⟩ (I 5)).setCell ⟨rb, 2, none⟩ (.string of)).setCell ⟨rb, 3, none⟩ (.string { data := #[] })).setCell ⟨rb, 4, none⟩ (I 0)).setCell ⟨rb, 5, none⟩ (.string { data := #[] })).setCell ⟨rb, 6, none⟩ (.string { data := #[] })).setCell ⟨rb, 7, none⟩ (I na)).cell? ⟨B0, o, none⟩ = ([I id, .string lb, .slice pa pn pc] : List Value)[o]?) ∧ (∀ o, ((((((((w8.drew.setCell ⟨rb, 0, none⟩ (I id)).setCell ⟨rb, 1, none⟩ (I 5)).setCell ⟨rb, 2, none⟩ (.string of)).setCell ⟨rb, 3, none⟩ (.string { data := #[] })).setCell ⟨rb, 4, none⟩ (I 0)).setCell ⟨rb, 5, none⟩ (.string { data := #[] })).setCell ⟨rb, 6, none⟩ (.string { data := #[] })).setCell ⟨rb, 7, none⟩ (I na)).cell? ⟨r8, o, none⟩ = ([I id, I 5, .string of, .string { data := #[] }, I 0, .string { data := #[] }, .string { data := #[] }, I na] : List Value)[o]?)) := ⟨((((((((((((((((HNw8.out.G (G.refl w8).drew).off (b := rb) (o := 0) (v := I id) HNE.out.2.2.2)).off (b := rb) (o := 1) (v := I 5) HNE.out.2.2.2)).off (b := rb) (o := 2) (v := .string of) HNE.out.2.2.2)).off (b := rb) (o := 3) (v := .string { data := #[] }) HNE.out.2.2.2)).off (b := rb) (o := 4) (v := I 0) HNE.out.2.2.2)).off (b := rb) (o := 5) (v := .string { data := #[] }) HNE.out.2.2.2)).off (b := rb) (o := 6) (v := .string { data := #[] }) HNE.out.2.2.2)).off (b := rb) (o := 7) (v := I na) HNE.out.2.2.2).cell, ((((((((((((((((H8w8.out.G (G.refl w8).drew).off (b := rb) (o := 0) (v := I id) HNE.out.2.1.symm)).off (b := rb) (o := 1) (v := I 5) HNE.out.2.1.symm)).off (b := rb) (o := 2) (v := .string of) HNE.out.2.1.symm)).off (b := rb) (o := 3) (v := .string { data := #[] }) HNE.out.2.1.symm)).off (b := rb) (o := 4) (v := I 0) HNE.out.2.1.symm)).off (b := rb) (o := 5) (v := .string { data := #[] }) HNE.out.2.1.symm)).off (b := rb) (o := 6) (v := .string { data := #[] }) HNE.out.2.1.symm)).off (b := rb) (o := 7) (v := I na) HNE.out.2.1.symm).cell⟩
  clear hrb7
  refine (if_pos rfl).mpr ?_
  refine wp_store_mid 66 _ _ rfl rb 0 #[I id, I 5, .string of, .string { data := #[] }, I 0, .string { data := #[] }, .string { data := #[] }, I na] rfl rfl HTH.out (by kernel_rfl) (all_oneCell_toArray (cs := [I id, I 5, .string of, .string { data := #[] }, I 0, .string { data := #[] }, .string { data := #[] }, I na]) (fun v hv => one8 (by rfl) hv)) ?_
  refine hK.out _ _ (⟨HS7.out.1, HS7.out.2, HG7.out⟩) (fun hHeld => ?_)
  clear hK K
  try simp only [Act.put, List.getElem_toArray, List.getElem_cons_zero, List.getElem_cons_succ]
  refine wpAnyH_take (i := 11) (v := ?_) rfl (by kernel_rfl) (by kernel_rfl) (by kernel_rfl) (fun _ _ _ h => h) (Or.inl ⟨by rfl, ?_⟩) hHeld ?_
  rotate_left 1
  · (intro w hSw; (try dsimp only at hSw); go_simp; try with_reducible rfl)
  try simp only [Act.put, List.getElem_toArray, List.getElem_cons_zero, List.getElem_cons_succ, List.setIfInBounds_toArray, List.set_cons_zero, List.set_cons_succ]
  refine wpAnyH_done (by kernel_rfl) ?_ _
  refine NoPanic.normal ?_
  go_wp2_with fail
  exact bodyPost_ret_by (v := .tuple #[.agg #[I id, I 5, .string of, .string { data := #[] }, I 0, .string { data := #[] }, .string { data := #[] }, I na], .bool _]) (retY _ _ rb _ _ rfl rfl HB7.out rfl) rfl ⟨rfl, HG7.out⟩
end Go.Proofs.YtifioikdhfhljaaGreatDoor
