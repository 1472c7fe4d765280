/- The document's letters: decimal, letters. -/
import Derived.Test.YthgpegldlcfolaaGreatDoorBk1
import Derived.Test.YthgpegldlcfolaaGreatDoorProd
namespace Go.Proofs.YthgpegldlcfolaaGreatDoor
open Go.RowKit Go.Lib Go.Shelf

theorem hide {p : Prop} (h : p) : Hid p := h
theorem strU_add (a b : List UInt8) : strU a ++ strU b = strU (a ++ b) := by
  have : (strU a ++ strU b).data = (strU (a ++ b)).data := by simp [strU]
  cases h1 : strU a ++ strU b with
  | mk d => rw [h1] at this; cases h2 : strU (a ++ b) with | mk e => rw [h2] at this; simpa using this
theorem rstrU_size (a : List UInt8) : (strU a).size = a.length := by simp [strU, ByteArray.size]
theorem add_U (a b : List UInt8) (h : a.length + b.length ≤ 9223372036854775807) (W : World) : (Op.stringOp .add (strU a) (strU b)).run Tryz.prog W = .ok (.string (strU (a ++ b))) W := by
  rw [run_string_add_sum W _ _ (by rw [rstrU_size, rstrU_size]; exact h), strU_add]
theorem conv_1 (w : World) (x : UInt8) (z : Int) (hz : z = (x.toNat : Int)) : (convert 60 9 (.slice (some ⟨w.heap.size, 0, none⟩) 1 1)).run Tryz.prog (w.alloc (.cells #[.int .u8 z] 5)) = .ok (.string (strU [x])) (w.alloc (.cells #[.int .u8 z] 5)) := by
  subst hz
  refine run_convert_bytes_back _ 60 9 5 ⟨w.heap.size, 0, none⟩ 1 [x] Tryz.underlying60 Tryz.underlying5 Tryz.underlying9 (fun j hj => ?_)
  match j, hj with
  | 0, _ => simp [Addr.add]
theorem conv_2d (w : World) (x y : UInt8) : (convert 60 9 (.slice (some ⟨w.heap.size, 0, none⟩) 2 2)).run Tryz.prog (w.alloc (.cells #[.int .u8 x.toNat, .int .u8 y.toNat] 5)).drew = .ok (.string (strU [x, y])) (w.alloc (.cells #[.int .u8 x.toNat, .int .u8 y.toNat] 5)).drew := by
  refine run_convert_bytes_back _ 60 9 5 ⟨w.heap.size, 0, none⟩ 2 [x, y] Tryz.underlying60 Tryz.underlying5 Tryz.underlying9 (fun j hj => ?_)
  match j, hj with
  | 0, _ => simp [Addr.add]
  | 1, _ => simp [Addr.add]
theorem dec_cons (u : Nat) (l : List UInt8) (_ : u ≠ 0) : decDigits u ++ l = (if u / 10 = 0 then [] else decDigits (u / 10)) ++ (UInt8.ofNat (48 + u % 10) :: l) := by
  rw [decDigits]
  by_cases h1 : u < 10
  · rw [dif_pos h1, if_pos (by omega), Nat.mod_eq_of_lt h1]; rfl
  · rw [dif_neg h1, if_neg (by omega), List.append_assoc]; rfl
set_option maxRecDepth 100000 in
set_option maxHeartbeats 4000000 in
theorem rdec_any (n : Int) (h : R64 n) (w : World) : Calls Tryz.prog 69 #[.int .i64 n] w fun e w' => e = .returned (.string (strU (itoa n))) ∧ G w w' := by
  unfold R64 at h
  obtain ⟨h1, h2⟩ := h
  by_cases h0 : n = 0
  · subst h0
    go_enter Tryz.func69, Tryz.ntmps69
    go_wp2
    go_ret
    exact ⟨by rw [show itoa 0 = [48] by unfold itoa; rw [if_neg (by omega), show (0 : Int).toNat = 0 from rfl, decDigits]; rfl]; rfl, G.refl _⟩
  · have HB := hide (rbelow_any n h1 h2 w)
    have hlo : lo n = -((n.natAbs : Nat) : Int) := by unfold lo; split <;> omega
    rw [hlo] at HB
    have HI : Hid (itoa n = if n < 0 then 45 :: decDigits n.natAbs else decDigits n.natAbs) := by
      unfold Hid itoa
      split
      · rfl
      · rw [show n.toNat = n.natAbs by omega]
    have hN : n.natAbs ≤ 9223372036854775808 := by omega
    have hN1 : 1 ≤ n.natAbs := by omega
    generalize n.natAbs = N at HB HI hN hN1
    clear hlo
    go_enter Tryz.func69, Tryz.ntmps69
    go_wp2_with fail
    refine HB.out.mono ?_
    rintro e' w1 ⟨rfl, rfl⟩
    clear HB
    go_wp2_with fail
    go_loopw [3, 4] (fun m s W => ∃ (u : Nat) (l : List UInt8), u + 2 * l.length ≤ N + 1 ∧ (1 ≤ u → u + 2 * l.length ≤ N) ∧ m = .int .i64 (-(u : Int)) ∧ s = .string (strU l) ∧ (if u = 0 then [] else decDigits u) ++ l = decDigits N ∧ G w1 W) (fun m _ _ => (RowKit.intOf m).natAbs)
    case atStart => exact ⟨N, [], by simp, by simp, rfl, rfl, by rw [if_neg (by omega), List.append_nil], G.refl _⟩
    case round =>
      obtain ⟨u, l, hu, hu2, rfl, rfl, hd, hg⟩ := hrel
      have HD := hide hd
      have HG := hide hg
      clear hd hg
      by_cases hz : u = 0
      · subst hz
        have hl : l = decDigits N := by have := HD.out; rw [if_pos rfl] at this; exact this
        have hadd : ∀ W, (Op.stringOp .add { data := #[45] } (strU l)).run Tryz.prog W = .ok (.string (strU (45 :: l))) W := add_U [45] l (by simp; omega)
        by_cases hn : n < 0
        · have HI2 : Hid (itoa n = 45 :: l) := by unfold Hid; rw [HI.out, if_pos hn, hl]
          clear HI HD hl
          go_wp2
          go_ret
          exact ⟨by rw [HI2.out]; rfl, HG.out⟩
        · have HI2 : Hid (itoa n = l) := by unfold Hid; rw [HI.out, if_neg hn, hl]
          clear HI HD hl hadd
          go_wp2
          go_ret
          exact ⟨by rw [HI2.out]; rfl, HG.out⟩
      · have hu3 := hu2 (by omega)
        have hune : ¬ (-(u : Int)) = 0 := by omega
        have hrem : (-(u : Int)).tmod 10 = -((u % 10 : Nat) : Int) := by rw [Int.neg_tmod, Int.tmod_eq_emod_of_nonneg (by omega)]; omega
        have hquo : (-(u : Int)).tdiv 10 = -((u / 10 : Nat) : Int) := by rw [Int.neg_tdiv, Int.tdiv_eq_ediv_of_nonneg (by omega)]; omega
        have hcv := conv_1 wr (UInt8.ofNat (48 + u % 10)) (48 + (u : Int) % 10) (by rw [dig_nat _ (by omega)]; omega)
        have hadd := add_U [UInt8.ofNat (48 + u % 10)] l (by simp; omega)
        have HDN : Hid ((if u / 10 = 0 then [] else decDigits (u / 10)) ++ (UInt8.ofNat (48 + u % 10) :: l) = decDigits N) := by
          have := HD.out
          rw [if_neg hz, dec_cons u l hz] at this
          exact this
        generalize UInt8.ofNat (48 + u % 10) = dg at hcv hadd HDN
        go_wp2
        go_roundw
        case rel => exact ⟨u / 10, dg :: l, by simp; omega, fun _ => by simp; omega, by go_num, rfl, HDN.out, G.alloc HG.out _⟩
        case measure => simp [RowKit.intOf]; omega
theorem dig_all : ∀ d : Fin 16, (({ data := #[48, 49, 50, 51, 52, 53, 54, 55, 56, 57, 97, 98, 99, 100, 101, 102] } : ByteArray)[d.val]'(by have := d.2; exact this)).toNat = (hx d.val).toNat := by decide
theorem dig_at (z : Int) (d : Nat) (hz : z = d) (hd : d < 16) {hb : z.toNat < ({ data := #[48, 49, 50, 51, 52, 53, 54, 55, 56, 57, 97, 98, 99, 100, 101, 102] } : ByteArray).size} : (({ data := #[48, 49, 50, 51, 52, 53, 54, 55, 56, 57, 97, 98, 99, 100, 101, 102] } : ByteArray)[z.toNat]'hb).toNat = (hx d).toNat := by
  subst hz
  simp only [Int.toNat_natCast]
  exact dig_all ⟨d, hd⟩
set_option maxRecDepth 100000 in
set_option maxHeartbeats 4000000 in
theorem rlet_lo (c : Nat) (hc : c < 32) (h92 : ((c : Int) == 92) = false) (h39 : ((c : Int) == 39) = false) (h10 : ((c : Int) == 10) = false) (h9 : ((c : Int) == 9) = false) (h13 : ((c : Int) == 13) = false) (w : World) : Calls Tryz.prog 70 #[.int .u8 c] w fun e w' => e = .returned (.string (strU [92, 120, hx (c / 16), hx (c % 16)])) ∧ G w w' := by
  have hcI : (c : Int) < 32 := by omega
  have hcv := conv_2d w (hx (c / 16)) (hx (c % 16))
  have hadd : ∀ W, (Op.stringOp .add { data := #[92, 120] } (strU [hx (c / 16), hx (c % 16)])).run Tryz.prog W = .ok (.string (strU [92, 120, hx (c / 16), hx (c % 16)])) W := add_U [92, 120] _ (by simp)
  go_enter Tryz.func70, Tryz.ntmps70
  go_wp2_with fail
  refine wp_region_noPanic ?_
  refine wp_region_held_drew (S := (fun _ => True)) (by kernel_rfl) (trivial) (fun hHeld => ?_)
  refine wpAnyH_take (i := 0) (v := ?_) rfl (by kernel_rfl) (by kernel_rfl) (by kernel_rfl) (fun _ _ _ h => h) (Or.inl ⟨by rfl, ?_⟩) hHeld ?_
  rotate_left 1
  · (intro w hSw; (try dsimp only at hSw); go_simp; try with_reducible rfl)
  try simp only [Act.put, List.getElem_toArray, List.getElem_cons_zero, List.setIfInBounds_toArray, List.set_cons_zero, List.set_cons_succ]
  refine wpAnyH_take (i := 1) (v := (.int .u8 ((c / 16 : Nat) : Int))) rfl (by kernel_rfl) (by kernel_rfl) (by kernel_rfl) (fun _ _ _ h => h) (Or.inl ⟨by rfl, ?_⟩) hHeld ?_
  · (intro w hSw; go_simp; rw [IntKind.wrap_u8]; omega)
  try simp only [Act.put, List.getElem_toArray, List.getElem_cons_zero, List.getElem_cons_succ, List.setIfInBounds_toArray, List.set_cons_zero, List.set_cons_succ]
  refine wpAnyH_take (i := 2) (v := (.int .u8 (hx (c / 16)).toNat)) rfl (by kernel_rfl) (by kernel_rfl) (by kernel_rfl) (fun _ _ _ h => h) (Or.inl ⟨by rfl, ?_⟩) hHeld ?_
  · (intro w hSw; go_simp; rw [dif_pos (by omega)]; simp only [Result.andThen_ok]; rw [dig_at _ (c / 16) (by omega) (by omega)])
  try simp only [Act.put, List.getElem_toArray, List.getElem_cons_zero, List.getElem_cons_succ, List.setIfInBounds_toArray, List.set_cons_zero, List.set_cons_succ]
  refine wpAnyH_take (i := 3) (v := ?_) rfl (by kernel_rfl) (by kernel_rfl) (by kernel_rfl) (fun _ _ _ h => h) (Or.inl ⟨by rfl, ?_⟩) hHeld ?_
  rotate_left 1
  · (intro w hSw; (try dsimp only at hSw); go_simp; try with_reducible rfl)
  try simp only [Act.put, List.getElem_toArray, List.getElem_cons_zero, List.getElem_cons_succ, List.setIfInBounds_toArray, List.set_cons_zero, List.set_cons_succ]
  refine wpAnyH_take (i := 4) (v := (.int .u8 ((c % 16 : Nat) : Int))) rfl (by kernel_rfl) (by kernel_rfl) (by kernel_rfl) (fun _ _ _ h => h) (Or.inl ⟨by rfl, ?_⟩) hHeld ?_
  · (intro w hSw; go_simp; exact Int.tmod_eq_emod_of_nonneg (by omega))
  try simp only [Act.put, List.getElem_toArray, List.getElem_cons_zero, List.getElem_cons_succ, List.setIfInBounds_toArray, List.set_cons_zero, List.set_cons_succ]
  refine wpAnyH_take (i := 5) (v := (.int .u8 (hx (c % 16)).toNat)) rfl (by kernel_rfl) (by kernel_rfl) (by kernel_rfl) (fun _ _ _ h => h) (Or.inl ⟨by rfl, ?_⟩) hHeld ?_
  · (intro w hSw; go_simp; rw [dif_pos (by omega)]; simp only [Result.andThen_ok]; rw [dig_at _ (c % 16) (by omega) (by omega)])
  try simp only [Act.put, List.getElem_toArray, List.getElem_cons_zero, List.getElem_cons_succ, List.setIfInBounds_toArray, List.set_cons_zero, List.set_cons_succ]
  refine wpAnyH_ready (rs := [6]) (by kernel_rfl) (by simp) (AllReadyH.cons rfl (fun K hK => ?_) AllReadyH.nil)
  clear hHeld
  go_simp
  refine hK.out _ _ (trivial) (fun hHeld => ?_)
  clear hK K
  try simp only [Act.put, List.getElem_toArray, List.getElem_cons_zero, List.getElem_cons_succ, List.setIfInBounds_toArray, List.set_cons_zero, List.set_cons_succ]
  refine wpAnyH_ready (rs := [7]) (by kernel_rfl) (by simp) (AllReadyH.cons rfl (fun K hK => ?_) AllReadyH.nil)
  clear hHeld
  go_simp
  refine hK.out _ _ (trivial) (fun hHeld => ?_)
  clear hK K
  try simp only [Act.put, List.getElem_toArray, List.getElem_cons_zero, List.getElem_cons_succ, List.setIfInBounds_toArray, List.set_cons_zero, List.set_cons_succ]
  refine wpAnyH_take (i := 8) (v := ?_) rfl (by kernel_rfl) (by kernel_rfl) (by kernel_rfl) (fun _ _ _ h => h) (Or.inl ⟨by rfl, ?_⟩) hHeld ?_
  rotate_left 1
  · (intro w hSw; (try dsimp only at hSw); go_simp; try with_reducible rfl)
  try simp only [Act.put, List.getElem_toArray, List.getElem_cons_zero, List.getElem_cons_succ, List.setIfInBounds_toArray, List.set_cons_zero, List.set_cons_succ]
  refine wpAnyH_take (i := 9) (v := ?_) rfl (by kernel_rfl) (by kernel_rfl) (by kernel_rfl) (fun _ _ _ h => h) (Or.inl ⟨by rfl, ?_⟩) hHeld ?_
  rotate_left 1
  · (intro w hSw; (try dsimp only at hSw); go_simp; try with_reducible rfl)
  try simp only [Act.put, List.getElem_toArray, List.getElem_cons_zero, List.getElem_cons_succ, List.setIfInBounds_toArray, List.set_cons_zero, List.set_cons_succ]
  refine wpAnyH_done (by kernel_rfl) ?_ _
  refine NoPanic.normal ?_
  go_wp2
  go_ret
  exact ⟨rfl, ((G.refl w).alloc _).drew⟩
set_option maxRecDepth 100000 in
set_option maxHeartbeats 4000000 in
theorem rlet_127 (w : World) : Calls Tryz.prog 70 #[.int .u8 127] w fun e w' => e = .returned (.string (strU (esc1 127))) ∧ G w w' := by
  have hcv : (convert 60 9 (.slice (some ⟨w.heap.size, 0, none⟩) 2 2)).run Tryz.prog (w.alloc (.cells #[.int .u8 55, .int .u8 102] 5)).drew = .ok (.string (strU [55, 102])) (w.alloc (.cells #[.int .u8 55, .int .u8 102] 5)).drew := conv_2d w 55 102
  have hadd : ∀ W, (Op.stringOp .add { data := #[92, 120] } (strU [55, 102])).run Tryz.prog W = .ok (.string (strU [92, 120, 55, 102])) W := add_U [92, 120] _ (by simp)
  go_enter Tryz.func70, Tryz.ntmps70
  go_wp2_with fail
  refine wp_region_noPanic ?_
  refine wp_region_held_drew (S := (fun _ => True)) (by kernel_rfl) (trivial) (fun hHeld => ?_)
  refine wpAnyH_take (i := 0) (v := ?_) rfl (by kernel_rfl) (by kernel_rfl) (by kernel_rfl) (fun _ _ _ h => h) (Or.inl ⟨by rfl, ?_⟩) hHeld ?_
  rotate_left 1
  · (intro w hSw; (try dsimp only at hSw); go_simp; try with_reducible rfl)
  try simp only [Act.put, List.getElem_toArray, List.getElem_cons_zero, List.setIfInBounds_toArray, List.set_cons_zero, List.set_cons_succ]
  refine wpAnyH_take (i := 1) (v := (.int .u8 7)) rfl (by kernel_rfl) (by kernel_rfl) (by kernel_rfl) (fun _ _ _ h => h) (Or.inl ⟨by rfl, ?_⟩) hHeld ?_
  · (intro w hSw; kernel_rfl)
  try simp only [Act.put, List.getElem_toArray, List.getElem_cons_zero, List.getElem_cons_succ, List.setIfInBounds_toArray, List.set_cons_zero, List.set_cons_succ]
  refine wpAnyH_take (i := 2) (v := (.int .u8 55)) rfl (by kernel_rfl) (by kernel_rfl) (by kernel_rfl) (fun _ _ _ h => h) (Or.inl ⟨by rfl, ?_⟩) hHeld ?_
  · (intro w hSw; kernel_rfl)
  try simp only [Act.put, List.getElem_toArray, List.getElem_cons_zero, List.getElem_cons_succ, List.setIfInBounds_toArray, List.set_cons_zero, List.set_cons_succ]
  refine wpAnyH_take (i := 3) (v := ?_) rfl (by kernel_rfl) (by kernel_rfl) (by kernel_rfl) (fun _ _ _ h => h) (Or.inl ⟨by rfl, ?_⟩) hHeld ?_
  rotate_left 1
  · (intro w hSw; (try dsimp only at hSw); go_simp; try with_reducible rfl)
  try simp only [Act.put, List.getElem_toArray, List.getElem_cons_zero, List.getElem_cons_succ, List.setIfInBounds_toArray, List.set_cons_zero, List.set_cons_succ]
  refine wpAnyH_take (i := 4) (v := (.int .u8 15)) rfl (by kernel_rfl) (by kernel_rfl) (by kernel_rfl) (fun _ _ _ h => h) (Or.inl ⟨by rfl, ?_⟩) hHeld ?_
  · (intro w hSw; kernel_rfl)
  try simp only [Act.put, List.getElem_toArray, List.getElem_cons_zero, List.getElem_cons_succ, List.setIfInBounds_toArray, List.set_cons_zero, List.set_cons_succ]
  refine wpAnyH_take (i := 5) (v := (.int .u8 102)) rfl (by kernel_rfl) (by kernel_rfl) (by kernel_rfl) (fun _ _ _ h => h) (Or.inl ⟨by rfl, ?_⟩) hHeld ?_
  · (intro w hSw; kernel_rfl)
  try simp only [Act.put, List.getElem_toArray, List.getElem_cons_zero, List.getElem_cons_succ, List.setIfInBounds_toArray, List.set_cons_zero, List.set_cons_succ]
  refine wpAnyH_ready (rs := [6]) (by kernel_rfl) (by simp) (AllReadyH.cons rfl (fun K hK => ?_) AllReadyH.nil)
  clear hHeld
  go_simp
  refine hK.out _ _ (trivial) (fun hHeld => ?_)
  clear hK K
  try simp only [Act.put, List.getElem_toArray, List.getElem_cons_zero, List.getElem_cons_succ, List.setIfInBounds_toArray, List.set_cons_zero, List.set_cons_succ]
  refine wpAnyH_ready (rs := [7]) (by kernel_rfl) (by simp) (AllReadyH.cons rfl (fun K hK => ?_) AllReadyH.nil)
  clear hHeld
  go_simp
  refine hK.out _ _ (trivial) (fun hHeld => ?_)
  clear hK K
  try simp only [Act.put, List.getElem_toArray, List.getElem_cons_zero, List.getElem_cons_succ, List.setIfInBounds_toArray, List.set_cons_zero, List.set_cons_succ]
  refine wpAnyH_take (i := 8) (v := ?_) rfl (by kernel_rfl) (by kernel_rfl) (by kernel_rfl) (fun _ _ _ h => h) (Or.inl ⟨by rfl, ?_⟩) hHeld ?_
  rotate_left 1
  · (intro w hSw; (try dsimp only at hSw); go_simp; try with_reducible rfl)
  try simp only [Act.put, List.getElem_toArray, List.getElem_cons_zero, List.getElem_cons_succ, List.setIfInBounds_toArray, List.set_cons_zero, List.set_cons_succ]
  refine wpAnyH_take (i := 9) (v := ?_) rfl (by kernel_rfl) (by kernel_rfl) (by kernel_rfl) (fun _ _ _ h => h) (Or.inl ⟨by rfl, ?_⟩) hHeld ?_
  rotate_left 1
  · (intro w hSw; (try dsimp only at hSw); go_simp; try with_reducible rfl)
  try simp only [Act.put, List.getElem_toArray, List.getElem_cons_zero, List.getElem_cons_succ, List.setIfInBounds_toArray, List.set_cons_zero, List.set_cons_succ]
  refine wpAnyH_done (by kernel_rfl) ?_ _
  refine NoPanic.normal ?_
  go_wp2
  go_ret
  exact ⟨rfl, ((G.refl w).alloc _).drew⟩
theorem esc1_lo (c : Nat) (hc : c < 32) (h : c ≠ 10 ∧ c ≠ 9 ∧ c ≠ 13) : esc1 (UInt8.ofNat c) = [92, 120, hx (c / 16), hx (c % 16)] := by
  have ht : (UInt8.ofNat c).toNat = c := by rw [UInt8.toNat_ofNat', Nat.mod_eq_of_lt (by omega)]
  have hn : ∀ d : UInt8, c ≠ d.toNat → ¬ UInt8.ofNat c = d := fun d hd e => hd (by rw [← e, ht])
  unfold esc1
  rw [if_neg (hn 92 (show c ≠ 92 by omega)), if_neg (hn 39 (show c ≠ 39 by omega)), if_neg (hn 10 h.1), if_neg (hn 9 h.2.1), if_neg (hn 13 h.2.2), if_pos (.inl (by rw [ht]; exact hc)), ht]
set_option maxRecDepth 100000 in
set_option maxHeartbeats 4000000 in
theorem rlet_92 (w : World) : Calls Tryz.prog 70 #[.int .u8 92] w fun e w' => e = .returned (.string (strU (esc1 92))) ∧ G w w' := by
  go_enter Tryz.func70, Tryz.ntmps70
  go_wp2
  go_ret
  exact ⟨rfl, G.refl _⟩
set_option maxRecDepth 100000 in
set_option maxHeartbeats 4000000 in
theorem rlet_39 (w : World) : Calls Tryz.prog 70 #[.int .u8 39] w fun e w' => e = .returned (.string (strU (esc1 39))) ∧ G w w' := by
  go_enter Tryz.func70, Tryz.ntmps70
  go_wp2
  go_ret
  exact ⟨rfl, G.refl _⟩
set_option maxRecDepth 100000 in
set_option maxHeartbeats 4000000 in
theorem rlet_10 (w : World) : Calls Tryz.prog 70 #[.int .u8 10] w fun e w' => e = .returned (.string (strU (esc1 10))) ∧ G w w' := by
  go_enter Tryz.func70, Tryz.ntmps70
  go_wp2
  go_ret
  exact ⟨rfl, G.refl _⟩
set_option maxRecDepth 100000 in
set_option maxHeartbeats 4000000 in
theorem rlet_9 (w : World) : Calls Tryz.prog 70 #[.int .u8 9] w fun e w' => e = .returned (.string (strU (esc1 9))) ∧ G w w' := by
  go_enter Tryz.func70, Tryz.ntmps70
  go_wp2
  go_ret
  exact ⟨rfl, G.refl _⟩
set_option maxRecDepth 100000 in
set_option maxHeartbeats 4000000 in
theorem rlet_13 (w : World) : Calls Tryz.prog 70 #[.int .u8 13] w fun e w' => e = .returned (.string (strU (esc1 13))) ∧ G w w' := by
  go_enter Tryz.func70, Tryz.ntmps70
  go_wp2
  go_ret
  exact ⟨rfl, G.refl _⟩
set_option maxRecDepth 100000 in
set_option maxHeartbeats 4000000 in
theorem rlet_plain (c : Nat) (hc : c < 256) (h32 : ¬ c < 32) (h92 : ¬ (c : Int) = 92) (h39 : ¬ (c : Int) = 39) (h10 : ¬ (c : Int) = 10) (h9 : ¬ (c : Int) = 9) (h13 : ¬ (c : Int) = 13) (h127 : ¬ (c : Int) = 127) (w : World) : Calls Tryz.prog 70 #[.int .u8 c] w fun e w' => e = .returned (.string (strU [UInt8.ofNat c])) ∧ G w w' := by
  have hcv := conv_1 w (UInt8.ofNat c) (c : Int) (by rw [UInt8.toNat_ofNat', Nat.mod_eq_of_lt hc])
  have h32I : ¬ (c : Int) < 32 := by omega
  go_enter Tryz.func70, Tryz.ntmps70
  go_wp2
  go_ret
  exact ⟨rfl, (G.refl w).alloc _⟩
theorem esc1_plain (c : Nat) (hc : c < 256) (h : ¬ c < 32 ∧ c ≠ 92 ∧ c ≠ 39 ∧ c ≠ 127) : esc1 (UInt8.ofNat c) = [UInt8.ofNat c] := by
  have ht : (UInt8.ofNat c).toNat = c := by rw [UInt8.toNat_ofNat', Nat.mod_eq_of_lt hc]
  have hn : ∀ d : UInt8, c ≠ d.toNat → ¬ UInt8.ofNat c = d := fun d hd e => hd (by rw [← e, ht])
  unfold esc1
  rw [if_neg (hn 92 h.2.1), if_neg (hn 39 h.2.2.1), if_neg (hn 10 (show c ≠ 10 by omega)), if_neg (hn 9 (show c ≠ 9 by omega)), if_neg (hn 13 (show c ≠ 13 by omega)), if_neg (fun x => x.elim (fun y => h.1 (by rw [ht] at y; exact y)) (hn 127 h.2.2.2))]
theorem rlet_any (c : Nat) (hc : c < 256) (w : World) : Calls Tryz.prog 70 #[.int .u8 c] w fun e w' => e = .returned (.string (strU (esc1 (UInt8.ofNat c)))) ∧ G w w' := by
  by_cases h : ¬ c < 32 ∧ c ≠ 92 ∧ c ≠ 39 ∧ c ≠ 127
  · rw [esc1_plain c hc h]
    exact rlet_plain c hc h.1 (by omega) (by omega) (by omega) (by omega) (by omega) (by omega) w
  · by_cases h3 : c = 10 ∨ c = 9 ∨ c = 13 ∨ c = 92 ∨ c = 39 ∨ c = 127
    · rcases h3 with rfl | rfl | rfl | rfl | rfl | rfl
      · exact rlet_10 w
      · exact rlet_9 w
      · exact rlet_13 w
      · exact rlet_92 w
      · exact rlet_39 w
      · exact rlet_127 w
    · have hb : ∀ d : Nat, c ≠ d → ((c : Int) == (d : Int)) = false := fun d hd => beq_false_of_ne (by omega)
      rw [esc1_lo c (by omega) (by omega)]
      exact rlet_lo c (by omega) (hb 92 (by omega)) (hb 39 (by omega)) (hb 10 (by omega)) (hb 9 (by omega)) (hb 13 (by omega)) w
end Go.Proofs.YthgpegldlcfolaaGreatDoor
