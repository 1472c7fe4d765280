/- value.Unpack. -/
import Derived.Test.YtdiikofgilplkaaDoorNam2
import Derived.Test.YtdiikofgilplkaaDoorDec2
namespace Go.Proofs.YtdiikofgilplkaaDoor
open Go.RowKit Go.Shelf Go.PlainAid Go.Lib

/-- The byte that counts m. -/
def byN (m : Int) : Nat := if m ≤ 10 then (47 + m).toNat else (86 + m).toNat
theorem byN_chN (x : Int) (h : chP x) : byN (chN x) = x.toNat := by
  unfold chP at h
  unfold byN chN
  split <;> split <;> omega
theorem byN_lt (m : Int) (h1 : 1 ≤ m) (h2 : m ≤ 36) : byN m < 256 := by
  unfold byN; split <;> omega
set_option maxRecDepth 100000 in
set_option maxHeartbeats 16000000 in
theorem bo_any (m : Int) (h1 : 1 ≤ m) (h2 : m ≤ 36) (w : World) : Calls Tryd.prog 38 #[.int .i64 m] w fun e w' => e = .returned (bv (byN m)) ∧ w' = w := by
  by_cases h : m ≤ 10
  · have e : ((byN m : Nat) : Int) = 47 + m := by unfold byN; rw [if_pos h]; omega
    show Calls Tryd.prog 38 #[.int .i64 m] w fun e w' => e = .returned (.int .u8 ((byN m : Nat) : Int)) ∧ w' = w
    rw [e]
    go_enter Tryd.func38, Tryd.ntmps38
    go_wp2
    go_ret
    exact ⟨congrArg (fun z => Ending.returned (Value.int .u8 z)) (by omega), rfl⟩
  · have e : ((byN m : Nat) : Int) = 86 + m := by unfold byN; rw [if_neg h]; omega
    show Calls Tryd.prog 38 #[.int .i64 m] w fun e w' => e = .returned (.int .u8 ((byN m : Nat) : Int)) ∧ w' = w
    rw [e]
    go_enter Tryd.func38, Tryd.ntmps38
    go_wp2
    go_ret
    exact ⟨congrArg (fun z => Ending.returned (Value.int .u8 z)) (by omega), rfl⟩
/-- How far a name's number has been read. -/
def PNm (n : Int) (k : Nat) (xs : List Nat) : Prop := ∀ s0, NameP s0 → packK s0 8 = n → xs = (pre s0 s0.size).drop (8 - k)
theorem pn_start (n : Int) : PNm n 0 [] := fun s0 h _ => by
  rw [List.drop_of_length_le (by rw [pre_len]; have := h.2.1; omega)]
theorem pre_at (s : ByteArray) (m i : Nat) (h : i < m) : (pre s m)[i]? = some (bt s i).toNat := by simp [pre, h]
theorem pn_dig {n : Int} {k : Nat} (hk : k < 8) (s0 : ByteArray) (h : NameP s0) (he : packK s0 8 = n) : n / 37 ^ k % 37 = (if 7 - k < s0.size then chN (bt s0 (7 - k)) else 0) := by
  have := packK_dig s0 h 8 k hk (Nat.le_refl _)
  rw [he] at this
  exact this
theorem pn_zero {n : Int} {k : Nat} {xs : List Nat} (hk : k < 8) (hp : PNm n k xs) (hd : n / 37 ^ k % 37 = 0) : PNm n (k + 1) xs := by
  intro s0 h he
  have h1 := pn_dig hk s0 h he
  have h2 := hp s0 h he
  rw [hd] at h1
  have h3 : ¬ 7 - k < s0.size := fun hlt => by
    rw [if_pos hlt] at h1
    have := chN_bd _ (h.2.2.2 _ hlt)
    omega
  rw [h2, List.drop_of_length_le (by rw [pre_len]; omega), List.drop_of_length_le (by rw [pre_len]; omega)]
theorem pn_some {n : Int} {k : Nat} {xs : List Nat} (hk : k < 8) (hp : PNm n k xs) (hd : n / 37 ^ k % 37 ≠ 0) : PNm n (k + 1) (byN (n / 37 ^ k % 37) :: xs) := by
  intro s0 h he
  have h1 := pn_dig hk s0 h he
  have h2 := hp s0 h he
  have h3 : 7 - k < s0.size := Decidable.by_contra fun hlt => by rw [if_neg hlt] at h1; exact hd h1
  rw [if_pos h3] at h1
  rw [h1, byN_chN _ (h.2.2.2 _ h3), h2]
  have h4 : (pre s0 s0.size)[7 - k]? = some (bt s0 (7 - k)).toNat := pre_at s0 _ _ h3
  have e5 := List.drop_eq_getElem_cons (l := pre s0 s0.size) (i := 7 - k) (by rw [pre_len]; exact h3)
  rw [show 7 - k + 1 = 8 - k by omega] at e5
  rw [show 8 - (k + 1) = 7 - k by omega, e5]
  congr 1
  have := List.getElem?_eq_getElem (l := pre s0 s0.size) (i := 7 - k) (by rw [pre_len]; exact h3)
  rw [h4] at this
  exact Option.some.inj this
/-- The name, where there is one of this number. -/
def UNP (n : Int) (s : ByteArray) : Prop := ∀ s0, NameP s0 → packK s0 8 = n → s = s0
theorem pn_end {n : Int} {xs : List Nat} (hp : PNm n 8 xs) : UNP n (strN xs) := fun s0 h he => by
  rw [hp s0 h he]
  exact strN_back s0
theorem quo37 (n : Int) (h : 0 ≤ n) (k : Nat) : 0 ≤ n / 37 ^ k ∧ n / 37 ^ (k + 1) = n / 37 ^ k / 37 := by
  have hp : (0 : Int) < 37 ^ k := Int.pow_pos (by decide)
  exact ⟨Int.ediv_nonneg h (by omega), by rw [Int.pow_succ, Int.ediv_ediv_of_nonneg (by omega)]⟩
theorem row_arr {w : World} {g at_ : Nat} {xs : List Nat} (h : at_ + xs.length = 8) (hc : ∀ j d, xs[j]? = some d → w.cell? ⟨g, at_ + j, none⟩ = some (bv d)) (_ : at_ ≠ 8) : RowB w (.slice (some ⟨g, at_, none⟩) (8 - at_) (8 - at_)) xs :=
  ⟨_, 8 - at_, by congr 1; omega, by omega, fun i d hi => ⟨g, at_, rfl, hc i d hi⟩⟩
set_option maxRecDepth 100000 in
set_option maxHeartbeats 16000000 in
theorem gn_neg (n : Int) (h : n < 0) (w : World) : Calls Tryd.prog 25 #[.int .i64 n] w fun e w' => ∃ xs, e = .returned (.string (strN xs)) ∧ UNP n (strN xs) ∧ xs.length ≤ 8 ∧ G w w' := by
  have HP : Hid (UNP n (strN [])) := fun s0 h0 he => by have := (packK_bd s0 h0 8).1; omega
  go_enter Tryd.func25, Tryd.ntmps25
  go_wp2
  go_ret
  exact ⟨[], rfl, HP.out, by simp, G.refl _⟩
set_option maxRecDepth 100000 in
set_option maxHeartbeats 16000000 in
theorem gn_pos (n : Int) (h : 0 ≤ n) (h2 : n ≤ 9223372036854775807) (w : World) : Calls Tryd.prog 25 #[.int .i64 n] w fun e w' => ∃ xs, e = .returned (.string (strN xs)) ∧ UNP n (strN xs) ∧ xs.length ≤ 8 ∧ G w w' := by
  have hn : ¬ n < 0 := by omega
  go_enter Tryd.func25, Tryd.ntmps25
  go_wp2
  go_loopw [0, 4, 7] (fun m a i W => ∃ (k : Nat) (xs : List Nat), k ≤ 8 ∧ xs.length ≤ k ∧ i = .int .i64 k ∧ m = .int .i64 (n / 37 ^ k) ∧ a = .int .i64 ((8 - xs.length : Nat) : Int) ∧ PNm n k xs ∧ G w W ∧ (∀ j, j < 8 → ∃ u, W.cell? ⟨w.heap.size, j, none⟩ = some u) ∧ (∀ j, W.frozen? ⟨w.heap.size, j, none⟩ = false) ∧ ∀ j d, xs[j]? = some d → W.cell? ⟨w.heap.size, 8 - xs.length + j, none⟩ = some (bv d)) (fun _ _ i _ => 8 - (RowKit.intOf i).toNat)
  case atStart =>
    refine ⟨0, [], by omega, by simp, rfl, by simp, rfl, pn_start n, (G.refl w).alloc _, fun j hj => ?_, fun j => by simp, fun j d hj => by simp at hj⟩
    have : j = 0 ∨ j = 1 ∨ j = 2 ∨ j = 3 ∨ j = 4 ∨ j = 5 ∨ j = 6 ∨ j = 7 := by omega
    rcases this with rfl | rfl | rfl | rfl | rfl | rfl | rfl | rfl <;> exact ⟨_, by simp; rfl⟩
  case round =>
    obtain ⟨k, xs, hk, hx, rfl, rfl, rfl, hp, hG, hex, hfz, hcs⟩ := hrel
    obtain ⟨hq0, hq1⟩ := quo37 n h k
    have HG : Hid _ := hG
    have HP : Hid (PNm n k xs) := hp
    have HC : Hid _ := hcs
    have HX : Hid _ := hex
    have HQ : Hid _ := hq1
    clear hG hp hcs hex hq1
    by_cases hlt : k < 8
    · have hki : (k : Int) < 8 := by omega
      have hqle : n / 37 ^ k ≤ 9223372036854775807 := Int.le_trans (Int.ediv_le_self _ h) h2
      by_cases hz : n / 37 ^ k % 37 = 0
      · have HPP : Hid _ := pn_zero hlt HP.out hz
        generalize n / 37 ^ k = q at hq0 hz HQ hqle
        go_wp2
        go_roundw
        case rel => exact ⟨k + 1, xs, by omega, by omega, by go_num, by rw [HQ.out], rfl, HPP.out, HG.out, HX.out, hfz, HC.out⟩
        case measure => simp [RowKit.intOf]; omega
      · have HPP : Hid _ := pn_some hlt HP.out hz
        generalize n / 37 ^ k = q at hq0 hz HQ hqle HPP
        have hm1 : 1 ≤ q % 37 := by omega
        have hm2 : q % 37 ≤ 36 := by omega
        have HBo : Hid _ := bo_any (q % 37) hm1 hm2
        obtain ⟨a0, ha0⟩ : ∃ a0 : Nat, 8 - xs.length = a0 + 1 := ⟨7 - xs.length, by omega⟩
        have ha8 : (a0 : Int) < 8 := by omega
        obtain ⟨u, hu⟩ := HX.out a0 (by omega)
        have hf0 := hfz a0
        have HFZ : Hid _ := hfz
        have HA0 : Hid _ := ha0
        rw [ha0]
        clear hfz ha0
        generalize hd' : byN (q % 37) = d' at HBo HPP
        have hne' : ((q % 37) != 0) = true := bne_iff_ne.2 hz
        clear hd'
        go_wp2_with fail
        refine (HBo.out _).mono ?_
        rintro e w1 ⟨rfl, hw1⟩
        rw [hw1]
        clear hw1
        go_wp2
        go_roundw
        case rel =>
          refine ⟨k + 1, d' :: xs, by omega, by simp; omega, by go_num, by rw [HQ.out], ?_, HPP.out, HG.out.setCell (Nat.le_refl _) _, fun j hj => ?_, fun j => by rw [World.frozen?_setCell]; exact HFZ.out j, fun j d hj => ?_⟩
          · have := HA0.out
            show Value.int .i64 _ = Value.int .i64 _
            congr 1
            simp
            omega
          · by_cases e : j = a0
            · subst e; exact ⟨_, World.cell?_setCell_same _ _ _ hu⟩
            · obtain ⟨u', hu'⟩ := HX.out j hj
              exact ⟨u', by rw [World.cell?_setCell_other _ _ _ _ (by intro he; have := congrArg Addr.off he; simp at this; omega)]; exact hu'⟩
          · have h8 := HA0.out
            have hl8 : 8 - (d' :: xs).length = a0 := by simp; omega
            rw [hl8]
            cases j with
            | zero =>
              simp at hj
              subst hj
              exact World.cell?_setCell_same _ _ _ hu
            | succ j =>
              rw [World.cell?_setCell_other _ _ _ _ (by intro he; have := congrArg Addr.off he; simp at this)]
              have := HC.out j d (by simpa using hj)
              rwa [h8, show a0 + 1 + j = a0 + (j + 1) by omega] at this
        case measure => simp [RowKit.intOf]; omega
    · have e : k = 8 := by omega
      subst e
      have HU : Hid _ := pn_end HP.out
      by_cases hx0 : xs.length = 0
      · have hxn : xs = [] := List.eq_nil_of_length_eq_zero hx0
        subst hxn
        have hcv : (convert 23 9 (.slice (some ⟨w.heap.size, 0, none⟩) 0 0)).run Tryd.prog wr = .ok (.string (strN [])) wr := row_str ⟨_, 0, rfl, Nat.le_refl _, fun i d h => by simp at h⟩
        go_wp2
        go_ret
        exact ⟨[], rfl, HU.out, by simp, HG.out⟩
      · obtain ⟨a0, ha0⟩ : ∃ a0 : Nat, 8 - xs.length = a0 := ⟨_, rfl⟩
        have ha8 : ¬ 8 = a0 := by omega
        have ha8' : ¬ a0 = 8 := by omega
        have ha8i : (a0 : Int) ≤ 8 := by omega
        have hrow : RowB wr (.slice (some ⟨w.heap.size, a0, none⟩) (8 - a0) (8 - a0)) xs := row_arr (by omega) (fun j d hj => by have := HC.out j d hj; rwa [ha0] at this) ha8'
        have hcv := row_str hrow
        have hxl : xs.length ≤ 8 := by omega
        rw [ha0]
        clear hrow ha0 hx hx0
        go_wp2
        go_ret
        exact ⟨xs, rfl, HU.out, hxl, HG.out⟩
end Go.Proofs.YtdiikofgilplkaaDoor
