/- trellislaw1.lexical, begins. -/
import Derived.Test.YtdiikofgilplkaaDoorOrd3
import Derived.Test.YtdiikofgilplkaaDoorEnc7
namespace Go.Proofs.YtdiikofgilplkaaDoor
open Go.RowKit

theorem lx_eq : ∀ (k : Nat) (us bs : List Nat), us.take k = bs.take k → k ≤ us.length → k ≤ bs.length → lx us bs = lx (us.drop k) (bs.drop k)
  | 0, _, _, _, _, _ => by simp
  | k + 1, [], _, _, h, _ => by simp at h
  | k + 1, _ :: _, [], _, _, h => by simp at h
  | k + 1, a :: us, b :: bs, h, h1, h2 => by
    simp only [List.take_succ_cons, List.cons.injEq] at h
    obtain ⟨rfl, h⟩ := h
    have := lx_eq k us bs h (by simpa using h1) (by simpa using h2)
    simp [lx, this]
theorem lx_at_lt {us bs : List Nat} {k x y : Nat} (h : us.take k = bs.take k) (hx : us[k]? = some x) (hy : bs[k]? = some y) (hl : x < y) : lx us bs = -1 := by
  obtain ⟨h1, rfl⟩ := List.getElem?_eq_some_iff.1 hx
  obtain ⟨h2, rfl⟩ := List.getElem?_eq_some_iff.1 hy
  rw [lx_eq k us bs h (by omega) (by omega), List.drop_eq_getElem_cons h1, List.drop_eq_getElem_cons h2]
  simp [lx, hl]
theorem lx_at_gt {us bs : List Nat} {k x y : Nat} (h : us.take k = bs.take k) (hx : us[k]? = some x) (hy : bs[k]? = some y) (hl : y < x) : lx us bs = 1 := by
  obtain ⟨h1, rfl⟩ := List.getElem?_eq_some_iff.1 hx
  obtain ⟨h2, rfl⟩ := List.getElem?_eq_some_iff.1 hy
  rw [lx_eq k us bs h (by omega) (by omega), List.drop_eq_getElem_cons h1, List.drop_eq_getElem_cons h2]
  simp [lx, hl, Nat.lt_asymm hl]
theorem take_eq_snoc {us bs : List Nat} {k x : Nat} (h : us.take k = bs.take k) (hx : us[k]? = some x) (hy : bs[k]? = some x) : us.take (k + 1) = bs.take (k + 1) := by
  rw [List.take_add_one, List.take_add_one, h, hx, hy]
theorem lx_end {us bs : List Nat} {k : Nat} (h : us.take k = bs.take k) (h1 : k ≤ us.length) (h2 : k ≤ bs.length) (he : us.length ≤ k ∨ bs.length ≤ k) : lx us bs = if us.length < bs.length then -1 else if bs.length < us.length then 1 else 0 := by
  rw [lx_eq k us bs h h1 h2]
  rcases he with he | he
  · rw [List.drop_eq_nil_of_le he]
    by_cases c : us.length < bs.length
    · rw [if_pos c, List.drop_eq_getElem_cons (by omega)]; rfl
    · rw [if_neg c, if_neg (by omega), List.drop_eq_nil_of_le (by omega)]; rfl
  · rw [List.drop_eq_nil_of_le he]
    by_cases c : bs.length < us.length
    · rw [if_neg (by omega), if_pos c, List.drop_eq_getElem_cons (by omega)]; rfl
    · rw [if_neg (by omega), if_neg c, List.drop_eq_nil_of_le (by omega)]; rfl
set_option maxRecDepth 100000 in
set_option maxHeartbeats 2000000 in
theorem lex_any (a b : Value) (xs ys : List Nat) (w : World) (ha : RowB w a xs) (hb : RowB w b ys) (hx : xs.length ≤ 140737488355328) (_hy : ys.length ≤ 140737488355328) (hxb : ∀ d ∈ xs, d < 256) (hyb : ∀ d ∈ ys, d < 256) : Calls Tryd.prog 8 #[a, b] w fun e w' => e = .returned (.int .i64 (lx xs ys)) ∧ G w w' := by
  obtain ⟨pa, ca, rfl, hca, ha⟩ := ha
  obtain ⟨pb, cb, rfl, hcb, hb⟩ := hb
  have HA : Hid _ := ha
  have HB : Hid _ := hb
  have HX : Hid _ := hxb
  have HY : Hid _ := hyb
  clear ha hb hxb hyb
  go_enter Tryd.func8, Tryd.ntmps8
  go_wp2
  go_loopw [5] (fun i W => ∃ k : Nat, k ≤ xs.length ∧ k ≤ ys.length ∧ i = .int .i64 k ∧ xs.take k = ys.take k ∧ G w W) (fun i _ => xs.length - (RowKit.intOf i).toNat)
  case atStart => exact ⟨0, Nat.zero_le _, Nat.zero_le _, rfl, rfl, G.refl _⟩
  case round =>
    obtain ⟨k, hk, hk', rfl, ht, hG⟩ := hrel
    have HG : Hid _ := hG
    have HT : Hid _ := ht
    clear hG ht
    by_cases hlt : k < xs.length
    · have hkI : (k : Int) < (xs.length : Int) := by omega
      by_cases hlt' : k < ys.length
      · obtain ⟨d, hd⟩ : ∃ d, xs[k]? = some d := ⟨_, List.getElem?_eq_getElem hlt⟩
        obtain ⟨d', hd'⟩ : ∃ d, ys[k]? = some d := ⟨_, List.getElem?_eq_getElem hlt'⟩
        obtain ⟨g, o, hp, hcell⟩ := HA.out k d hd
        obtain ⟨g', o', hp', hcell'⟩ := HB.out k d' hd'
        have hc1 : wr.cell? ⟨g, o + k, none⟩ = some (bv d) := (HG.out.cell (cell_ltE hcell)).trans hcell
        have hc2 : wr.cell? ⟨g', o' + k, none⟩ = some (bv d') := (HG.out.cell (cell_ltE hcell')).trans hcell'
        have hkI' : (k : Int) < (ys.length : Int) := by omega
        have b1 : d < 256 := HX.out d (List.mem_of_getElem? hd)
        have b2 : d' < 256 := HY.out d' (List.mem_of_getElem? hd')
        have HD : Hid _ := hd
        have HD' : Hid _ := hd'
        clear hcell hcell' hd hd'
        subst hp hp'
        rcases Nat.lt_trichotomy d d' with hdd | hdd | hdd
        · have hI : (d : Int) < (d' : Int) := by omega
          go_wp2
          go_quiet (fail)
          go_wp2
          go_ret
          exact ⟨by rw [lx_at_lt HT.out HD.out HD'.out hdd]; rfl, by repeat (first | exact HG.out | refine G.drewNE ?_ _ | refine G.drew ?_)⟩
        · subst hdd
          go_wp2
          go_quiet (fail)
          go_wp2
          go_quiet (fail)
          go_wp2
          go_roundw
          case rel => exact ⟨k + 1, by omega, by omega, by go_num, take_eq_snoc HT.out HD.out HD'.out, by repeat (first | exact HG.out | refine G.drewNE ?_ _ | refine G.drew ?_)⟩
          case measure => simp [RowKit.intOf]; omega
        · have hI : ¬ (d : Int) < (d' : Int) := by omega
          have hJ : (d' : Int) < (d : Int) := by omega
          go_wp2
          go_quiet (fail)
          go_wp2
          go_quiet (fail)
          go_wp2
          go_ret
          exact ⟨by rw [lx_at_gt HT.out HD.out HD'.out hdd]; rfl, by repeat (first | exact HG.out | refine G.drewNE ?_ _ | refine G.drew ?_)⟩
      · have hkI' : ¬ (k : Int) < (ys.length : Int) := by omega
        have hE : lx xs ys = 1 := by rw [lx_end HT.out hk hk' (.inr (by omega)), if_neg (by omega), if_pos (by omega)]
        have hI1 : ¬ (xs.length : Int) < (ys.length : Int) := by omega
        have hI2 : (ys.length : Int) < (xs.length : Int) := by omega
        have HE : Hid _ := hE
        clear hE
        go_wp2
        go_ret
        exact ⟨by rw [HE.out]; rfl, HG.out⟩
    · have hkI : ¬ (k : Int) < (xs.length : Int) := by omega
      by_cases hyx : xs.length < ys.length
      · have hE : lx xs ys = -1 := by rw [lx_end HT.out hk hk' (.inl (by omega)), if_pos (by omega)]
        have hI1 : (xs.length : Int) < (ys.length : Int) := by omega
        have HE : Hid _ := hE
        clear hE
        go_wp2
        go_ret
        exact ⟨by rw [HE.out]; rfl, HG.out⟩
      · have hE : lx xs ys = 0 := by rw [lx_end HT.out hk hk' (.inl (by omega)), if_neg (by omega), if_neg (by omega)]
        have hI1 : ¬ (xs.length : Int) < (ys.length : Int) := by omega
        have hI2 : ¬ (ys.length : Int) < (xs.length : Int) := by omega
        have HE : Hid _ := hE
        clear hE
        go_wp2
        go_ret
        exact ⟨by rw [HE.out]; rfl, HG.out⟩
theorem lx_zero (us bs : List Nat) : lx us bs = 0 ↔ us = bs := by
  constructor
  · intro h
    rcases lx_cases us bs with h' | h' | h'
    · omega
    · omega
    · exact h'.2
  · rintro rfl; exact lx_self _
set_option maxRecDepth 100000 in
set_option maxHeartbeats 2000000 in
theorem begins_no (a b : Value) (xs ys : List Nat) (w : World) (ha : RowB w a xs) (hb : RowB w b ys) (hx : xs.length ≤ 140737488355328) (_hy : ys.length ≤ 140737488355328) (hxb : ∀ d ∈ xs, d < 256) (hyb : ∀ d ∈ ys, d < 256) (h : ¬ xs <+: ys) (hp : 0 < xs.length) (hq : 0 < ys.length) : Calls Tryd.prog 9 #[a, b] w fun e w' => e = .returned (.bool false) ∧ G w w' := by
  by_cases hle : xs.length ≤ ys.length
  · have H8 : Hid _ := lex_any a
    have HA : Hid _ := ha
    obtain ⟨pa, ca, rfl, hca, _⟩ := ha
    obtain ⟨pb, cb, rfl, hcb, hb⟩ := hb
    obtain ⟨d0, hd0⟩ : ∃ d, ys[0]? = some d := ⟨_, List.getElem?_eq_getElem hq⟩
    obtain ⟨g, o, rfl, _⟩ := hb 0 d0 hd0
    have HB : Hid (RowB w (.slice (some ⟨g, o, none⟩) (ys.take xs.length).length cb) (ys.take xs.length)) := ⟨_, _, rfl, by rw [List.length_take]; omega, fun k d hd => by
      rw [List.getElem?_take] at hd
      by_cases c : k < xs.length
      · rw [if_pos c] at hd
        exact hb k d hd
      · rw [if_neg c] at hd; cases hd⟩
    have hlen : (ys.take xs.length).length = xs.length := by rw [List.length_take]; omega
    rw [hlen] at HB
    have HN : Hid (lx xs (ys.take xs.length) ≠ 0) := fun h0 => h (by rw [(lx_zero _ _).1 h0]; exact List.take_prefix _ _)
    have HX : Hid _ := hxb
    have HY : Hid (∀ d ∈ ys.take xs.length, d < 256) := fun d hd => hyb d (List.mem_of_mem_take hd)
    have hI : (xs.length : Int) ≤ (ys.length : Int) := by omega
    have hI2 : (xs.length : Int) ≤ (cb : Int) := by omega
    clear hb hd0 hxb hyb h
    go_enter Tryd.func9, Tryd.ntmps9
    go_wp2_with fail
    refine (lex_any _ _ xs (ys.take xs.length) w HA.out HB.out (by omega) (by rw [hlen]; omega) HX.out HY.out).mono ?_
    rintro e w1 ⟨rfl, hb1⟩
    have hne := HN.out
    generalize lx xs (ys.take xs.length) = d at hne ⊢
    have HG : Hid _ := hb1
    clear hb1
    go_wp2
    go_ret
    exact ⟨by show Ending.returned (.bool (d == 0)) = _; rw [beq_false_of_ne hne], HG.out⟩
  · have hI : ¬ (xs.length : Int) ≤ (ys.length : Int) := by omega
    obtain ⟨pa, ca, rfl, hca, _⟩ := ha
    obtain ⟨pb, cb, rfl, hcb, _⟩ := hb
    clear hxb hyb h
    go_enter Tryd.func9, Tryd.ntmps9
    go_wp2
    go_ret
    exact ⟨rfl, G.refl _⟩
end Go.Proofs.YtdiikofgilplkaaDoor
