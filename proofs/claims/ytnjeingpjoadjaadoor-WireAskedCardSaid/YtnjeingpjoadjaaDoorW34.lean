/- Wire: the document's bits, read. -/
import Derived.Test.YtnjeingpjoadjaaDoorW33
namespace Go.Proofs.YtnjeingpjoadjaaDoor
open Go.RowKit

/-- A byte's k-th bit. -/
def bt1 (y k : Nat) : Bool := decide (y / 2 ^ (7 - k) % 2 = 1)
theorem bt1_ge (y k : Nat) (hy : y < 256) (hk : k < 8) : decide (128 ≤ y * 2 ^ k % 256) = bt1 y k :=
  (by decide +kernel : ∀ y : Fin 256, ∀ k : Fin 8, decide (128 ≤ y.val * 2 ^ k.val % 256) = bt1 y.val k.val) ⟨y, hy⟩ ⟨k, hk⟩
theorem bt1_two (y k : Nat) : y * 2 ^ k % 256 * 2 % 256 = y * 2 ^ (k + 1) % 256 := by
  rw [Nat.pow_succ, ← Nat.mul_assoc]
  generalize y * 2 ^ k = z
  omega
theorem bitOf_last (a : List Nat) (y k : Nat) (hk : k < 8) : bitOf (a ++ [y]) (8 * a.length + k) = bt1 y k := by
  unfold bitOf bt1
  rw [show (8 * a.length + k) / 8 = a.length by omega, show (8 * a.length + k) % 8 = k by omega]
  simp
theorem bitOf_pre (a : List Nat) (y i : Nat) (hi : i < 8 * a.length) : bitOf (a ++ [y]) i = bitOf a i := by
  unfold bitOf
  rw [List.getD_eq_getElem?_getD, List.getD_eq_getElem?_getD, List.getElem?_append_left (by omega)]
theorem bitsL_pre (a : List Nat) (y m : Nat) (hm : m ≤ 8 * a.length) : bitsL (a ++ [y]) m = bitsL a m := by
  unfold bitsL
  refine List.map_congr_left fun i hi => ?_
  rw [List.mem_range] at hi
  exact bitOf_pre a y i (by omega)
theorem bitsL_succ (a : List Nat) (m : Nat) : bitsL a (m + 1) = bitsL a m ++ [bitOf a m] := by
  unfold bitsL; rw [List.range_succ, List.map_append]; rfl
theorem bitsL_len (a : List Nat) (m : Nat) : (bitsL a m).length = m := by simp [bitsL]
theorem okk_low (l : List Nat) (n i : Nat) (h : i ≤ n) : okk l n i = true := by
  unfold okk; rw [Nat.sub_eq_zero_of_le h]; rfl
theorem okk_false (l : List Nat) (n i : Nat) (d : Nat) (h : okk l n i = false) : okk l n (i + d) = false := by
  induction d with
  | zero => exact h
  | succ d ih =>
    have hn : n ≤ i + d := Nat.le_of_not_lt fun q => by rw [okk_low l n (i + d) (by omega)] at ih; cases ih
    rw [← Nat.add_assoc, okk_step l n (i + d) hn, ih]; rfl
theorem len_more {xs ys : List Bool} {k : Nat} (h : (0 < k → xs.length < ys.length) ∧ (k = 0 → ys = xs)) (z : Bool) : xs.length < (ys ++ [z]).length := by
  rw [List.length_append]
  by_cases c : 0 < k
  · have := h.1 c; omega
  · rw [h.2 (by omega)]; simp
def slLen (v : Value) : Nat := match v with | .slice _ m _ => m | _ => 0
/-- While a byte's bits are taken. -/
def BtI (n : Nat) (l' : List Nat) (no : Prop) (s' : Option (List Nat)) (xs : List Bool) (y k : Nat) : Prop :=
  (s' = none ∧ no) ∨ ∃ a r, l' = (a ++ [y]) ++ r ∧ s' = some r ∧ 8 * a.length < n ∧ okk (a ++ [y]) n (8 * a.length + k) = true ∧ xs = bitsL (a ++ [y]) (min n (8 * a.length + k))
/-- Between two bytes. -/
def BtO (n : Nat) (l' : List Nat) (no : Prop) (s' : Option (List Nat)) (xs : List Bool) : Prop :=
  (s' = none ∧ no) ∨ ∃ a r, l' = a ++ r ∧ s' = some r ∧ 8 * a.length < n + 8 ∧ okk a n (8 * a.length) = true ∧ xs = bitsL a (min n (8 * a.length))
theorem bt_app {n : Nat} {l' : List Nat} {no : Prop} {s' : Option (List Nat)} {xs : List Bool} {y k : Nat} (h : BtI n l' no s' xs y k) (hx : xs.length < n) (hk : k < 8) : BtI n l' no s' (xs ++ [bt1 y k]) y (k + 1) := by
  rcases h with h | ⟨a, r, h1, h2, h3, h4, h5⟩
  · exact .inl h
  · have hl : xs.length = min n (8 * a.length + k) := by rw [h5, bitsL_len]
    refine .inr ⟨a, r, h1, h2, h3, okk_low _ _ _ (by omega), ?_⟩
    rw [h5, show min n (8 * a.length + k) = 8 * a.length + k by omega, show min n (8 * a.length + (k + 1)) = 8 * a.length + k + 1 by omega, bitsL_succ, bitOf_last a y k hk]
theorem bt_skip {n : Nat} {l' : List Nat} {no : Prop} {s' : Option (List Nat)} {xs : List Bool} {y k : Nat} (h : BtI n l' no s' xs y k) (hx : ¬ xs.length < n) (hk : k < 8) (hb : bt1 y k = false) : BtI n l' no s' xs y (k + 1) := by
  rcases h with h | ⟨a, r, h1, h2, h3, h4, h5⟩
  · exact .inl h
  · have hl : xs.length = min n (8 * a.length + k) := by rw [h5, bitsL_len]
    refine .inr ⟨a, r, h1, h2, h3, ?_, ?_⟩
    · rw [← Nat.add_assoc, okk_step _ _ _ (by omega), h4, bitOf_last a y k hk, hb]; rfl
    · rw [h5]; congr 1; omega
theorem ptk_app (a r : List Nat) : ptk a.length (a ++ r) = some (a, r) := by
  unfold ptk; rw [if_pos (by simp)]; simp
theorem bt_bad {n : Nat} {l' : List Nat} {s s' : Option (List Nat)} {xs : List Bool} {y k : Nat} (h : BtI n l' (s.bind pb = none) s' xs y k) (hp : s.bind pc = some (n, l')) (hn : ¬ 4096 < n) (hx : ¬ xs.length < n) (hk : k < 8) (hb : bt1 y k = true) : s.bind pb = none := by
  rcases h with h | ⟨a, r, h1, h2, h3, h4, h5⟩
  · exact h.2
  · have hl : xs.length = min n (8 * a.length + k) := by rw [h5, bitsL_len]
    have hlen : (a ++ [y]).length = (n + 7) / 8 := by simp; omega
    have hpt := ptk_app (a ++ [y]) r
    rw [hlen, ← h1] at hpt
    rw [pb_is s n l' _ _ hp hn hpt, show 8 * (a ++ [y]).length = (8 * a.length + k + 1) + (7 - k) by simp; omega, okk_false _ _ _ _ (by rw [okk_step _ _ _ (by omega), bitOf_last a y k hk, hb]; simp)]
    rfl
theorem bt_out {n : Nat} {l' : List Nat} {no : Prop} {s' : Option (List Nat)} {xs : List Bool} {y : Nat} (h : BtI n l' no s' xs y 8) : BtO n l' no s' xs := by
  rcases h with h | ⟨a, r, h1, h2, h3, h4, h5⟩
  · exact .inl h
  · have e : 8 * (a ++ [y]).length = 8 * a.length + 8 := by simp; omega
    exact .inr ⟨a ++ [y], r, h1, h2, by rw [e]; omega, by rw [e]; exact h4, by rw [e]; exact h5⟩
theorem bt_in {n : Nat} {l' : List Nat} {no : Prop} {s' : Option (List Nat)} {xs : List Bool} {y : Nat} {r' : List Nat} (h : BtO n l' no s' xs) (hp : s'.bind p8 = some (y, r')) (hx : xs.length < n) : BtI n l' no (some r') xs y 0 := by
  rw [p8_cons hp] at h
  rcases h with ⟨h, _⟩ | ⟨a, r, h1, h2, h3, h4, h5⟩
  · cases h
  · cases h2
    have hl : xs.length = min n (8 * a.length) := by rw [h5, bitsL_len]
    refine .inr ⟨a, r', by rw [h1]; simp, rfl, by omega, okk_low _ _ _ (by omega), ?_⟩
    rw [Nat.add_zero, bitsL_pre _ _ _ (by omega), h5]
theorem bt_none {n : Nat} {l' : List Nat} {s s' : Option (List Nat)} {xs : List Bool} (h : BtO n l' (s.bind pb = none) s' xs) (hp : s.bind pc = some (n, l')) (hn : ¬ 4096 < n) (hp8 : s'.bind p8 = none) (hx : xs.length < n) : s.bind pb = none := by
  rcases h with h | ⟨a, r, h1, h2, h3, h4, h5⟩
  · exact h.2
  · subst h2
    have hr : r = [] := by cases r with | nil => rfl | cons z r => cases hp8
    subst hr
    have hl : xs.length = min n (8 * a.length) := by rw [h5, bitsL_len]
    refine pb_no3 s n l' hp hn ?_
    unfold ptk
    rw [if_neg]
    rw [h1, List.append_nil]; omega
theorem bt_fin {n : Nat} {l' : List Nat} {s s' : Option (List Nat)} {xs : List Bool} (h : BtO n l' (s.bind pb = none) s' xs) (hp : s.bind pc = some (n, l')) (hn : ¬ 4096 < n) (hx : s' = none ∨ ¬ xs.length < n) : (s' = none ∧ s.bind pb = none) ∨ ∃ r, s' = some r ∧ s.bind pb = some (xs, r) := by
  rcases h with h | ⟨a, r, h1, h2, h3, h4, h5⟩
  · exact .inl h
  · subst h2
    rcases hx with q | hx
    · cases q
    · have hl : xs.length = min n (8 * a.length) := by rw [h5, bitsL_len]
      have hlen : a.length = (n + 7) / 8 := by omega
      have hpt := ptk_app a r
      rw [hlen, ← h1] at hpt
      refine .inr ⟨r, rfl, ?_⟩
      rw [pb_is s n l' _ _ hp hn hpt, h4, h5, show min n (8 * a.length) = n by omega]
      rfl
set_option maxRecDepth 100000 in
set_option maxHeartbeats 1000000 in
theorem bits3_any (N : Nat) (w : World) (b : Nat) (s : Option (List Nat)) (h : Rc N w b s) (hN : N ≤ w.heap.size) :
    Calls Tryd.prog 32 #[ptr b] w (RetP N pb (fun w_ v l => Sw eZ 4 w_ v l ∧ Fresh w v) (fun _ v => ∃ a n c, v = .slice a n c) b w s) := by
  have KC := hide (count3_any N w b s h)
  have HNN := hide hN
  clear h hN
  go_enter Tryd.func32, Tryd.ntmps32
  go_wp2_with fail
  refine KC.out.mono ?_
  rintro e w1 ⟨v1, rfl, hc1, ⟨n, l', hp, hs1, rfl⟩ | ⟨hp, hs1, rfl⟩⟩
  · obtain ⟨p2, n2, c2, b1⟩ := hs1.bad
    have k1 := b1.cell
    have k2 := b1.frozen
    simp only [Option.isNone_some] at k1
    by_cases hn : 4096 < n
    · have i1 : (4096 : Int) < (n : Int) := by omega
      have hsp := hs1.spoil
      have HF : Hid (RetP N pb (fun w_ v l => Sw eZ 4 w_ v l ∧ Fresh w v) (fun _ v => ∃ a n c, v = .slice a n c) b w s (.returned (.slice none 0 0)) (w1.setCell ⟨b, 1, none⟩ (.bool true))) := ⟨_, rfl, hc1.trans hsp.2, .inr ⟨pb_no2 s n l' hp hn, hsp.1, _, _, _, rfl⟩⟩
      clear hc1 hp hs1 KC hsp b1 hn
      go_wp2_with fail
      go_ret
      exact HF.out
    · have i1 : ¬ (4096 : Int) < (n : Int) := by omega
      have HP := hide (And.intro hp hn)
      have HS := hide (And.intro hs1 hc1)
      have u0 : wrap64 (n : Int) = (n : Int) := by unfold wrap64; omega
      clear hc1 hp hs1 KC b1 hn
      go_wp2_with fail
      clear k1 k2
      go_loopw [4] (fun ov wr => ∃ (s' : Option (List Nat)) (xs : List Bool), Sw eZ 4 wr ov xs ∧ Fresh w ov ∧ Cb b w wr ∧ Rc N wr b s' ∧ xs.length ≤ n ∧ BtO n l' (s.bind pb = none) s' xs) (fun ov _ => n - slLen ov)
      case atStart => exact ⟨some l', [], Sw.nil _ _ _, Fresh.nil _, HS.out.2, HS.out.1, Nat.zero_le _, .inr ⟨[], l', rfl, rfl, by simp, okk_low _ _ _ (by simp), by simp [bitsL]⟩⟩
      case round =>
        obtain ⟨s', xs, ho, hof, hch, hs, hxl, hbt⟩ := hrel
        clear HS
        obtain ⟨p3, n3, c3, b3⟩ := hs.bad
        have k3 := b3.cell
        obtain ⟨oa, oc, hov⟩ := ho.form
        subst hov
        have HFIN : Hid (s' = none ∨ ¬ xs.length < n → RetP N pb (fun w_ v l => Sw eZ 4 w_ v l ∧ Fresh w v) (fun _ v => ∃ a n c, v = .slice a n c) b w s (.returned (.slice oa xs.length oc)) wr) := fun hq => by
          refine ⟨_, rfl, hch, ?_⟩
          rcases bt_fin hbt HP.out.1 HP.out.2 hq with ⟨q, q2⟩ | ⟨r, q, q2⟩
          · subst q; exact .inr ⟨q2, hs, _, _, _, rfl⟩
          · subst q; exact .inl ⟨xs, r, q2, hs, ho, hof⟩
        by_cases hlt : xs.length < n
        · have i2 : (xs.length : Int) < (n : Int) := by omega
          cases s' with
          | none =>
            have HF := hide (HFIN.out (.inl rfl))
            simp only [Option.isNone_none] at k3
            clear ho hof hch hs hxl hbt b3 hlt HFIN
            go_wp2_with fail
            go_ret
            exact HF.out
          | some r0 =>
            have KB := hide (byte1_any N wr b (some r0) hs)
            have hob : ∀ k, (Value.slice oa xs.length oc).ownBlock = some k → ¬ k = b := fun k hk e => by subst e; exact ho.ne b3 (by decide) hk
            have HO := hide (And.intro ho (And.intro hof hob))
            have HC := hide hch
            have HX := hide (And.intro hxl (And.intro hbt hlt))
            simp only [Option.isNone_some] at k3
            clear ho hof hch hs hxl hbt b3 hlt hob HFIN
            go_wp2_with fail
            refine KB.out.mono ?_
            rintro e w4 ⟨v4, rfl, hc4, hcase4⟩
            obtain ⟨y, s4, rfl, hy, hs4, hb4⟩ : ∃ (y : Nat) (s4 : Option (List Nat)), v4 = bv y ∧ y < 256 ∧ Rc N w4 b s4 ∧ BtI n l' (s.bind pb = none) s4 xs y 0 := by
              obtain ⟨hxl, hbt, hlt⟩ := HX.out
              rcases hcase4 with ⟨x, r4, hp4, hs4, rfl, hq⟩ | ⟨hp4, hs4, x, rfl, hq⟩
              · exact ⟨x, some r4, rfl, hq, hs4, bt_in hbt hp4 hlt⟩
              · exact ⟨x, none, rfl, hq, hs4, .inl ⟨rfl, bt_none hbt HP.out.1 HP.out.2 hp4 hlt⟩⟩
            obtain ⟨ho, hof, hob⟩ := HO.out
            have ho4 := ho.chg hc4 hob
            have HY := hide hy
            have H4 := hide (And.intro ho4 (And.intro (HC.out.trans hc4) (And.intro hs4 hb4)))
            have u1 : wrap64 (y : Int) = (y : Int) := by unfold wrap64; omega
            clear hc4 hcase4 hs4 hb4 ho hof hob ho4 KB HC k3 hy
            go_wp2_with fail
            go_loopw [4, 5, 6] (fun ov xv kv wr => ∃ (k : Nat) (s' : Option (List Nat)) (ys : List Bool), kv = I k ∧ k ≤ 8 ∧ xv = I ((y * 2 ^ k % 256 : Nat) : Int) ∧ Sw eZ 4 wr ov ys ∧ Fresh w ov ∧ Cb b w wr ∧ Rc N wr b s' ∧ ys.length ≤ n ∧ ((0 < k → xs.length < ys.length) ∧ (k = 0 → ys = xs)) ∧ BtI n l' (s.bind pb = none) s' ys y k) (fun _ _ kv _ => 8 - (RowKit.intOf kv).toNat)
            case atStart =>
              obtain ⟨q1, q2, q3, q4⟩ := H4.out
              have ey : y * 2 ^ 0 % 256 = y := by have := HY.out; omega
              exact ⟨0, s4, xs, rfl, by decide, by rw [ey, u1], q1, HO.out.2.1, q2, q3, HX.out.1, ⟨fun q => absurd q (by decide), fun _ => rfl⟩, q4⟩
            case round =>
              obtain ⟨k, s', ys, rfl, hk, rfl, ho, hof, hch, hs, hyl, hyx, hbt⟩ := hrel
              clear H4 u1 i1 i2
              obtain ⟨p5, n5, c5, b5⟩ := hs.bad
              have k5 := b5.cell
              have f5 := b5.frozen
              obtain ⟨oa2, oc2, hov⟩ := ho.form
              subst hov
              have hy := HY.out
              by_cases hk8 : k < 8
              · have i3 : (k : Int) < 8 := by omega
                have HW : Hid (wrap64 ((k : Int) + 1) = ((k + 1 : Nat) : Int)) := by show _ = _; unfold wrap64; omega
                have hge := bt1_ge y k hy hk8
                have htw := bt1_two y k
                obtain ⟨X, hX⟩ : ∃ X, X = y * 2 ^ k % 256 := ⟨_, rfl⟩
                rw [← hX] at hge htw ⊢
                have hX2 : X < 256 := by omega
                have u2 : wrap64 ((X : Int) * 2) = (X : Int) * 2 := by unfold wrap64; omega
                have u3' : ((X : Int) * 2).tmod 256 = (X : Int) * 2 % 256 := Int.tmod_eq_emod_of_nonneg (by omega)
                have HU : Hid ((X : Int) * 2 % 256 = ((y * 2 ^ (k + 1) % 256 : Nat) : Int)) := by show _ = _; rw [← htw]; omega
                have HYN := hide (And.intro hyl (And.intro hyx hk8))
                by_cases hl2 : ys.length < n
                · have i4 : (ys.length : Int) < (n : Int) := by omega
                  have hob : ∀ j, (Value.slice oa2 ys.length oc2).ownBlock = some j → ¬ j = b := fun j hj e => by subst e; exact ho.ne b5 (by decide) hj
                  have hbt' := bt_app hbt hl2 hk8
                  have happ : ∀ z : Bool, Hid (∃ v5 w5, (Builtin.append_ #[23, 23] 23 #[.slice oa2 ys.length oc2, .slice (some ⟨wr.heap.size, 0, none⟩) 1 1]).run Tryd.prog (wr.alloc (.cells #[.bool z] 4)) = .ok v5 w5 ∧ Sw eZ 4 w5 v5 (ys ++ [z]) ∧ Fresh w v5 ∧ Cb b w w5 ∧ Rc N w5 b s') := fun z => by
                    have hA := (G.refl wr).alloc (.cells #[.bool z] 4)
                    have ho4 := ho.G hA
                    obtain ⟨i0, hi0, hz0, hz1, hz2⟩ := info_Z2
                    have hmx : (2097153 : Nat) ≤ maxLen := of_decide_eq_true (by kernel_rfl)
                    have hn4 := HP.out.2
                    obtain ⟨v5, w5, hr5, hs5, hch5, hob5⟩ := app_row (P := Tryd.prog) (tr := 23) (ns := [z]) i0 _ 1 Tryd.underlying23 hi0 hz0 hz1 hz2 rfl (by decide) ho4 (Row.lit (E := eZ) wr 4 [z] 1 (by simp)) (by simp; omega) (by simp; omega)
                    have hcA : Cb b w (wr.alloc (.cells #[.bool z] 4)) := hch.trans hA.chg
                    have hc5 : Cb b w w5 := hcA.more hch5 (fun k hk q => absurd (hof k q) (by omega))
                    have hf5 : Fresh w v5 := fun k hk => by
                      rcases hob5 with q | q
                      · rw [q] at hk; exact hof k hk
                      · rw [q] at hk; have h1 := Option.some.inj hk; have h2 := hcA.size; omega
                    exact ⟨v5, w5, hr5, hs5, hf5, hc5, (hs.G hA).own (W := w) (fun k hk => ⟨hof k hk, hob k hk⟩) HNN.out hch5⟩
                  have HBT := hide (And.intro hbt' hl2)
                  cases hbit : bt1 y k with
                  | true =>
                    rw [hbit] at hge HBT
                    have i5 : (128 : Int) ≤ (X : Int) := by have := of_decide_eq_true hge; omega
                    have HA5 := happ true
                    clear hk ho hof hch hs hyl hyx hbt b5 hk8 hge htw hX hX2 hl2 hob hbt' happ hbit hy
                    obtain ⟨v5, w5, hr5, r1, r2, r3, r4⟩ := HA5.out
                    have HR5 := hide hr5
                    have H5 := hide (And.intro r1 (And.intro r2 (And.intro r3 r4)))
                    clear hr5 r1 r2 r3 r4 HA5
                    go_wp2_with (first | (at_builtin; refine wpList_append_run rfl _ _ 23 rfl (.slice oa2 ys.length oc2) (.slice (some ⟨wr.heap.size, 0, none⟩) 1 1) rfl rfl HR5.out ?_) | fail)
                    try rw [HW.out]
                    try rw [HU.out]
                    obtain ⟨r1, r2, r3, r4⟩ := H5.out
                    refine ⟨⟨k + 1, s', ys ++ [true], rfl, HYN.out.2.2, rfl, r1, r2, r3, r4, ?_, ?_, HBT.out.1⟩, ?_⟩
                    · have := HBT.out.2; simp; omega
                    · exact ⟨fun _ => len_more HYN.out.2.1 _, fun q => by omega⟩
                    · simp only [RowKit.intOf]; have := HYN.out.2.2; omega
                  | false =>
                    rw [hbit] at hge HBT
                    have i5 : ¬ (128 : Int) ≤ (X : Int) := by have := of_decide_eq_false hge; omega
                    have HA5 := happ false
                    clear hk ho hof hch hs hyl hyx hbt b5 hk8 hge htw hX hX2 hl2 hob hbt' happ hbit hy
                    obtain ⟨v5, w5, hr5, r1, r2, r3, r4⟩ := HA5.out
                    have HR5 := hide hr5
                    have H5 := hide (And.intro r1 (And.intro r2 (And.intro r3 r4)))
                    clear hr5 r1 r2 r3 r4 HA5
                    go_wp2_with (first | (at_builtin; refine wpList_append_run rfl _ _ 23 rfl (.slice oa2 ys.length oc2) (.slice (some ⟨wr.heap.size, 0, none⟩) 1 1) rfl rfl HR5.out ?_) | fail)
                    try rw [HW.out]
                    try rw [HU.out]
                    obtain ⟨r1, r2, r3, r4⟩ := H5.out
                    refine ⟨⟨k + 1, s', ys ++ [false], rfl, HYN.out.2.2, rfl, r1, r2, r3, r4, ?_, ?_, HBT.out.1⟩, ?_⟩
                    · have := HBT.out.2; simp; omega
                    · exact ⟨fun _ => len_more HYN.out.2.1 _, fun q => by omega⟩
                    · simp only [RowKit.intOf]; have := HYN.out.2.2; omega
                · have i4 : ¬ (ys.length : Int) < (n : Int) := by omega
                  have hsp := hs.spoil
                  cases hbit : bt1 y k with
                  | true =>
                    rw [hbit] at hge
                    have i5 : (128 : Int) ≤ (X : Int) := by have := of_decide_eq_true hge; omega
                    have HF : Hid (Sw eZ 4 (wr.setCell ⟨b, 1, none⟩ (.bool true)) (.slice oa2 ys.length oc2) ys ∧ Fresh w (.slice oa2 ys.length oc2) ∧ Cb b w (wr.setCell ⟨b, 1, none⟩ (.bool true)) ∧ Rc N (wr.setCell ⟨b, 1, none⟩ (.bool true)) b none ∧ BtI n l' (s.bind pb = none) none ys y (k + 1)) := ⟨ho.off (ho.ne b5 (by decide)), hof, hch.trans hsp.2, hsp.1, .inl ⟨rfl, bt_bad hbt HP.out.1 HP.out.2 hl2 hk8 hbit⟩⟩
                    have HL2 := hide hl2
                    clear hk ho hof hch hs hyl hyx hbt b5 hk8 hge htw hX hX2 hl2 hsp hbit hy
                    go_wp2_with fail
                    try rw [HW.out]
                    try rw [HU.out]
                    obtain ⟨r1, r2, r3, r4, r5⟩ := HF.out
                    refine ⟨⟨k + 1, none, ys, rfl, HYN.out.2.2, rfl, r1, r2, r3, r4, HYN.out.1, ⟨fun _ => ?_, fun q => by omega⟩, r5⟩, ?_⟩
                    · have h1 := HX.out.2.2; have h2 := HL2.out; omega
                    · simp only [RowKit.intOf]; have := HYN.out.2.2; omega
                  | false =>
                    rw [hbit] at hge
                    have i5 : ¬ (128 : Int) ≤ (X : Int) := by have := of_decide_eq_false hge; omega
                    have HF : Hid (Sw eZ 4 wr (.slice oa2 ys.length oc2) ys ∧ Fresh w (.slice oa2 ys.length oc2) ∧ Cb b w wr ∧ Rc N wr b s' ∧ BtI n l' (s.bind pb = none) s' ys y (k + 1)) := ⟨ho, hof, hch, hs, bt_skip hbt hl2 hk8 hbit⟩
                    have HL2 := hide hl2
                    clear hk ho hof hch hs hyl hyx hbt b5 hk8 hge htw hX hX2 hl2 hsp hbit hy
                    go_wp2_with fail
                    try rw [HW.out]
                    try rw [HU.out]
                    obtain ⟨r1, r2, r3, r4, r5⟩ := HF.out
                    refine ⟨⟨k + 1, s', ys, rfl, HYN.out.2.2, rfl, r1, r2, r3, r4, HYN.out.1, ⟨fun _ => ?_, fun q => by omega⟩, r5⟩, ?_⟩
                    · have h1 := HX.out.2.2; have h2 := HL2.out; omega
                    · simp only [RowKit.intOf]; have := HYN.out.2.2; omega
              · have i3 : ¬ (k : Int) < 8 := by omega
                have ek : k = 8 := by omega
                subst ek
                have HE : Hid (∃ (s' : Option (List Nat)) (zs : List Bool), Sw eZ 4 wr (.slice oa2 ys.length oc2) zs ∧ Fresh w (.slice oa2 ys.length oc2) ∧ Cb b w wr ∧ Rc N wr b s' ∧ zs.length ≤ n ∧ BtO n l' (s.bind pb = none) s' zs) := ⟨s', ys, ho, hof, hch, hs, hyl, bt_out hbt⟩
                have HM : Hid (n - slLen (.slice oa2 ys.length oc2) < n - slLen (.slice oa xs.length oc)) := by show n - ys.length < n - xs.length; have := hyx.1 (by decide); have := HX.out.2.2; omega
                clear hk ho hof hch hs hyl hyx hbt b5 hk8 hy k5 f5
                go_wp2_with fail
                exact ⟨HE.out, HM.out⟩
        · have i2 : ¬ (xs.length : Int) < (n : Int) := by omega
          have HF := hide (HFIN.out (.inr hlt))
          clear ho hof hch hs hxl hbt b3 hlt HFIN
          go_wp2_with fail
          go_ret
          exact HF.out
  · obtain ⟨p2, n2, c2, b1⟩ := hs1.bad
    have k1 := b1.cell
    have k2 := b1.frozen
    simp only [Option.isNone_none] at k1
    have hsp := hs1.spoil
    have HF : Hid (RetP N pb (fun w_ v l => Sw eZ 4 w_ v l ∧ Fresh w v) (fun _ v => ∃ a n c, v = .slice a n c) b w s (.returned (.slice none 0 0)) (w1.setCell ⟨b, 1, none⟩ (.bool true))) := ⟨_, rfl, hc1.trans hsp.2, .inr ⟨pb_no1 s hp, hsp.1, _, _, _, rfl⟩⟩
    clear hc1 hp hs1 b1 hsp KC
    go_wp2_with fail
    go_ret
    exact HF.out
end Go.Proofs.YtnjeingpjoadjaaDoor
