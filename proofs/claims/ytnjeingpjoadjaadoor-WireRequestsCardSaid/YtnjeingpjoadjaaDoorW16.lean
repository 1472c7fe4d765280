/- The document's bits; how many numbers a kind takes. -/
import Derived.Test.YtnjeingpjoadjaaDoorW15
import Derived.Test.YtnjeingpjoadjaaDoorW12
namespace Go.Proofs.YtnjeingpjoadjaaDoor
open Go.RowKit

/-- The first k bits of a byte, as a number. -/
def hv (l : List Bool) (j : Nat) : Nat → Nat
  | 0 => 0
  | k + 1 => 2 * hv l j k + bt l (8 * j + k)
theorem hv_8 (l : List Bool) (j : Nat) : hv l j 8 = byt l j := by
  simp only [hv, byt, Nat.add_zero]; omega
theorem hv_lt (l : List Bool) (j : Nat) : ∀ k, hv l j k < 2 ^ k
  | 0 => by simp [hv]
  | k + 1 => by
    have h1 := hv_lt l j k
    have h2 := bt_le l (8 * j + k)
    rw [hv, Nat.pow_succ]; omega
theorem hv_le (l : List Bool) (j k : Nat) (hk : k ≤ 8) : hv l j k < 256 := Nat.lt_of_lt_of_le (hv_lt l j k) (Nat.pow_le_pow_right (n := 2) (by decide) hk)
set_option maxRecDepth 100000 in
set_option maxHeartbeats 1000000 in
theorem rbits_any (l : List Bool) (v : Value) (W : World) (h : Row eZ.rel W v l) (hn : l.length ≤ 140737488351232) :
    Calls Tryd.prog 25 #[v] W (NewB (cnt l.length ++ pk l) W) := by
  obtain ⟨p, cap, rfl⟩ := h.form
  have KC := hide (rcount_any l.length W (by omega))
  have HS := hide h
  have HN := hide hn
  clear h
  go_enter Tryd.func25, Tryd.ntmps25
  go_wp2_with fail
  refine KC.out.mono ?_
  rintro e w1 ⟨v1, rfl, hs1, hg1, hf1⟩
  have H1 := hide (And.intro hs1 (And.intro hg1 hf1))
  clear hs1 hg1 hf1 KC hn
  go_wp2_with fail
  go_loopw [3, 4, 5, 6] (fun ov iv _ _ wr => ∃ j i : Nat, iv = I i ∧ i = 8 * j ∧ j ≤ (l.length + 7) / 8 ∧ SwB wr ov (cnt l.length ++ (pk l).take j) ∧ G W wr ∧ Fresh W ov) (fun _ iv _ _ _ => l.length + 8 - (RowKit.intOf iv).toNat)
  case atStart => exact ⟨0, 0, rfl, rfl, Nat.zero_le _, by simpa using H1.out.1, H1.out.2.1, H1.out.2.2⟩
  case round =>
    obtain ⟨j, i, rfl, hij, hj, hs, hg, hf⟩ := hrel
    clear H1
    by_cases hil : i < l.length
    · have i1 : (i : Int) < l.length := Int.ofNat_lt.2 hil
      have HIL := hide hil
      have HIJ := hide hij
      have HH := hide (And.intro hs (And.intro hg hf))
      have hrow := HS.out.G hg
      have HR := hide hrow
      obtain ⟨w0, hw0⟩ : ∃ w0, w0 = wr := ⟨wr, rfl⟩
      rw [← hw0] at HH HR ⊢
      clear hij hj hs hg hf hil hrow hw0
      go_wp2_with fail
      go_loopw [5, 6] (fun vv kv wr => ∃ k : Nat, kv = I k ∧ k ≤ 8 ∧ vv = I (hv l j k) ∧ wr = w0) (fun _ kv _ => 8 - (RowKit.intOf kv).toNat)
      case atStart => exact ⟨0, rfl, by decide, rfl, rfl⟩
      case round =>
        obtain ⟨k, rfl, hk8, rfl, rfl⟩ := hrel
        by_cases h8 : k < 8
        · have i2 : (k : Int) < 8 := by omega
          have hv1 := hv_le l j k (by omega)
          have hn := HN.out
          have hil := HIL.out
          have hij := HIJ.out
          have e1 : wrap64 ((hv l j k : Int) * 2) = (hv l j k : Int) * 2 := by unfold wrap64; omega
          have e2 : wrap64 ((hv l j k : Int) * 2 + 1) = (hv l j k : Int) * 2 + 1 := by unfold wrap64; omega
          have e3 : wrap64 ((i : Int) + (k : Int)) = (i : Int) + (k : Int) := by unfold wrap64; omega
          have HW : Hid (wrap64 ((k : Int) + 1) = (k : Int) + 1) := by show _ = _; unfold wrap64; omega
          have HK := hide h8
          have HE : Hid ((bt l (i + k) = 1 → hv l j (k + 1) = hv l j k * 2 + 1) ∧ (bt l (i + k) = 0 → hv l j (k + 1) = hv l j k * 2)) := by
            constructor <;> intro q <;> rw [hv, ← hij, q] <;> omega
          by_cases hik : i + k < l.length
          · obtain ⟨x, hx⟩ : ∃ x, l[i + k]? = some x := ⟨_, List.getElem?_eq_getElem hik⟩
            obtain ⟨g, o, cap', q⟩ := HR.out.addr (by omega)
            injection q with q1 q2 q3
            subst q1 q3
            have x1 := RZ.at HR.out hx
            have i3 : (i : Int) + (k : Int) < (l.length : Int) := by omega
            have i4 : 0 ≤ (i : Int) + (k : Int) := by omega
            have d3 := decide_eq_true i3
            have e5 : ((i : Int) + (k : Int)).toNat = i + k := by omega
            cases x with
            | true =>
              have hb : bt l (i + k) = 1 := by unfold bt; rw [hx]; rfl
              have HX := hide (HE.out.1 hb)
              clear hk8 h8 hv1 hn hil hij hik hx q2 hb
              generalize hv l j k = hh at e1 e2 HX ⊢
              go_wp2_with fail
              try rw [HW.out]
              refine ⟨⟨k + 1, rfl, HK.out, by rw [HX.out, e2]; rfl, trivial⟩, ?_⟩
              simp only [RowKit.intOf]; have := HK.out; omega
            | false =>
              have hb : bt l (i + k) = 0 := by unfold bt; rw [hx]; rfl
              have HX := hide (HE.out.2 hb)
              clear hk8 h8 hv1 hn hil hij hik hx q2 hb
              generalize hv l j k = hh at e1 e2 HX ⊢
              go_wp2_with fail
              try rw [HW.out]
              refine ⟨⟨k + 1, rfl, HK.out, by rw [HX.out, e1]; rfl, trivial⟩, ?_⟩
              simp only [RowKit.intOf]; have := HK.out; omega
          · have hb : bt l (i + k) = 0 := by unfold bt; rw [List.getElem?_eq_none (by omega)]; rfl
            have HX := hide (HE.out.2 hb)
            have i3 : ¬ (i : Int) + (k : Int) < (l.length : Int) := by omega
            have d3 := decide_eq_false i3
            clear hk8 h8 hv1 hn hil hij hik hb
            generalize hv l j k = hh at e1 e2 HX ⊢
            go_wp2_with fail
            try rw [HW.out]
            refine ⟨⟨k + 1, rfl, HK.out, by rw [HX.out, e1]; rfl, trivial⟩, ?_⟩
            simp only [RowKit.intOf]; have := HK.out; omega
        · have i2 : ¬ (k : Int) < 8 := by omega
          have hk : k = 8 := by omega
          subst hk
          rw [hv_8]
          obtain ⟨hs, hg, hf⟩ := HH.out
          have hil := HIL.out
          have hij := HIJ.out
          have hn := HN.out
          have hby := byt_lt l j
          have hA := (G.refl wr).alloc (.cells (eB.fl [byt l j]).toArray 5)
          have hpj : (pk l)[j]? = some (byt l j) := by
            rw [pk, List.getElem?_map, List.getElem?_range (by omega)]; rfl
          have e1 : (cnt l.length ++ (pk l).take j) ++ [byt l j] = cnt l.length ++ (pk l).take (j + 1) := by
            rw [List.take_add_one, hpj, List.append_assoc]; rfl
          have hcl := (cnt_len l.length (by omega)).2
          obtain ⟨v5, w5, hr5, hs5, hg5, hf5⟩ := grow_B 27 (hs.G hA) (Row.lit wr 5 [byt l j] 1 (by simp)) (hg.trans hA) hf (by rw [List.length_append, List.length_take, pk_len]; simp; omega)
          rw [e1] at hs5
          have HR5 := hide hr5
          have HF : Hid (∃ u, v5 = u ∧ SwB w5 u (cnt l.length ++ (pk l).take (j + 1)) ∧ G W w5 ∧ Fresh W u) := ⟨_, rfl, hs5, hg5, hf5⟩
          have HI : Hid (i + 8 = 8 * (j + 1) ∧ j + 1 ≤ (l.length + 7) / 8 ∧ i < l.length) := ⟨by omega, by omega, hil⟩
          have HW : Hid (wrap64 ((i : Int) + 8) = (i : Int) + 8) := by show _ = _; unfold wrap64; omega
          have e2 : ((byt l j : Nat) : Int) % 256 = (byt l j : Int) := by omega
          clear hk8 h8 hs hg hf hil hij hn hA hpj e1 hcl hr5 hs5 hg5 hf5 HH HR hby
          generalize byt l j = yy at HR5 e2 ⊢
          go_wp2_with (first | (at_builtin; refine wpList_append_run rfl _ _ 27 rfl u3 (.slice (some ⟨wr.heap.size, 0, none⟩) 1 1) rfl rfl HR5.out ?_) | fail)
          try rw [HW.out]
          obtain ⟨u, rfl, r1, r2, r3⟩ := HF.out
          refine ⟨⟨j + 1, i + 8, rfl, HI.out.1, HI.out.2.1, r1, r2, r3⟩, ?_⟩
          simp only [RowKit.intOf]; have := HI.out.2.2; omega
    · have i1 : ¬ ((i : Int) < l.length) := by omega
      have e1 : (pk l).take j = pk l := List.take_of_length_le (by rw [pk_len]; omega)
      rw [e1] at hs
      have HF := hide (And.intro hs (And.intro hg hf))
      clear hil hij hj hs hg hf e1
      go_wp2_with fail
      go_ret
      exact ⟨_, rfl, HF.out.1, HF.out.2.1, HF.out.2.2⟩
set_option maxRecDepth 100000 in
set_option maxHeartbeats 1000000 in
theorem rtakes_any (k : Int) (W : World) (hk : 1 ≤ k ∧ k ≤ 12) : Calls Tryd.prog 50 #[I k] W fun e W' => e = .returned (I (tkN k)) ∧ W' = W := by
  rcases (by omega : k = 1 ∨ k = 2 ∨ k = 3 ∨ k = 4 ∨ k = 5 ∨ k = 6 ∨ k = 7 ∨ k = 8 ∨ k = 9 ∨ k = 10 ∨ k = 11 ∨ k = 12) with rfl | rfl | rfl | rfl | rfl | rfl | rfl | rfl | rfl | rfl | rfl | rfl
  all_goals
    clear hk
    go_enter Tryd.func50, Tryd.ntmps50
    go_wp2_with fail
    go_ret
    exact ⟨rfl, rfl⟩
end Go.Proofs.YtnjeingpjoadjaaDoor
