/- The document's PutRequest. -/
import Derived.Test.YtnjeingpjoadjaaDoorW16
import Derived.Test.YtnjeingpjoadjaaDoorW13
namespace Go.Proofs.YtnjeingpjoadjaaDoor
open Go.RowKit

theorem len_flat : ∀ l : List Int, l.length ≤ (l.flatMap numB).length
  | [] => Nat.le_refl _
  | n :: l => by
    have h1 := len_flat l
    have h2 : 1 ≤ (cnt (zig n)).length := by unfold cnt; simp
    rw [List.flatMap_cons, List.length_append, List.length_cons]
    show l.length + 1 ≤ (cnt (zig n)).length + _
    omega
set_option maxRecDepth 100000 in
set_option maxHeartbeats 1000000 in
theorem rmay_a (w : World) (v : Value) (q : Rq) (hv : RqV w v q) (hk : 1 ≤ q.k ∧ q.k ≤ 12) (cA : ¬ ((q.ns.length : Int) = tkN q.k)) : Calls Tryd.prog 22 #[v] w fun e w' => e = .returned (.bool false) ∧ G w w' := by
  obtain ⟨⟨vn, vb, rfl, h1, h2⟩, hr, ln, lt, lb⟩ := hv
  obtain ⟨pn, cn, rfl⟩ := h1.form
  obtain ⟨pb, cb, rfl⟩ := h2.form
  obtain ⟨k, ns, t, bs⟩ := q
  simp only at *
  have hB := Blk.new w [I k, .slice pn ns.length cn, .string t, .slice pb bs.length cb] 25
  have hA := (G.refl w).alloc (.cells #[I k, .slice pn ns.length cn, .string t, .slice pb bs.length cb] 25)
  have KT := hide (fun W : World => rtakes_any k W hk)
  have hc := hB.cell
  obtain ⟨tk, htk⟩ : ∃ tk, tk = tkN k := ⟨_, rfl⟩
  rw [← htk] at KT
  have a1 : ((ns.length : Int) != tk) = true := by rw [bne_iff_ne, htk]; exact cA
  clear h1 h2 hr ln lt lb hB htk cA hk
  go_enter Tryd.func22, Tryd.ntmps22
  go_wp2_with fail
  go_quiet (first | (go_at_call 50; with_reducible refine Calls.quiet_of_same (KT.out _)))
  go_wp2_with fail
  go_ret
  exact ⟨rfl, hA.drewN _⟩
set_option maxRecDepth 100000 in
set_option maxHeartbeats 1000000 in
theorem rmay_ez (w : World) (v : Value) (q : Rq) (hv : RqV w v q) (hk : 1 ≤ q.k ∧ q.k ≤ 12) (cA : ((q.ns.length : Int) = tkN q.k)) (cT : q.t.size = 0) (cZ : q.bs.length = 0) : Calls Tryd.prog 22 #[v] w fun e w' => e = .returned (.bool true) ∧ G w w' := by
  obtain ⟨⟨vn, vb, rfl, h1, h2⟩, hr, ln, lt, lb⟩ := hv
  obtain ⟨pn, cn, rfl⟩ := h1.form
  obtain ⟨pb, cb, rfl⟩ := h2.form
  obtain ⟨k, ns, t, bs⟩ := q
  simp only at *
  have hB := Blk.new w [I k, .slice pn ns.length cn, .string t, .slice pb bs.length cb] 25
  have hA := (G.refl w).alloc (.cells #[I k, .slice pn ns.length cn, .string t, .slice pb bs.length cb] 25)
  have KT := hide (fun W : World => rtakes_any k W hk)
  have hc := hB.cell
  obtain ⟨tk, htk⟩ : ∃ tk, tk = tkN k := ⟨_, rfl⟩
  rw [← htk] at KT
  have a1 : ((ns.length : Int) != tk) = false := by rw [htk, cA]; simp
  have b1 := str_em t cT
  have z1 : ((bs.length : Int) == 0) = true := beq_iff_eq.2 (by omega)
  clear h1 h2 hr ln lt lb hB htk cA cT cZ hk
  go_enter Tryd.func22, Tryd.ntmps22
  go_wp2_with fail
  go_quiet (first | (go_at_call 50; with_reducible refine Calls.quiet_of_same (KT.out _)))
  go_wp2_with fail
  go_ret
  exact ⟨rfl, hA.drewN _⟩
set_option maxRecDepth 100000 in
set_option maxHeartbeats 1000000 in
theorem rmay_en7True (w : World) (v : Value) (q : Rq) (hv : RqV w v q) (hk : 1 ≤ q.k ∧ q.k ≤ 12) (cA : ((q.ns.length : Int) = tkN q.k)) (cT : q.t.size = 0) (cZ : ¬ q.bs.length = 0) (cJ : q.k = 7) (cL : q.bs.length ≤ 4096) : Calls Tryd.prog 22 #[v] w fun e w' => e = .returned (.bool true) ∧ G w w' := by
  obtain ⟨⟨vn, vb, rfl, h1, h2⟩, hr, ln, lt, lb⟩ := hv
  obtain ⟨pn, cn, rfl⟩ := h1.form
  obtain ⟨pb, cb, rfl⟩ := h2.form
  obtain ⟨k, ns, t, bs⟩ := q
  simp only at *
  have hB := Blk.new w [I k, .slice pn ns.length cn, .string t, .slice pb bs.length cb] 25
  have hA := (G.refl w).alloc (.cells #[I k, .slice pn ns.length cn, .string t, .slice pb bs.length cb] 25)
  have KT := hide (fun W : World => rtakes_any k W hk)
  have hc := hB.cell
  obtain ⟨tk, htk⟩ : ∃ tk, tk = tkN k := ⟨_, rfl⟩
  rw [← htk] at KT
  have a1 : ((ns.length : Int) != tk) = false := by rw [htk, cA]; simp
  have b1 := str_em t cT
  have z1 : ((bs.length : Int) == 0) = false := beq_eq_false_iff_ne.2 (by omega)
  have z2 : (k == 7) = true := beq_iff_eq.2 cJ
  have l1 : decide ((bs.length : Int) ≤ 4096) = true := decide_eq_true (by omega)
  clear h1 h2 hr ln lt lb hB htk cA cT cZ cJ cL hk
  go_enter Tryd.func22, Tryd.ntmps22
  go_wp2_with fail
  go_quiet (first | (go_at_call 50; with_reducible refine Calls.quiet_of_same (KT.out _)))
  go_wp2_with fail
  go_ret
  exact ⟨rfl, hA.drewN _⟩
set_option maxRecDepth 100000 in
set_option maxHeartbeats 1000000 in
theorem rmay_en7False (w : World) (v : Value) (q : Rq) (hv : RqV w v q) (hk : 1 ≤ q.k ∧ q.k ≤ 12) (cA : ((q.ns.length : Int) = tkN q.k)) (cT : q.t.size = 0) (cZ : ¬ q.bs.length = 0) (cJ : q.k = 7) (cL : ¬ q.bs.length ≤ 4096) : Calls Tryd.prog 22 #[v] w fun e w' => e = .returned (.bool false) ∧ G w w' := by
  obtain ⟨⟨vn, vb, rfl, h1, h2⟩, hr, ln, lt, lb⟩ := hv
  obtain ⟨pn, cn, rfl⟩ := h1.form
  obtain ⟨pb, cb, rfl⟩ := h2.form
  obtain ⟨k, ns, t, bs⟩ := q
  simp only at *
  have hB := Blk.new w [I k, .slice pn ns.length cn, .string t, .slice pb bs.length cb] 25
  have hA := (G.refl w).alloc (.cells #[I k, .slice pn ns.length cn, .string t, .slice pb bs.length cb] 25)
  have KT := hide (fun W : World => rtakes_any k W hk)
  have hc := hB.cell
  obtain ⟨tk, htk⟩ : ∃ tk, tk = tkN k := ⟨_, rfl⟩
  rw [← htk] at KT
  have a1 : ((ns.length : Int) != tk) = false := by rw [htk, cA]; simp
  have b1 := str_em t cT
  have z1 : ((bs.length : Int) == 0) = false := beq_eq_false_iff_ne.2 (by omega)
  have z2 : (k == 7) = true := beq_iff_eq.2 cJ
  have l1 : decide ((bs.length : Int) ≤ 4096) = false := decide_eq_false (by omega)
  clear h1 h2 hr ln lt lb hB htk cA cT cZ cJ cL hk
  go_enter Tryd.func22, Tryd.ntmps22
  go_wp2_with fail
  go_quiet (first | (go_at_call 50; with_reducible refine Calls.quiet_of_same (KT.out _)))
  go_wp2_with fail
  go_ret
  exact ⟨rfl, hA.drewN _⟩
set_option maxRecDepth 100000 in
set_option maxHeartbeats 1000000 in
theorem rmay_enn (w : World) (v : Value) (q : Rq) (hv : RqV w v q) (hk : 1 ≤ q.k ∧ q.k ≤ 12) (cA : ((q.ns.length : Int) = tkN q.k)) (cT : q.t.size = 0) (cZ : ¬ q.bs.length = 0) (cJ : ¬ q.k = 7) : Calls Tryd.prog 22 #[v] w fun e w' => e = .returned (.bool false) ∧ G w w' := by
  obtain ⟨⟨vn, vb, rfl, h1, h2⟩, hr, ln, lt, lb⟩ := hv
  obtain ⟨pn, cn, rfl⟩ := h1.form
  obtain ⟨pb, cb, rfl⟩ := h2.form
  obtain ⟨k, ns, t, bs⟩ := q
  simp only at *
  have hB := Blk.new w [I k, .slice pn ns.length cn, .string t, .slice pb bs.length cb] 25
  have hA := (G.refl w).alloc (.cells #[I k, .slice pn ns.length cn, .string t, .slice pb bs.length cb] 25)
  have KT := hide (fun W : World => rtakes_any k W hk)
  have hc := hB.cell
  obtain ⟨tk, htk⟩ : ∃ tk, tk = tkN k := ⟨_, rfl⟩
  rw [← htk] at KT
  have a1 : ((ns.length : Int) != tk) = false := by rw [htk, cA]; simp
  have b1 := str_em t cT
  have z1 : ((bs.length : Int) == 0) = false := beq_eq_false_iff_ne.2 (by omega)
  have z2 : (k == 7) = false := beq_eq_false_iff_ne.2 cJ
  clear h1 h2 hr ln lt lb hB htk cA cT cZ cJ hk
  go_enter Tryd.func22, Tryd.ntmps22
  go_wp2_with fail
  go_quiet (first | (go_at_call 50; with_reducible refine Calls.quiet_of_same (KT.out _)))
  go_wp2_with fail
  go_ret
  exact ⟨rfl, hA.drewN _⟩
set_option maxRecDepth 100000 in
set_option maxHeartbeats 1000000 in
theorem rmay_n3z (w : World) (v : Value) (q : Rq) (hv : RqV w v q) (hk : 1 ≤ q.k ∧ q.k ≤ 12) (cA : ((q.ns.length : Int) = tkN q.k)) (cT : ¬ q.t.size = 0) (cK : q.k = 3) (cZ : q.bs.length = 0) : Calls Tryd.prog 22 #[v] w fun e w' => e = .returned (.bool true) ∧ G w w' := by
  obtain ⟨⟨vn, vb, rfl, h1, h2⟩, hr, ln, lt, lb⟩ := hv
  obtain ⟨pn, cn, rfl⟩ := h1.form
  obtain ⟨pb, cb, rfl⟩ := h2.form
  obtain ⟨k, ns, t, bs⟩ := q
  simp only at *
  have hB := Blk.new w [I k, .slice pn ns.length cn, .string t, .slice pb bs.length cb] 25
  have hA := (G.refl w).alloc (.cells #[I k, .slice pn ns.length cn, .string t, .slice pb bs.length cb] 25)
  have KT := hide (fun W : World => rtakes_any k W hk)
  have hc := hB.cell
  obtain ⟨tk, htk⟩ : ∃ tk, tk = tkN k := ⟨_, rfl⟩
  rw [← htk] at KT
  have a1 : ((ns.length : Int) != tk) = false := by rw [htk, cA]; simp
  have b1 := str_ne t cT
  have b2 : (k != 3) = false := by rw [cK]; rfl
  have z1 : ((bs.length : Int) == 0) = true := beq_iff_eq.2 (by omega)
  clear h1 h2 hr ln lt lb hB htk cA cT cK cZ hk
  go_enter Tryd.func22, Tryd.ntmps22
  go_wp2_with fail
  go_quiet (first | (go_at_call 50; with_reducible refine Calls.quiet_of_same (KT.out _)))
  go_wp2_with fail
  go_ret
  exact ⟨rfl, hA.drewN _⟩
set_option maxRecDepth 100000 in
set_option maxHeartbeats 1000000 in
theorem rmay_n3nn (w : World) (v : Value) (q : Rq) (hv : RqV w v q) (hk : 1 ≤ q.k ∧ q.k ≤ 12) (cA : ((q.ns.length : Int) = tkN q.k)) (cT : ¬ q.t.size = 0) (cK : q.k = 3) (cZ : ¬ q.bs.length = 0) (cJ : ¬ q.k = 7) : Calls Tryd.prog 22 #[v] w fun e w' => e = .returned (.bool false) ∧ G w w' := by
  obtain ⟨⟨vn, vb, rfl, h1, h2⟩, hr, ln, lt, lb⟩ := hv
  obtain ⟨pn, cn, rfl⟩ := h1.form
  obtain ⟨pb, cb, rfl⟩ := h2.form
  obtain ⟨k, ns, t, bs⟩ := q
  simp only at *
  have hB := Blk.new w [I k, .slice pn ns.length cn, .string t, .slice pb bs.length cb] 25
  have hA := (G.refl w).alloc (.cells #[I k, .slice pn ns.length cn, .string t, .slice pb bs.length cb] 25)
  have KT := hide (fun W : World => rtakes_any k W hk)
  have hc := hB.cell
  obtain ⟨tk, htk⟩ : ∃ tk, tk = tkN k := ⟨_, rfl⟩
  rw [← htk] at KT
  have a1 : ((ns.length : Int) != tk) = false := by rw [htk, cA]; simp
  have b1 := str_ne t cT
  have b2 : (k != 3) = false := by rw [cK]; rfl
  have z1 : ((bs.length : Int) == 0) = false := beq_eq_false_iff_ne.2 (by omega)
  have z2 : (k == 7) = false := beq_eq_false_iff_ne.2 cJ
  clear h1 h2 hr ln lt lb hB htk cA cT cK cZ cJ hk
  go_enter Tryd.func22, Tryd.ntmps22
  go_wp2_with fail
  go_quiet (first | (go_at_call 50; with_reducible refine Calls.quiet_of_same (KT.out _)))
  go_wp2_with fail
  go_ret
  exact ⟨rfl, hA.drewN _⟩
set_option maxRecDepth 100000 in
set_option maxHeartbeats 1000000 in
theorem rmay_nn (w : World) (v : Value) (q : Rq) (hv : RqV w v q) (hk : 1 ≤ q.k ∧ q.k ≤ 12) (cA : ((q.ns.length : Int) = tkN q.k)) (cT : ¬ q.t.size = 0) (cK : ¬ q.k = 3) : Calls Tryd.prog 22 #[v] w fun e w' => e = .returned (.bool false) ∧ G w w' := by
  obtain ⟨⟨vn, vb, rfl, h1, h2⟩, hr, ln, lt, lb⟩ := hv
  obtain ⟨pn, cn, rfl⟩ := h1.form
  obtain ⟨pb, cb, rfl⟩ := h2.form
  obtain ⟨k, ns, t, bs⟩ := q
  simp only at *
  have hB := Blk.new w [I k, .slice pn ns.length cn, .string t, .slice pb bs.length cb] 25
  have hA := (G.refl w).alloc (.cells #[I k, .slice pn ns.length cn, .string t, .slice pb bs.length cb] 25)
  have KT := hide (fun W : World => rtakes_any k W hk)
  have hc := hB.cell
  obtain ⟨tk, htk⟩ : ∃ tk, tk = tkN k := ⟨_, rfl⟩
  rw [← htk] at KT
  have a1 : ((ns.length : Int) != tk) = false := by rw [htk, cA]; simp
  have b1 := str_ne t cT
  have b2 : (k != 3) = true := bne_iff_ne.2 cK
  clear h1 h2 hr ln lt lb hB htk cA cT cK hk
  go_enter Tryd.func22, Tryd.ntmps22
  go_wp2_with fail
  go_quiet (first | (go_at_call 50; with_reducible refine Calls.quiet_of_same (KT.out _)))
  go_wp2_with fail
  go_ret
  exact ⟨rfl, hA.drewN _⟩
theorem rmay_any (w : World) (v : Value) (q : Rq) (hv : RqV w v q) (hk : 1 ≤ q.k ∧ q.k ≤ 12) : Calls Tryd.prog 22 #[v] w fun e w' => e = .returned (.bool q.may) ∧ G w w' := by
  unfold Rq.may
  by_cases cA : (q.ns.length : Int) = tkN q.k
  · by_cases cT : q.t.size = 0
    · by_cases cZ : q.bs.length = 0
      · have := rmay_ez w v q hv hk cA cT cZ
        simpa [cA, cT, cZ] using this
      · by_cases cJ : q.k = 7
        · by_cases cL : q.bs.length ≤ 4096
          · have := rmay_en7True w v q hv hk cA cT cZ cJ cL
            simp only [decide_eq_true cA, decide_eq_true cT, decide_eq_true cJ, decide_eq_true cL, Bool.true_or, Bool.or_true, Bool.and_true]
            exact this
          · have := rmay_en7False w v q hv hk cA cT cZ cJ cL
            simp only [decide_eq_false cL, Bool.and_false]
            exact this
        · have := rmay_enn w v q hv hk cA cT cZ cJ
          simp only [decide_eq_false cZ, decide_eq_false cJ, Bool.or_false, Bool.and_false, Bool.false_and]
          exact this
    · by_cases cK : q.k = 3
      · by_cases cZ : q.bs.length = 0
        · have := rmay_n3z w v q hv hk cA cT cK cZ
          have cL : q.bs.length ≤ 4096 := by omega
          simp only [decide_eq_true cA, decide_eq_true cK, decide_eq_true cZ, decide_eq_true cL, Bool.true_or, Bool.or_true, Bool.and_true]
          exact this
        · by_cases cJ : q.k = 7
          · omega
          · have := rmay_n3nn w v q hv hk cA cT cK cZ cJ
            simp only [decide_eq_false cZ, decide_eq_false cJ, Bool.or_false, Bool.and_false, Bool.false_and]
            exact this
      · have := rmay_nn w v q hv hk cA cT cK
        simp only [decide_eq_false cT, decide_eq_false cK, Bool.or_false, Bool.and_false, Bool.false_and]
        exact this
  · have := rmay_a w v q hv hk cA
    simp only [decide_eq_false cA, Bool.false_and]
    exact this
theorem flat_ten : ∀ l : List Int, (∀ n ∈ l, R64 n) → (l.flatMap numB).length ≤ l.length * 10
  | [], _ => by simp
  | n :: l, h => by
    have h1 := flat_ten l (fun m hm => h m (List.mem_cons_of_mem _ hm))
    have h2 := (cnt_len (zig n) (zig_lt n (h n (List.mem_cons_self ..)))).2
    have h3 : (numB n).length ≤ 10 := h2
    rw [List.flatMap_cons, List.length_append, List.length_cons]
    omega
theorem tkN_six (k : Int) : tkN k ≤ 6 := by
  unfold tkN
  rw [List.getD_eq_getElem?_getD]
  cases e : tkL[k.toNat]? with
  | none => decide
  | some x => exact (by decide : ∀ y ∈ tkL, y ≤ 6) x (List.mem_of_getElem? e)
theorem may_small (q : Rq) (hr : ∀ n ∈ q.ns, R64 n) (h : q.may = true) : (q.ns.flatMap numB).length ≤ 60 ∧ q.bs.length ≤ 4096 := by
  unfold Rq.may at h
  simp only [Bool.and_eq_true, decide_eq_true_eq] at h
  have h1 := flat_ten q.ns hr
  have h2 := tkN_six q.k
  exact ⟨by omega, h.2⟩
set_option maxRecDepth 100000 in
set_option maxHeartbeats 1000000 in
theorem rputq_any (w : World) (v : Value) (q : Rq) (hv : RqV w v q) (hbn : q.may = true → (q.ns.flatMap numB).length ≤ 60 ∧ q.bs.length ≤ 4096) : Calls Tryd.prog 8 #[v] w (PutP q w) := by
  obtain ⟨vn, vb, rfl, h1, h2⟩ := id hv.h
  have hB := Blk.new w [I q.k, vn, .string q.t, vb] 25
  have hA := (G.refl w).alloc (.cells #[I q.k, vn, .string q.t, vb] 25)
  have hc := hB.cell
  by_cases cK : 1 ≤ q.k ∧ q.k ≤ 12
  · have KM := hide (rmay_any (w.alloc (.cells #[I q.k, vn, .string q.t, vb] 25)) _ q (hv.G hA) cK)
    have HC := hide cK
    have HV := hide (hv.G hA)
    have HBx := hide hB
    have HA := hide hA
    have HBN := hide hbn
    have d1 : decide (q.k < 1) = false := decide_eq_false (by omega)
    have d2 : decide (12 < q.k) = false := decide_eq_false (by omega)
    clear h1 h2 hv hB hA cK hbn
    go_enter Tryd.func8, Tryd.ntmps8
    go_wp2_with fail
    generalize w.alloc (.cells #[I q.k, vn, .string q.t, vb] 25) = wA at KM HV HBx HA hc ⊢
    refine KM.out.mono ?_
    rintro e w2 ⟨rfl, hg2⟩
    cases hm : q.may with
    | false =>
      have HF := hide (PutP.bad q w w2 163 (by unfold Rq.code; rw [if_neg (not_not_intro HC.out), if_pos hm]) (by decide) (HA.out.trans hg2))
      clear hg2 KM hm
      go_wp2_with fail
      go_ret2
      exact HF.out
    | true =>
      have hb2 := HBx.out.G hg2
      have hc2 := hb2.cell
      obtain ⟨⟨vn', vb', ee, r1, r2⟩, hr, ln, lt, lb⟩ := HV.out.G hg2
      simp only [Value.agg.injEq, Array.mk.injEq, List.cons.injEq, and_true, true_and] at ee
      obtain ⟨rfl, rfl⟩ := ee
      have HB6 := hide (HBN.out hm)
      have K1 := hide (rnums_any q.ns vn w2 r1 hr (by have := HB6.out.1; omega) (by have := HB6.out.1; have := len_flat q.ns; omega))
      have HB2 := hide hb2
      have HG2 := hide (HA.out.trans hg2)
      have HM := hide hm
      have HR2 := hide (And.intro r2 (And.intro lt lb))
      clear hg2 KM hm hb2 r1 r2 hr ln lt lb HV HBx HA
      go_wp2_with fail
      refine K1.out.mono ?_
      rintro e w3 ⟨v3, rfl, hs3, hg3, hf3⟩
      have hb3 := HB2.out.G hg3
      have hc3 := hb3.cell
      have K2 := hide (rtext_any q.t w3 (by have := HR2.out.2.1; omega))
      have H3 := hide (And.intro hs3 (And.intro hg3 hf3))
      have HB3 := hide hb3
      clear hs3 hg3 hf3 hb3 K1
      go_wp2_with fail
      refine K2.out.mono ?_
      rintro e w4 ⟨v4, rfl, hs4, hg4, hf4⟩
      obtain ⟨hs3, hg3, hf3⟩ := H3.out
      have hl1 : (cnt q.ns.length ++ q.ns.flatMap numB).length ≤ 70 := by
        have := HB6.out.1
        have := (cnt_len q.ns.length (by have := len_flat q.ns; omega)).2
        rw [List.length_append]; omega
      have hl2 : (cnt q.t.size ++ bys q.t).length ≤ 140737488351242 := by
        have := HR2.out.2.1
        have := (cnt_len q.t.size (by omega)).2
        rw [List.length_append, bys_len]; omega
      obtain ⟨v5, w5, hr5, hs5, hg5, hf5⟩ := grow_B 27 (hs3.G hg4) hs4.toRow (hg3.trans hg4) hf3 (by omega)
      have HR5 := hide hr5
      have hb5 := HB2.out.G hg5
      have hc5 := hb5.cell
      have K3 := hide (rbits_any q.bs vb w5 (HR2.out.1.G hg5) HR2.out.2.2)
      have H5 := hide (And.intro hs5 (And.intro hg5 hf5))
      have HL := hide (And.intro hl1 hl2)
      clear hs3 hg3 hf3 hs4 hg4 hf4 hl1 hl2 hr5 hs5 hg5 hf5 hb5 K2 H3 HB3
      go_wp2_with (first | (at_builtin; refine wpList_append_run rfl _ _ 27 rfl v3 v4 rfl rfl HR5.out ?_) | fail)
      refine K3.out.mono ?_
      rintro e w6 ⟨v6, rfl, hs6, hg6, hf6⟩
      obtain ⟨hs5, hg5, hf5⟩ := H5.out
      have hl3 : (cnt q.bs.length ++ pk q.bs).length ≤ 530 := by
        have := HB6.out.2
        have := (cnt_len q.bs.length (by omega)).2
        rw [List.length_append, pk_len]; omega
      have hll := HL.out
      obtain ⟨v7, w7, hr7, hs7, hg7, hf7⟩ := grow_B 27 (hs5.G hg6) hs6.toRow (hg5.trans hg6) hf5 (by rw [List.length_append]; omega)
      have hb7 := HB2.out.G hg7
      have hc7 := hb7.cell
      have HR7 := hide hr7
      have hbody : ((cnt q.ns.length ++ q.ns.flatMap numB) ++ (cnt q.t.size ++ bys q.t)) ++ (cnt q.bs.length ++ pk q.bs) = q.body := by rw [Rq.body, List.append_assoc]
      rw [hbody] at hs7
      have hbl : q.body.length ≤ 140737488355328 := by rw [← hbody, List.length_append, List.length_append]; omega
      have K4 := hide (rframe_any q.k q.body v7 w7 hs7.toRow q.body_by hbl)
      have HG7 := hide (HG2.out.trans hg7)
      clear hs5 hg5 hf5 hs6 hg6 hf6 hl3 hll hr7 hs7 hg7 hf7 hb7 hbody hbl K3 H5 HB2
      go_wp2_with (first | (at_builtin; refine wpList_append_run rfl _ _ 27 rfl v5 v6 rfl rfl HR7.out ?_) | fail)
      refine K4.out.mono ?_
      rintro e w8 ⟨v8, rfl, hs8, hg8, hf8⟩
      have HF : Hid (PutP q w (.returned (.tuple #[v8, I (frC q.k q.body.length)])) w8) := by
        have hcode : q.code = frC q.k q.body.length := by unfold Rq.code; rw [if_neg (not_not_intro HC.out), if_neg (by rw [HM.out]; decide)]
        refine ⟨v8, by rw [hcode], ?_, HG7.out.trans hg8, hf8.old HG7.out⟩
        rw [Rq.frame, hcode]
        exact hs8
      clear hs8 hg8 hf8 K4
      go_wp2_with fail
      go_ret2
      exact HF.out
  · have HF := hide (PutP.bad q w _ 162 (by unfold Rq.code; rw [if_pos cK]) (by decide) hA)
    have hd : (decide (q.k < 1) = true) ∨ (decide (q.k < 1) = false ∧ decide (12 < q.k) = true) := by
      by_cases c : q.k < 1
      · exact .inl (decide_eq_true c)
      · exact .inr ⟨decide_eq_false c, decide_eq_true (by omega)⟩
    clear h1 h2 hv hB hA cK hbn
    rcases hd with d1 | ⟨d1, d2⟩
    · go_enter Tryd.func8, Tryd.ntmps8
      go_wp2_with fail
      go_ret2
      exact HF.out
    · go_enter Tryd.func8, Tryd.ntmps8
      go_wp2_with fail
      go_ret2
      exact HF.out
end Go.Proofs.YtnjeingpjoadjaaDoor
