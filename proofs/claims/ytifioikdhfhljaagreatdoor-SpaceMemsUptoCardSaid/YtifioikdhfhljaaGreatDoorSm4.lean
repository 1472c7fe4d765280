/- Graphs: has it that property? -/
import Derived.Test.YtifioikdhfhljaaGreatDoorSm2
namespace Go.Proofs.YtifioikdhfhljaaGreatDoor
open Go.RowKit Go.Maps

/-- Is it just that property? -/
def vB (x y : Pv) : Bool := (x.k == y.k) && (x.a == y.a) && (x.b == y.b) && (x.s.toList == y.s.toList)
def pB (x y : Pv) : Bool := (x.key.toList == y.key.toList) && vB x y
theorem beq_sw {α : Type} [BEq α] [LawfulBEq α] (a b : α) : (a == b) = (b == a) := by
  by_cases h : a = b
  · subst h; rfl
  · rw [beq_false_of_ne h, beq_false_of_ne (Ne.symm h)]
theorem vB_sw (x y : Pv) : vB x y = vB y x := by unfold vB; rw [beq_sw x.k, beq_sw x.a, beq_sw x.b, beq_sw x.s.toList]
theorem pB_sw (x y : Pv) : pB x y = pB y x := by unfold pB; rw [beq_sw x.key.toList, vB_sw]
theorem eqVP (x y : Pv) (w : World) : (binOp .eql 41 (.agg #[I x.k, I x.a, I x.b, .string x.s]) (.agg #[I y.k, I y.a, I y.b, .string y.s])).run Tryz.prog w = .ok (.bool (vB x y)) w := by
  unfold vB
  by_cases h1 : x.k = y.k <;> by_cases h2 : x.a = y.a <;> by_cases h3 : x.b = y.b <;> by_cases h4 : x.s.toList = y.s.toList <;> simp [go_sem, h1, h2, h3, h4]
theorem eqPP (x y : Pv) (w : World) : (binOp .eql 101 (.agg #[.string x.key, I x.k, I x.a, I x.b, .string x.s]) (.agg #[.string y.key, I y.k, I y.a, I y.b, .string y.s])).run Tryz.prog w = .ok (.bool (pB x y)) w := by
  unfold pB vB
  by_cases h0 : x.key.toList = y.key.toList <;> by_cases h1 : x.k = y.k <;> by_cases h2 : x.a = y.a <;> by_cases h3 : x.b = y.b <;> by_cases h4 : x.s.toList = y.s.toList <;> simp [go_sem, h0, h1, h2, h3, h4]
set_option maxRecDepth 100000 in
set_option maxHeartbeats 4000000 in
theorem ixP_any (y : Pv) (l : List Pv) (v : Value) (W : World) (h : Row eP.rel W v l) (hl : l.length ≤ 4611686018427387904) : Calls Tryz.prog 161 #[v, .agg #[.string y.key, I y.k, I y.a, I y.b, .string y.s]] W fun e W' => (∃ n : Int, e = .returned (I n) ∧ decide (0 ≤ n) = l.any (pB y)) ∧ G W W' := by
  obtain ⟨p, cap, rfl⟩ := h.form
  obtain ⟨w1, hw1⟩ : ∃ w1, w1 = (W.alloc (.cells #[.string y.key, I y.k, I y.a, I y.b, .string y.s] 101)) := ⟨_, rfl⟩
  have hg1 : G W w1 := by rw [hw1]; exact (G.refl W).alloc _
  have hb1 : Blk w1 W.heap.size 101 [.string y.key, I y.k, I y.a, I y.b, .string y.s] := by rw [hw1]; exact Blk.new W [.string y.key, I y.k, I y.a, I y.b, .string y.s] 101
  have HEW : Hid ((W.alloc (.cells #[.string y.key, I y.k, I y.a, I y.b, .string y.s] 101)) = w1) := hw1.symm
  have HA := hide h; have HL := hide hl; have HG2 := hide hg1; have HB := hide hb1
  clear h hl hg1 hb1 hw1
  go_enter Tryz.func161, Tryz.ntmps161
  go_wp2_with fail
  rw [HEW.out]
  go_loopw [8, 5] (fun iv _ wr => ∃ i : Nat, iv = I i ∧ i ≤ l.length ∧ ((l.take i).any (pB y)) = false ∧ G w1 wr) (fun iv _ _ => l.length - (RowKit.intOf iv).toNat)
  case atStart => exact ⟨0, rfl, Nat.zero_le _, rfl, G.refl _⟩
  case round =>
    obtain ⟨i, rfl, hik, hno, hg⟩ := hrel
    by_cases hil : i < l.length
    · obtain ⟨x, hx⟩ : ∃ x, l[i]? = some x := ⟨_, List.getElem?_eq_getElem hil⟩
      obtain ⟨g, o, cp, q⟩ := HA.out.addr (by omega)
      injection q with q1 q2 q3
      subst q1 q3
      have x1 : wr.cell? ⟨g, o + i * 5, none⟩ = some (.string x.key) := by have := cell_G (HA.out.one hx 0 (u := .string x.key) rfl) (HG2.out.trans hg); simpa using this
      have x2 : wr.cell? ⟨g, o + i * 5 + 1, none⟩ = some (I x.k) := by have := cell_G (HA.out.one hx 1 (u := I x.k) rfl) (HG2.out.trans hg); simpa using this
      have x3 : wr.cell? ⟨g, o + i * 5 + 2, none⟩ = some (I x.a) := by have := cell_G (HA.out.one hx 2 (u := I x.a) rfl) (HG2.out.trans hg); simpa using this
      have x4 : wr.cell? ⟨g, o + i * 5 + 3, none⟩ = some (I x.b) := by have := cell_G (HA.out.one hx 3 (u := I x.b) rfl) (HG2.out.trans hg); simpa using this
      have x5 : wr.cell? ⟨g, o + i * 5 + 4, none⟩ = some (.string x.s) := by have := cell_G (HA.out.one hx 4 (u := .string x.s) rfl) (HG2.out.trans hg); simpa using this
      have i1 : (i : Int) < l.length := Int.ofNat_lt.2 hil
      have hb := (HB.out.G hg).cell
      have HW : Hid (wrap64 ((i : Int) + 1) = (i : Int) + 1) := by show _ = _; have := HL.out; unfold wrap64; omega
      have HIL := hide hil; have HG := hide hg; have HX := hide hx; have HNO := hide hno
      clear hik hil hx q2 hg hno
      cases hpx : pB y x with
      | false =>
        have HF : Hid (((l.take (i + 1)).any (pB y)) = false) := by
          rw [Hid, List.take_add_one, HX.out, List.any_append, HNO.out]
          simp [hpx]
        have hEQ : ∀ V, (binOp .eql 101 (.agg #[.string y.key, I y.k, I y.a, I y.b, .string y.s]) (.agg #[.string x.key, I x.k, I x.a, I x.b, .string x.s])).run Tryz.prog V = .ok (.bool false) V := fun V => by rw [eqPP, hpx]
        clear hpx
        go_wp2_with fail
        go_quiet (fail)
        generalize hV : World.drewN wr _ = V
        have HGV : Hid (G w1 V) := by rw [← hV]; exact HG.out.drewN _
        clear hV x1 x2 x3 x4 x5 hb hEQ
        go_wp2_with fail
        exact ⟨⟨i + 1, by rw [HW.out]; exact srl i, HIL.out, HF.out, HGV.out⟩, by rw [HW.out]; exact sms HIL.out⟩
      | true =>
        have HF : Hid ((l.any (pB y)) = true) := by
          rw [Hid, List.any_eq_true]
          exact ⟨x, List.mem_of_getElem? HX.out, hpx⟩
        have hEQ : ∀ V, (binOp .eql 101 (.agg #[.string y.key, I y.k, I y.a, I y.b, .string y.s]) (.agg #[.string x.key, I x.k, I x.a, I x.b, .string x.s])).run Tryz.prog V = .ok (.bool true) V := fun V => by rw [eqPP, hpx]
        clear hpx
        go_wp2_with fail
        go_quiet (fail)
        generalize hV : World.drewN wr _ = V
        have HGV : Hid (G w1 V) := by rw [← hV]; exact HG.out.drewN _
        clear hV x1 x2 x3 x4 x5 hb hEQ
        go_wp2_with fail
        go_ret
        refine ⟨⟨_, rfl, ?_⟩, HG2.out.trans HGV.out⟩
        rw [HF.out, decide_eq_true]; omega
    · have i1 : ¬ ((i : Int) < l.length) := by omega
      have HF : Hid ((l.any (pB y)) = false) := by rw [Hid, ← hno, List.take_of_length_le (by omega)]
      have HG := hide hg
      clear hik hil hno hg
      go_wp2_with fail
      go_ret
      refine ⟨⟨_, rfl, ?_⟩, HG2.out.trans HG.out⟩
      rw [HF.out, decide_eq_false (by decide)]
set_option maxRecDepth 100000 in
set_option maxHeartbeats 1000000 in
theorem ctP_any (y : Pv) (l : List Pv) (v : Value) (W : World) (h : Row eP.rel W v l) (hl : l.length ≤ 4611686018427387904) : Calls Tryz.prog 131 #[v, .agg #[.string y.key, I y.k, I y.a, I y.b, .string y.s]] W fun e W' => e = .returned (.bool (l.any (pB y))) ∧ G W W' := by
  obtain ⟨p, cap, rfl⟩ := h.form
  have hA := (G.refl W).alloc (.cells #[.string y.key, I y.k, I y.a, I y.b, .string y.s] 101)
  have KI := hide (ixP_any y l _ _ (h.G hA) hl)
  have HA := hide hA
  clear h hl hA
  obtain ⟨bb, hbb⟩ : ∃ bb, bb = l.any (pB y) := ⟨_, rfl⟩
  rw [← hbb] at KI ⊢
  clear hbb
  go_enter Tryz.func131, Tryz.ntmps131
  go_wp2_with fail
  refine KI.out.mono ?_
  rintro e w' ⟨⟨n, rfl, hn⟩, hg⟩
  have HN := hide hn; have HG := hide (HA.out.trans hg)
  clear hn hg KI
  go_wp2_with fail
  go_ret
  exact ⟨by rw [← HN.out] <;> rfl, HG.out⟩
set_option maxRecDepth 100000 in
set_option maxHeartbeats 1000000 in
theorem has_any (x : Ed) (y : Pv) (pa : Option Addr) (pn pc : Nat) (W : World) (h : Row eP.rel W (.slice pa pn pc) x.ps) (hl : x.ps.length ≤ 4611686018427387904) : Calls Tryz.prog 97 #[.agg #[.string x.ty, I x.fr, I x.to, .slice pa pn pc], .string y.key, .agg #[I y.k, I y.a, I y.b, .string y.s]] W fun e W' => e = .returned (.bool (x.ps.any (pB y))) ∧ G W W' := by
  have hA : G W ((W.alloc (.cells #[.string x.ty, I x.fr, I x.to, .slice pa pn pc] 83)).alloc (.cells #[I y.k, I y.a, I y.b, .string y.s] 41)) := ((G.refl W).alloc _).alloc _
  have KI := hide (ctP_any y x.ps _ _ (h.G hA) hl)
  have HA := hide hA
  clear h hl hA
  go_enter Tryz.func97, Tryz.ntmps97
  go_wp2_with fail
  refine KI.out.mono ?_
  rintro e w' ⟨rfl, hg⟩
  have HG := hide (HA.out.trans hg)
  clear hg KI
  go_wp2_with fail
  go_ret
  exact ⟨rfl, HG.out⟩
/-- Which nodes Nodes and Find tell. -/
def viewB (label : ByteArray) (x : Ed) : Bool := label.toList.isEmpty || (x.ty.toList == label.toList)
def findB (label : ByteArray) (y : Pv) (x : Ed) : Bool := (x.ty.toList == label.toList) && x.ps.any (pB y)
set_option maxRecDepth 100000 in
set_option maxHeartbeats 1000000 in
theorem n1_any (label : ByteArray) (bx : Nat) (x : Ed) (pa : Option Addr) (pn pc : Nat) (W : World) (hb : Blk W bx 9 [.string label]) : Calls Tryz.prog 94 #[.agg #[.string x.ty, I x.fr, I x.to, .slice pa pn pc], ptr bx] W fun e W' => e = .returned (.bool (viewB label x)) ∧ G W W' := by
  have hA : G W (W.alloc (.cells #[.string x.ty, I x.fr, I x.to, .slice pa pn pc] 83)) := (G.refl W).alloc _
  have hb1 := (hb.G hA).cell
  have HA := hide hA
  clear hb hA
  cases h1 : label.toList.isEmpty with
  | true =>
    have HF : Hid (viewB label x = true) := by rw [Hid, viewB, h1]; rfl
    go_enter Tryz.func94, Tryz.ntmps94
    go_wp2_with fail
    go_ret
    exact ⟨by rw [HF.out] <;> rfl, HA.out⟩
  | false =>
    cases h2 : (x.ty.toList == label.toList) with
    | true =>
      have HF : Hid (viewB label x = true) := by rw [Hid, viewB, h1, h2]; rfl
      go_enter Tryz.func94, Tryz.ntmps94
      go_wp2_with fail
      go_ret
      exact ⟨by rw [HF.out] <;> rfl, HA.out⟩
    | false =>
      have HF : Hid (viewB label x = false) := by rw [Hid, viewB, h1, h2]; rfl
      go_enter Tryz.func94, Tryz.ntmps94
      go_wp2_with fail
      go_ret
      exact ⟨by rw [HF.out] <;> rfl, HA.out⟩
set_option maxRecDepth 100000 in
set_option maxHeartbeats 1000000 in
theorem f1_any (label : ByteArray) (y : Pv) (bx by_ bz : Nat) (x : Ed) (pa : Option Addr) (pn pc : Nat) (W : World) (h : Row eP.rel W (.slice pa pn pc) x.ps) (hl : x.ps.length ≤ 4611686018427387904) (hb : Blk W bx 9 [.string label]) (hb2 : Blk W by_ 9 [.string y.key]) (hb3 : Blk W bz 41 [I y.k, I y.a, I y.b, .string y.s]) : Calls Tryz.prog 96 #[.agg #[.string x.ty, I x.fr, I x.to, .slice pa pn pc], ptr bx, ptr by_, ptr bz] W fun e W' => e = .returned (.bool (findB label y x)) ∧ G W W' := by
  have hA : G W (W.alloc (.cells #[.string x.ty, I x.fr, I x.to, .slice pa pn pc] 83)) := (G.refl W).alloc _
  have c1 := (hb.G hA).cell
  have c2 := (hb2.G hA).cell
  have c3 := (hb3.G hA).cell
  have KI := hide (has_any x y pa pn pc _ (h.G hA) hl)
  have HA := hide hA
  clear hb hb2 hb3 hA h hl
  cases h2 : (x.ty.toList == label.toList) with
  | true =>
    have HF : Hid (findB label y x = x.ps.any (pB y)) := by rw [Hid, findB, h2]; rfl
    rw [HF.out]
    go_enter Tryz.func96, Tryz.ntmps96
    go_wp2_with fail
    refine KI.out.mono ?_
    rintro e w' ⟨rfl, hg⟩
    have HG := hide (HA.out.trans hg)
    clear hg KI
    go_wp2_with fail
    go_ret
    exact ⟨rfl, HG.out⟩
  | false =>
    have HF : Hid (findB label y x = false) := by rw [Hid, findB, h2]; rfl
    clear KI
    go_enter Tryz.func96, Tryz.ntmps96
    go_wp2_with fail
    go_ret
    exact ⟨by rw [HF.out] <;> rfl, HA.out⟩
set_option maxRecDepth 100000 in
set_option maxHeartbeats 4000000 in
theorem hp_any (y : Pv) (l : List Pv) (v : Value) (W : World) (h : Row eP.rel W v l) (hl : l.length ≤ 4611686018427387904) : Calls Tryz.prog 99 #[v, .string y.key, .agg #[I y.k, I y.a, I y.b, .string y.s]] W fun e W' => e = .returned (.bool (l.any (pB y))) ∧ G W W' := by
  obtain ⟨p, cap, rfl⟩ := h.form
  obtain ⟨w1, hw1⟩ : ∃ w1, w1 = W.alloc (.cells #[I y.k, I y.a, I y.b, .string y.s] 41) := ⟨_, rfl⟩
  have hg1 : G W w1 := by rw [hw1]; exact (G.refl W).alloc _
  have hb1 : Blk w1 W.heap.size 41 [I y.k, I y.a, I y.b, .string y.s] := by rw [hw1]; exact Blk.new W [I y.k, I y.a, I y.b, .string y.s] 41
  have HEW : Hid (W.alloc (.cells #[I y.k, I y.a, I y.b, .string y.s] 41) = w1) := hw1.symm
  have HA := hide h; have HL := hide hl; have HG2 := hide hg1; have HB := hide hb1
  clear h hl hg1 hb1 hw1
  go_enter Tryz.func99, Tryz.ntmps99
  go_wp2_with fail
  rw [HEW.out]
  go_loopw [7] (fun iv wr => ∃ i : Nat, iv = I i ∧ i ≤ l.length ∧ ((l.take i).any (pB y)) = false ∧ G w1 wr) (fun iv _ => l.length - (RowKit.intOf iv).toNat)
  case atStart => exact ⟨0, rfl, Nat.zero_le _, rfl, G.refl _⟩
  case round =>
    obtain ⟨i, rfl, hik, hno, hg⟩ := hrel
    by_cases hil : i < l.length
    · obtain ⟨x, hx⟩ : ∃ x, l[i]? = some x := ⟨_, List.getElem?_eq_getElem hil⟩
      obtain ⟨g, o, cp, q⟩ := HA.out.addr (by omega)
      injection q with q1 q2 q3
      subst q1 q3
      have x1 : wr.cell? ⟨g, o + i * 5, none⟩ = some (.string x.key) := by have := cell_G (HA.out.one hx 0 (u := .string x.key) rfl) (HG2.out.trans hg); simpa using this
      have x2 : wr.cell? ⟨g, o + i * 5 + 1, none⟩ = some (I x.k) := by have := cell_G (HA.out.one hx 1 (u := I x.k) rfl) (HG2.out.trans hg); simpa using this
      have x3 : wr.cell? ⟨g, o + i * 5 + 2, none⟩ = some (I x.a) := by have := cell_G (HA.out.one hx 2 (u := I x.a) rfl) (HG2.out.trans hg); simpa using this
      have x4 : wr.cell? ⟨g, o + i * 5 + 3, none⟩ = some (I x.b) := by have := cell_G (HA.out.one hx 3 (u := I x.b) rfl) (HG2.out.trans hg); simpa using this
      have x5 : wr.cell? ⟨g, o + i * 5 + 4, none⟩ = some (.string x.s) := by have := cell_G (HA.out.one hx 4 (u := .string x.s) rfl) (HG2.out.trans hg); simpa using this
      have i1 : (i : Int) < l.length := Int.ofNat_lt.2 hil
      have hb := (HB.out.G hg).cell
      have HW : Hid (wrap64 ((i : Int) + 1) = (i : Int) + 1) := by show _ = _; have := HL.out; unfold wrap64; omega
      have HIL := hide hil; have HG := hide hg; have HX := hide hx; have HNO := hide hno
      clear hik hil hx q2 hg hno
      cases hk : (x.key.toList == y.key.toList) with
      | false =>
        have hpx : pB y x = false := by rw [pB_sw, pB, hk]; rfl
        have HF : Hid (((l.take (i + 1)).any (pB y)) = false) := by
          rw [Hid, List.take_add_one, HX.out, List.any_append, HNO.out]
          simp [hpx]
        clear hpx
        go_wp2_with fail
        go_quiet (fail)
        generalize hV : World.drewN wr _ = V
        have HGV : Hid (G w1 V) := by rw [← hV]; exact HG.out.drewN _
        clear hV x1 x2 x3 x4 x5 hb
        go_wp2_with fail
        exact ⟨⟨i + 1, by rw [HW.out]; exact srl i, HIL.out, HF.out, HGV.out⟩, by rw [HW.out]; exact sms HIL.out⟩
      | true =>
        cases hv : vB x y with
        | false =>
          have hpx : pB y x = false := by rw [pB_sw, pB, hk, hv]; rfl
          have HF : Hid (((l.take (i + 1)).any (pB y)) = false) := by
            rw [Hid, List.take_add_one, HX.out, List.any_append, HNO.out]
            simp [hpx]
          have hEQ : ∀ V, (binOp .eql 41 (.agg #[I x.k, I x.a, I x.b, .string x.s]) (.agg #[I y.k, I y.a, I y.b, .string y.s])).run Tryz.prog V = .ok (.bool false) V := fun V => by rw [eqVP, hv]
          clear hpx hv
          go_wp2_with fail
          go_quiet (fail)
          generalize hV : World.drewN wr _ = V
          have HGV : Hid (G w1 V) := by rw [← hV]; exact HG.out.drewN _
          clear hV x1 x2 x3 x4 x5 hb
          go_wp2_with fail
          exact ⟨⟨i + 1, by rw [HW.out]; exact srl i, HIL.out, HF.out, HGV.out⟩, by rw [HW.out]; exact sms HIL.out⟩
        | true =>
          have hpx : pB y x = true := by rw [pB_sw, pB, hk, hv]; rfl
          have HF : Hid ((l.any (pB y)) = true) := by
            rw [Hid, List.any_eq_true]
            exact ⟨x, List.mem_of_getElem? HX.out, hpx⟩
          have hEQ : ∀ V, (binOp .eql 41 (.agg #[I x.k, I x.a, I x.b, .string x.s]) (.agg #[I y.k, I y.a, I y.b, .string y.s])).run Tryz.prog V = .ok (.bool true) V := fun V => by rw [eqVP, hv]
          clear hpx hv
          go_wp2_with fail
          go_quiet (fail)
          generalize hV : World.drewN wr _ = V
          have HGV : Hid (G w1 V) := by rw [← hV]; exact HG.out.drewN _
          clear hV x1 x2 x3 x4 x5 hb
          go_wp2_with fail
          go_ret
          exact ⟨by rw [HF.out] <;> rfl, HG2.out.trans HGV.out⟩
    · have i1 : ¬ ((i : Int) < l.length) := by omega
      have HF : Hid ((l.any (pB y)) = false) := by rw [Hid, ← hno, List.take_of_length_le (by omega)]
      have HG := hide hg
      clear hik hil hno hg
      go_wp2_with fail
      go_ret
      exact ⟨by rw [HF.out] <;> rfl, HG2.out.trans HG.out⟩
end Go.Proofs.YtifioikdhfhljaaGreatDoor
