/- Rules: has a form that property? are these just its properties? -/
import Derived.Test.YtifioikdhfhljaaGreatDoorRu2
namespace Go.Proofs.YtifioikdhfhljaaGreatDoor
open Go.RowKit

def hasB (fk fi fe fn : Bool) (key : ByteArray) : Bool := if key.toList = [107, 101, 121] then fk else if key.toList = [116, 121, 112, 101] then fi else if key.toList = [102, 114, 111, 109] then fe else if key.toList = [116, 111] then fe else if key.toList = [110] then fn else true
set_option maxRecDepth 100000 in
set_option maxHeartbeats 4000000 in
theorem has_f (fw : ByteArray) (fp : Int) (fk fi fe fn : Bool) (key : ByteArray) (W : World) : Calls Tryz.prog 138 #[.agg #[.string fw, I fp, .bool fk, .bool fi, .bool fe, .bool fn], .string key] W fun e W' => e = .returned (.bool (hasB fk fi fe fn key)) ∧ G W W' := by
  have HG : Hid (G W (W.alloc (.cells #[.string fw, I fp, .bool fk, .bool fi, .bool fe, .bool fn] 146))) := (G.refl W).alloc _
  by_cases h0 : key.toList = [107, 101, 121]
  · have HF : Hid (hasB fk fi fe fn key = fk) := by
      rw [Hid, hasB]
      simp only [if_pos h0]
    have e0 : (key.toList == [107, 101, 121]) = true := by rw [h0]; decide
    have e1 : (key.toList == [116, 121, 112, 101]) = false := by rw [h0]; decide
    have e2 : (key.toList == [102, 114, 111, 109]) = false := by rw [h0]; decide
    have e3 : (key.toList == [116, 111]) = false := by rw [h0]; decide
    have e4 : (key.toList == [110]) = false := by rw [h0]; decide
    clear h0
    go_enter Tryz.func138, Tryz.ntmps138
    go_wp2_with fail
    go_ret
    exact ⟨by rw [HF.out] <;> rfl, HG.out⟩
  by_cases h1 : key.toList = [116, 121, 112, 101]
  · have HF : Hid (hasB fk fi fe fn key = fi) := by
      rw [Hid, hasB]
      simp only [if_neg h0, if_pos h1]
    have e0 : (key.toList == [107, 101, 121]) = false := by rw [h1]; decide
    have e1 : (key.toList == [116, 121, 112, 101]) = true := by rw [h1]; decide
    have e2 : (key.toList == [102, 114, 111, 109]) = false := by rw [h1]; decide
    have e3 : (key.toList == [116, 111]) = false := by rw [h1]; decide
    have e4 : (key.toList == [110]) = false := by rw [h1]; decide
    clear h0 h1
    go_enter Tryz.func138, Tryz.ntmps138
    go_wp2_with fail
    go_ret
    exact ⟨by rw [HF.out] <;> rfl, HG.out⟩
  by_cases h2 : key.toList = [102, 114, 111, 109]
  · have HF : Hid (hasB fk fi fe fn key = fe) := by
      rw [Hid, hasB]
      simp only [if_neg h0, if_neg h1, if_pos h2]
    have e0 : (key.toList == [107, 101, 121]) = false := by rw [h2]; decide
    have e1 : (key.toList == [116, 121, 112, 101]) = false := by rw [h2]; decide
    have e2 : (key.toList == [102, 114, 111, 109]) = true := by rw [h2]; decide
    have e3 : (key.toList == [116, 111]) = false := by rw [h2]; decide
    have e4 : (key.toList == [110]) = false := by rw [h2]; decide
    clear h0 h1 h2
    go_enter Tryz.func138, Tryz.ntmps138
    go_wp2_with fail
    go_ret
    exact ⟨by rw [HF.out] <;> rfl, HG.out⟩
  by_cases h3 : key.toList = [116, 111]
  · have HF : Hid (hasB fk fi fe fn key = fe) := by
      rw [Hid, hasB]
      simp only [if_neg h0, if_neg h1, if_neg h2, if_pos h3]
    have e0 : (key.toList == [107, 101, 121]) = false := by rw [h3]; decide
    have e1 : (key.toList == [116, 121, 112, 101]) = false := by rw [h3]; decide
    have e2 : (key.toList == [102, 114, 111, 109]) = false := by rw [h3]; decide
    have e3 : (key.toList == [116, 111]) = true := by rw [h3]; decide
    have e4 : (key.toList == [110]) = false := by rw [h3]; decide
    clear h0 h1 h2 h3
    go_enter Tryz.func138, Tryz.ntmps138
    go_wp2_with fail
    go_ret
    exact ⟨by rw [HF.out] <;> rfl, HG.out⟩
  by_cases h4 : key.toList = [110]
  · have HF : Hid (hasB fk fi fe fn key = fn) := by
      rw [Hid, hasB]
      simp only [if_neg h0, if_neg h1, if_neg h2, if_neg h3, if_pos h4]
    have e0 : (key.toList == [107, 101, 121]) = false := by rw [h4]; decide
    have e1 : (key.toList == [116, 121, 112, 101]) = false := by rw [h4]; decide
    have e2 : (key.toList == [102, 114, 111, 109]) = false := by rw [h4]; decide
    have e3 : (key.toList == [116, 111]) = false := by rw [h4]; decide
    have e4 : (key.toList == [110]) = true := by rw [h4]; decide
    clear h0 h1 h2 h3 h4
    go_enter Tryz.func138, Tryz.ntmps138
    go_wp2_with fail
    go_ret
    exact ⟨by rw [HF.out] <;> rfl, HG.out⟩
  have HF : Hid (hasB fk fi fe fn key = true) := by
    rw [Hid, hasB]
    simp only [if_neg h0, if_neg h1, if_neg h2, if_neg h3, if_neg h4]
  have e0 : (key.toList == [107, 101, 121]) = false := beq_false_of_ne h0
  have e1 : (key.toList == [116, 121, 112, 101]) = false := beq_false_of_ne h1
  have e2 : (key.toList == [102, 114, 111, 109]) = false := beq_false_of_ne h2
  have e3 : (key.toList == [116, 111]) = false := beq_false_of_ne h3
  have e4 : (key.toList == [110]) = false := beq_false_of_ne h4
  clear h0 h1 h2 h3 h4
  go_enter Tryz.func138, Tryz.ntmps138
  go_wp2_with fail
  go_ret
  exact ⟨by rw [HF.out] <;> rfl, HG.out⟩
set_option maxRecDepth 100000 in
set_option maxHeartbeats 1000000 in
theorem ia1_any (fw : ByteArray) (fp : Int) (fk fi fe fn : Bool) (bx : Nat) (p : Pv) (W : World) (hb : Blk W bx 146 [.string fw, I fp, .bool fk, .bool fi, .bool fe, .bool fn]) : Calls Tryz.prog 137 #[.agg #[.string p.key, I p.k, I p.a, I p.b, .string p.s], ptr bx] W fun e W' => e = .returned (.bool (!hasB fk fi fe fn p.key)) ∧ G W W' := by
  have hA : G W (W.alloc (.cells #[.string p.key, I p.k, I p.a, I p.b, .string p.s] 101)) := (G.refl W).alloc _
  have K := hide (has_f fw fp fk fi fe fn p.key (W.alloc (.cells #[.string p.key, I p.k, I p.a, I p.b, .string p.s] 101)))
  have c1 := (hb.G hA).cell
  have c2 := (Blk.new W [.string p.key, I p.k, I p.a, I p.b, .string p.s] 101).cell
  have HA := hide hA
  clear hb hA
  generalize hasB fk fi fe fn p.key = bb at K ⊢
  go_enter Tryz.func137, Tryz.ntmps137
  go_wp2_with fail
  refine K.out.mono ?_
  rintro e w' ⟨rfl, hg⟩
  have HG := hide (HA.out.trans hg)
  clear hg K c1 c2
  go_wp2_with fail
  go_ret
  exact ⟨rfl, HG.out⟩
theorem retF (tmps : Array Value) (W : World) (rb : Nat) (cs : List Value) (b : Bool) (hp : tmps.getD 4 undef = .pointer (some ⟨rb, 0, none⟩)) (hc : tmps.getD 5 undef = .bool b) (hr : Blk W rb 101 cs) (hl : cs.length = 5) :
    (results Tryz.f136 tmps).run Tryz.prog W = .ok (.tuple #[.agg cs.toArray, .bool b]) W := by
  rw [results_cell_tmp Tryz.results136, hp, hc]
  have h := run_loadVar_mid (P := Tryz.prog) W rb 0 101 cs _ (by have := hr.range 0 5; rw [List.drop_zero, List.take_of_length_le (by omega)] at this; exact this) Tryz.underlying101 rfl (by rw [hl]; kernel_rfl)
  simp only [asAddr, Sem.run_pure, Result.andThen_ok, h]
set_option maxRecDepth 100000 in
set_option maxHeartbeats 4000000 in
theorem firstP_any (fw : ByteArray) (fp : Int) (fk fi fe fn : Bool) (bx : Nat) (l : List Pv) (v : Value) (W : World) (h : Row eP.rel W v l) (hb : Blk W bx 146 [.string fw, I fp, .bool fk, .bool fi, .bool fe, .bool fn]) (hl : l.length ≤ 4611686018427387904) :
    Calls Tryz.prog 136 #[v, .func (.func 137) #[] #[ptr bx]] W fun e W' => (∃ q : Pv, e = .returned (.tuple #[.agg #[.string q.key, I q.k, I q.a, I q.b, .string q.s], .bool (l.any fun x => !hasB fk fi fe fn x.key)])) ∧ G W W' := by
  obtain ⟨pa, cap, rfl⟩ := h.form
  obtain ⟨rb, hrb⟩ : ∃ rb, rb = W.heap.size := ⟨_, rfl⟩
  obtain ⟨w1, hw1⟩ : ∃ w1, w1 = W.alloc (.cells #[.string { data := #[] }, I 0, I 0, I 0, .string { data := #[] }] 101) := ⟨_, rfl⟩
  have hg1 : G W w1 := by rw [hw1]; exact (G.refl W).alloc _
  have hb1 : Blk w1 rb 101 [.string { data := #[] }, I 0, I 0, I 0, .string { data := #[] }] := by rw [hw1, hrb]; exact Blk.new W [.string { data := #[] }, I 0, I 0, I 0, .string { data := #[] }] 101
  have HEW : Hid (W.alloc (.cells #[.string { data := #[] }, I 0, I 0, I 0, .string { data := #[] }] 101) = w1) := hw1.symm
  have HE1 : Hid (W.heap.size = rb) := hrb.symm
  have HRB : Hid (W.heap.size ≤ rb) := by show _ ≤ _; omega
  have HA := hide h; have HL := hide hl; have HGW := hide hg1; have HB1 := hide hb1; have HBX := hide (hb.G hg1)
  clear h hl hg1 hb1 hb hw1 hrb
  go_enter Tryz.func136, Tryz.ntmps136
  go_wp2_with (first | (rw [HEW.out]; (try rw [HE1.out]); clear HEW) | fail)
  try rw [HEW.out]
  try rw [HE1.out]
  go_loopw [11, 7] (fun iv _ wr => ∃ i : Nat, iv = I i ∧ i ≤ l.length ∧ ((l.take i).any fun x => !hasB fk fi fe fn x.key) = false ∧ G w1 wr) (fun iv _ _ => l.length - (RowKit.intOf iv).toNat)
  case atStart => exact ⟨0, rfl, Nat.zero_le _, rfl, G.refl _⟩
  case round =>
    obtain ⟨i, rfl, hik, hno, hg⟩ := hrel
    by_cases hil : i < l.length
    · obtain ⟨x, hx⟩ : ∃ x, l[i]? = some x := ⟨_, List.getElem?_eq_getElem hil⟩
      obtain ⟨g, o, cp, q⟩ := HA.out.addr (by omega)
      injection q with q1 q2 q3
      subst q1 q3
      have x1 : wr.cell? ⟨g, o + i * 5, none⟩ = some (.string x.key) := by have := cell_G (HA.out.one hx 0 (u := .string x.key) rfl) (HGW.out.trans hg); simpa using this
      have x2 : wr.cell? ⟨g, o + i * 5 + 1, none⟩ = some (I x.k) := by have := cell_G (HA.out.one hx 1 (u := I x.k) rfl) (HGW.out.trans hg); simpa using this
      have x3 : wr.cell? ⟨g, o + i * 5 + 2, none⟩ = some (I x.a) := by have := cell_G (HA.out.one hx 2 (u := I x.a) rfl) (HGW.out.trans hg); simpa using this
      have x4 : wr.cell? ⟨g, o + i * 5 + 3, none⟩ = some (I x.b) := by have := cell_G (HA.out.one hx 3 (u := I x.b) rfl) (HGW.out.trans hg); simpa using this
      have x5 : wr.cell? ⟨g, o + i * 5 + 4, none⟩ = some (.string x.s) := by have := cell_G (HA.out.one hx 4 (u := .string x.s) rfl) (HGW.out.trans hg); simpa using this
      have i1 : (i : Int) < l.length := Int.ofNat_lt.2 hil
      have HW : Hid (wrap64 ((i : Int) + 1) = (i : Int) + 1) := by show _ = _; have := HL.out; unfold wrap64; omega
      obtain ⟨w2, hw2⟩ : ∃ w2, w2 = wr.alloc (.cells #[.string x.key, I x.k, I x.a, I x.b, .string x.s] 101) := ⟨_, rfl⟩
      obtain ⟨B7, hB7⟩ : ∃ B7, B7 = wr.heap.size := ⟨_, rfl⟩
      have hg2 : G wr w2 := by rw [hw2]; exact (G.refl wr).alloc _
      have hb7 : Blk w2 B7 101 [.string x.key, I x.k, I x.a, I x.b, .string x.s] := by rw [hw2, hB7]; exact Blk.new wr [.string x.key, I x.k, I x.a, I x.b, .string x.s] 101
      have HEX : Hid (wr.alloc (.cells #[.string x.key, I x.k, I x.a, I x.b, .string x.s] 101) = w2) := hw2.symm
      have HE7 : Hid (wr.heap.size = B7) := hB7.symm
      have KI := hide (ia1_any fw fp fk fi fe fn bx x w2 ((HBX.out.G hg).G hg2))
      have c7 := hb7.cell
      have HB7 := hide hb7
      have HIL := hide hil; have HX := hide hx; have HNO := hide hno
      have HG12 := hide (hg.trans hg2)
      have HB12 := hide ((HB1.out.G hg).G hg2)
      clear hik hil hx q2 hg hno hw2 hB7 hg2 hb7
      cases hpx : hasB fk fi fe fn x.key with
      | true =>
        rw [hpx] at KI
        have HF : Hid (((l.take (i + 1)).any fun x => !hasB fk fi fe fn x.key) = false) := by
          rw [Hid, List.take_add_one, HX.out, List.any_append, HNO.out]
          simp [hpx]
        clear hpx
        go_wp2_with (first | (rw [HEX.out]; (try rw [HE7.out]); clear HEX) | fail)
        try rw [HEX.out]
        try rw [HE7.out]
        refine KI.out.mono ?_
        rintro e w3 ⟨rfl, hg3⟩
        have HG3 := hide (HG12.out.trans hg3)
        clear hg3 KI x1 x2 x3 x4 x5 c7
        go_wp2_with fail
        exact ⟨⟨i + 1, by rw [HW.out]; exact srl i, HIL.out, HF.out, HG3.out⟩, by rw [HW.out]; exact sms HIL.out⟩
      | false =>
        rw [hpx] at KI
        have HF : Hid ((l.any fun x => !hasB fk fi fe fn x.key) = true) := by
          rw [Hid, List.any_eq_true]
          exact ⟨x, List.mem_of_getElem? HX.out, by rw [hpx]; rfl⟩
        clear hpx
        go_wp2_with (first | (rw [HEX.out]; (try rw [HE7.out]); clear HEX) | fail)
        try rw [HEX.out]
        try rw [HE7.out]
        refine KI.out.mono ?_
        rintro e w3 ⟨rfl, hg3⟩
        have hr3 := HB12.out.G hg3
        have c8 := (HB7.out.G hg3).cell
        have c9 := hr3.cell
        have z9 := hr3.frozen
        have HC9 := hide (((((hr3.set 0 (.string x.key)).set 1 (I x.k)).set 2 (I x.a)).set 3 (I x.b)).set 4 (.string x.s))
        have HG9 : Hid (G W (((((w3.setCell ⟨rb, 0, none⟩ (.string x.key)).setCell ⟨rb, 1, none⟩ (I x.k)).setCell ⟨rb, 2, none⟩ (I x.a)).setCell ⟨rb, 3, none⟩ (I x.b)).setCell ⟨rb, 4, none⟩ (.string x.s))) := ((((((HGW.out.trans (HG12.out.trans hg3)).setCell HRB.out (.string x.key)).setCell HRB.out (I x.k)).setCell HRB.out (I x.a)).setCell HRB.out (I x.b)).setCell HRB.out (.string x.s))
        clear hg3 hr3 KI x1 x2 x3 x4 x5 c7
        go_wp2_with fail
        exact bodyPost_ret_by (v := .tuple #[.agg #[.string x.key, I x.k, I x.a, I x.b, .string x.s], .bool true]) (retF _ _ rb _ true rfl rfl HC9.out rfl) rfl ⟨⟨x, by rw [HF.out]⟩, HG9.out⟩
    · have i1 : ¬ ((i : Int) < l.length) := by omega
      have HF : Hid ((l.any fun x => !hasB fk fi fe fn x.key) = false) := by rw [Hid, ← hno, List.take_of_length_le (by omega)]
      obtain ⟨w2, hw2⟩ : ∃ w2, w2 = wr.alloc (.cells #[.string { data := #[] }, I 0, I 0, I 0, .string { data := #[] }] 101) := ⟨_, rfl⟩
      have hg2 : G wr w2 := by rw [hw2]; exact (G.refl wr).alloc _
      have hr3 := (HB1.out.G hg).G hg2
      have hz3 : Blk w2 wr.heap.size 101 [.string { data := #[] }, I 0, I 0, I 0, .string { data := #[] }] := by rw [hw2]; exact Blk.new wr [.string { data := #[] }, I 0, I 0, I 0, .string { data := #[] }] 101
      have HEX : Hid (wr.alloc (.cells #[.string { data := #[] }, I 0, I 0, I 0, .string { data := #[] }] 101) = w2) := hw2.symm
      have c8 := hz3.cell
      have c9 := hr3.cell
      have z9 := hr3.frozen
      have HC9 := hide (((((hr3.set 0 (.string { data := #[] })).set 1 (I 0)).set 2 (I 0)).set 3 (I 0)).set 4 (.string { data := #[] }))
      have HG9 : Hid (G W (((((w2.setCell ⟨rb, 0, none⟩ (.string { data := #[] })).setCell ⟨rb, 1, none⟩ (I 0)).setCell ⟨rb, 2, none⟩ (I 0)).setCell ⟨rb, 3, none⟩ (I 0)).setCell ⟨rb, 4, none⟩ (.string { data := #[] }))) := ((((((HGW.out.trans (hg.trans hg2)).setCell HRB.out (.string { data := #[] })).setCell HRB.out (I 0)).setCell HRB.out (I 0)).setCell HRB.out (I 0)).setCell HRB.out (.string { data := #[] }))
      clear hik hil hno hg hw2 hg2 hr3 hz3
      go_wp2_with (first | (rw [HEX.out]; clear HEX) | fail)
      exact bodyPost_ret_by (v := .tuple #[.agg #[.string { data := #[] }, I 0, I 0, I 0, .string { data := #[] }], .bool false]) (retF _ _ rb _ false rfl rfl HC9.out rfl) rfl ⟨⟨⟨{ data := #[] }, 0, 0, 0, { data := #[] }⟩, by rw [HF.out]⟩, HG9.out⟩
/-- Are these just the properties of the form? -/
def allB (fp : Int) (fk fi fe fn : Bool) (l : List Pv) : Bool := ((l.length : Int) == fp) && !(l.any fun x => !hasB fk fi fe fn x.key)
set_option maxRecDepth 100000 in
set_option maxHeartbeats 4000000 in
theorem isAll_any (fw : ByteArray) (fp : Int) (fk fi fe fn : Bool) (l : List Pv) (v : Value) (W : World) (h : Row eP.rel W v l) (hl : l.length ≤ 4611686018427387904) : Calls Tryz.prog 103 #[.agg #[.string fw, I fp, .bool fk, .bool fi, .bool fe, .bool fn], v] W fun e W' => e = .returned (.bool (allB fp fk fi fe fn l)) ∧ G W W' := by
  obtain ⟨pa, cap, rfl⟩ := h.form
  obtain ⟨bx, hbx⟩ : ∃ bx, bx = W.heap.size := ⟨_, rfl⟩
  obtain ⟨w1, hw1⟩ : ∃ w1, w1 = (W.alloc (.cells #[.string fw, I fp, .bool fk, .bool fi, .bool fe, .bool fn] 146)) := ⟨_, rfl⟩
  have hg1 : G W w1 := by rw [hw1]; exact (G.refl W).alloc _
  have hb1 : Blk w1 bx 146 [.string fw, I fp, .bool fk, .bool fi, .bool fe, .bool fn] := by rw [hw1, hbx]; exact Blk.new W [.string fw, I fp, .bool fk, .bool fi, .bool fe, .bool fn] 146
  have HEW : Hid ((W.alloc (.cells #[.string fw, I fp, .bool fk, .bool fi, .bool fe, .bool fn] 146)) = w1) := hw1.symm
  have HE1 : Hid (W.heap.size = bx) := hbx.symm
  have KI := hide (firstP_any fw fp fk fi fe fn bx l _ w1 (h.G hg1) hb1 hl)
  obtain ⟨n, hn⟩ : ∃ n, n = l.length := ⟨_, rfl⟩
  rw [← hn] at KI ⊢
  obtain ⟨bb, hbb⟩ : ∃ bb, bb = l.any fun x => !hasB fk fi fe fn x.key := ⟨_, rfl⟩
  rw [← hbb] at KI
  have HF : Hid (allB fp fk fi fe fn l = (((n : Int) == fp) && !bb)) := by rw [Hid, allB, hn, hbb]
  have HG1 := hide hg1; have HB1 := hide hb1
  clear h hl hg1 hb1 hw1 hbx hn hbb
  by_cases hnp : (n : Int) = fp
  · have HF2 : Hid (allB fp fk fi fe fn l = !bb) := by rw [Hid, HF.out, hnp]; simp
    have e1 : ((n : Int) == fp) = true := by simp [hnp]
    have HNP := hide hnp
    clear hnp HF
    go_enter Tryz.func103, Tryz.ntmps103
    go_wp2_with (first | (rw [HEW.out]; (try rw [HE1.out]); clear HEW) | fail)
    try rw [HEW.out]
    try rw [HE1.out]
    refine KI.out.mono ?_
    rintro e w2 ⟨⟨q, rfl⟩, hg2⟩
    have hgA : G w2 (w2.alloc (.cells #[.string q.key, I q.k, I q.a, I q.b, .string q.s] 101)) := (G.refl w2).alloc _
    have c1 := ((HB1.out.G hg2).G hgA).cell
    have HG2 := hide (HG1.out.trans (hg2.trans hgA))
    clear hg2 KI hgA
    go_wp2_with fail
    go_ret
    exact ⟨by rw [HF2.out] <;> rfl, HG2.out⟩
  · have HF2 : Hid (allB fp fk fi fe fn l = false) := by rw [Hid, HF.out, beq_false_of_ne hnp]; rfl
    have e1 : ((n : Int) == fp) = false := beq_false_of_ne hnp
    clear HF
    go_enter Tryz.func103, Tryz.ntmps103
    go_wp2_with (first | (rw [HEW.out]; (try rw [HE1.out]); clear HEW) | fail)
    try rw [HEW.out]
    try rw [HE1.out]
    refine KI.out.mono ?_
    rintro e w2 ⟨⟨q, rfl⟩, hg2⟩
    have hgA : G w2 (w2.alloc (.cells #[.string q.key, I q.k, I q.a, I q.b, .string q.s] 101)) := (G.refl w2).alloc _
    have c1 := ((HB1.out.G hg2).G hgA).cell
    have HG2 := hide (HG1.out.trans (hg2.trans hgA))
    clear hg2 KI hgA
    go_wp2_with fail
    go_ret
    exact ⟨by rw [HF2.out] <;> rfl, HG2.out⟩
end Go.Proofs.YtifioikdhfhljaaGreatDoor
