/- Graphs: what was asked. -/
import Derived.Test.YtifioikdhfhljaaGreatDoorSh10
namespace Go.Proofs.YtifioikdhfhljaaGreatDoor
open Go.RowKit

/-- What was asked. -/
structure As where
  what : Int
  id : Int
  label : ByteArray
  key : ByteArray
  k : Int
  a : Int
  b : Int
  s : ByteArray
  lv : Int
  lb : ByteArray
  rid : Int
  md : Int
abbrev eA : Enc As := ⟨fun x => [I x.what, I x.id, .string x.label, .string x.key, I x.k, I x.a, I x.b, .string x.s, I x.lv, .string x.lb, I x.rid, I x.md], 12, fun _ => rfl, fun _ u hu => by simp at hu; rcases hu with rfl | rfl | rfl | rfl | rfl | rfl | rfl | rfl | rfl | rfl | rfl | rfl <;> rfl⟩
theorem info_A : ∃ i, Tryz.prog.info? 49 = some i ∧ i.zero = some (.agg #[I 0, I 0, .string { data := #[] }, .string { data := #[] }, I 0, I 0, I 0, .string { data := #[] }, I 0, .string { data := #[] }, I 0, I 0]) ∧ i.size = 12 ∧ i.bytes = 128 := info_parts (by kernel_rfl)
set_option maxRecDepth 100000 in
set_option maxHeartbeats 1000000 in
theorem sids_any (l : List Int) (u v : Value) (W : World) (h1 : Row eI.rel W u l) (h2 : Row eI.rel W v l) (hl : l.length ≤ 4611686018427387904) : Calls Tryz.prog 53 #[u, v] W fun e W' => e = .returned (.bool true) ∧ G W W' := by
  obtain ⟨p, cap, rfl⟩ := h1.form
  obtain ⟨p', cap', rfl⟩ := h2.form
  have HA := hide h1; have HB := hide h2; have HL := hide hl
  clear h1 h2 hl
  go_enter Tryz.func53, Tryz.ntmps53
  go_wp2_with fail
  go_loopw [5] (fun iv wr => ∃ i : Nat, iv = I i ∧ i ≤ l.length ∧ G W wr) (fun iv _ => l.length - (RowKit.intOf iv).toNat)
  case atStart => exact ⟨0, rfl, Nat.zero_le _, G.refl _⟩
  case round =>
    obtain ⟨i, rfl, hik, hg⟩ := hrel
    by_cases hil : i < l.length
    · obtain ⟨x, hx⟩ : ∃ x, l[i]? = some x := ⟨_, List.getElem?_eq_getElem hil⟩
      obtain ⟨g, o, cp, q⟩ := HA.out.addr (by omega)
      obtain ⟨g2, o2, cp2, q'⟩ := HB.out.addr (by omega)
      injection q with q1 q2 q3
      injection q' with q1' q2' q3'
      subst q1 q1' q3 q3'
      have x1 : wr.cell? ⟨g, o + i, none⟩ = some (I x) := by have := cell_G (HA.out.one hx 0 (u := I x) rfl) hg; simpa using this
      have y1 : wr.cell? ⟨g2, o2 + i, none⟩ = some (I x) := by have := cell_G (HB.out.one hx 0 (u := I x) rfl) hg; simpa using this
      have i1 : (i : Int) < l.length := Int.ofNat_lt.2 hil
      have HW : Hid (wrap64 ((i : Int) + 1) = (i : Int) + 1) := by show _ = _; have := HL.out; unfold wrap64; omega
      have HIL := hide hil; have HG := hide hg
      clear hik hil hx q2 q2' hg
      go_wp2_with fail
      go_quiet (fail)
      generalize hV : World.drewN wr _ = V
      have HGV : Hid (G W V) := by rw [← hV]; exact HG.out.drewN _
      clear hV x1 y1
      go_wp2_with fail
      exact ⟨⟨i + 1, by rw [HW.out]; exact srl i, HIL.out, HGV.out⟩, by rw [HW.out]; exact sms HIL.out⟩
    · have i1 : ¬ ((i : Int) < l.length) := by omega
      have HG := hide hg
      clear hik hil hg
      go_wp2_with fail
      go_ret
      exact ⟨rfl, HG.out⟩
set_option maxRecDepth 100000 in
set_option maxHeartbeats 1000000 in
theorem sasked_any (l : List As) (u v : Value) (W : World) (h1 : Row eA.rel W u l) (h2 : Row eA.rel W v l) (hl : l.length ≤ 4611686018427387904) : Calls Tryz.prog 19 #[u, v] W fun e W' => e = .returned (.bool true) ∧ G W W' := by
  obtain ⟨p, cap, rfl⟩ := h1.form
  obtain ⟨p', cap', rfl⟩ := h2.form
  have HA := hide h1; have HB := hide h2; have HL := hide hl
  clear h1 h2 hl
  go_enter Tryz.func19, Tryz.ntmps19
  go_wp2_with fail
  go_loopw [5] (fun iv wr => ∃ i : Nat, iv = I i ∧ i ≤ l.length ∧ G W wr) (fun iv _ => l.length - (RowKit.intOf iv).toNat)
  case atStart => exact ⟨0, rfl, Nat.zero_le _, G.refl _⟩
  case round =>
    obtain ⟨i, rfl, hik, hg⟩ := hrel
    by_cases hil : i < l.length
    · obtain ⟨x, hx⟩ : ∃ x, l[i]? = some x := ⟨_, List.getElem?_eq_getElem hil⟩
      obtain ⟨g, o, cp, q⟩ := HA.out.addr (by omega)
      obtain ⟨g2, o2, cp2, q'⟩ := HB.out.addr (by omega)
      injection q with q1 q2 q3
      injection q' with q1' q2' q3'
      subst q1 q1' q3 q3'
      have x1 : wr.cell? ⟨g, o + i * 12, none⟩ = some (I x.what) := by have := cell_G (HA.out.one hx 0 (u := I x.what) rfl) hg; simpa using this
      have y1 : wr.cell? ⟨g2, o2 + i * 12, none⟩ = some (I x.what) := by have := cell_G (HB.out.one hx 0 (u := I x.what) rfl) hg; simpa using this
      have x2 : wr.cell? ⟨g, o + i * 12 + 1, none⟩ = some (I x.id) := by have := cell_G (HA.out.one hx 1 (u := I x.id) rfl) hg; simpa using this
      have y2 : wr.cell? ⟨g2, o2 + i * 12 + 1, none⟩ = some (I x.id) := by have := cell_G (HB.out.one hx 1 (u := I x.id) rfl) hg; simpa using this
      have x3 : wr.cell? ⟨g, o + i * 12 + 2, none⟩ = some (.string x.label) := by have := cell_G (HA.out.one hx 2 (u := .string x.label) rfl) hg; simpa using this
      have y3 : wr.cell? ⟨g2, o2 + i * 12 + 2, none⟩ = some (.string x.label) := by have := cell_G (HB.out.one hx 2 (u := .string x.label) rfl) hg; simpa using this
      have x4 : wr.cell? ⟨g, o + i * 12 + 3, none⟩ = some (.string x.key) := by have := cell_G (HA.out.one hx 3 (u := .string x.key) rfl) hg; simpa using this
      have y4 : wr.cell? ⟨g2, o2 + i * 12 + 3, none⟩ = some (.string x.key) := by have := cell_G (HB.out.one hx 3 (u := .string x.key) rfl) hg; simpa using this
      have x5 : wr.cell? ⟨g, o + i * 12 + 4, none⟩ = some (I x.k) := by have := cell_G (HA.out.one hx 4 (u := I x.k) rfl) hg; simpa using this
      have y5 : wr.cell? ⟨g2, o2 + i * 12 + 4, none⟩ = some (I x.k) := by have := cell_G (HB.out.one hx 4 (u := I x.k) rfl) hg; simpa using this
      have x6 : wr.cell? ⟨g, o + i * 12 + 5, none⟩ = some (I x.a) := by have := cell_G (HA.out.one hx 5 (u := I x.a) rfl) hg; simpa using this
      have y6 : wr.cell? ⟨g2, o2 + i * 12 + 5, none⟩ = some (I x.a) := by have := cell_G (HB.out.one hx 5 (u := I x.a) rfl) hg; simpa using this
      have x7 : wr.cell? ⟨g, o + i * 12 + 6, none⟩ = some (I x.b) := by have := cell_G (HA.out.one hx 6 (u := I x.b) rfl) hg; simpa using this
      have y7 : wr.cell? ⟨g2, o2 + i * 12 + 6, none⟩ = some (I x.b) := by have := cell_G (HB.out.one hx 6 (u := I x.b) rfl) hg; simpa using this
      have x8 : wr.cell? ⟨g, o + i * 12 + 7, none⟩ = some (.string x.s) := by have := cell_G (HA.out.one hx 7 (u := .string x.s) rfl) hg; simpa using this
      have y8 : wr.cell? ⟨g2, o2 + i * 12 + 7, none⟩ = some (.string x.s) := by have := cell_G (HB.out.one hx 7 (u := .string x.s) rfl) hg; simpa using this
      have x9 : wr.cell? ⟨g, o + i * 12 + 8, none⟩ = some (I x.lv) := by have := cell_G (HA.out.one hx 8 (u := I x.lv) rfl) hg; simpa using this
      have y9 : wr.cell? ⟨g2, o2 + i * 12 + 8, none⟩ = some (I x.lv) := by have := cell_G (HB.out.one hx 8 (u := I x.lv) rfl) hg; simpa using this
      have x10 : wr.cell? ⟨g, o + i * 12 + 9, none⟩ = some (.string x.lb) := by have := cell_G (HA.out.one hx 9 (u := .string x.lb) rfl) hg; simpa using this
      have y10 : wr.cell? ⟨g2, o2 + i * 12 + 9, none⟩ = some (.string x.lb) := by have := cell_G (HB.out.one hx 9 (u := .string x.lb) rfl) hg; simpa using this
      have x11 : wr.cell? ⟨g, o + i * 12 + 10, none⟩ = some (I x.rid) := by have := cell_G (HA.out.one hx 10 (u := I x.rid) rfl) hg; simpa using this
      have y11 : wr.cell? ⟨g2, o2 + i * 12 + 10, none⟩ = some (I x.rid) := by have := cell_G (HB.out.one hx 10 (u := I x.rid) rfl) hg; simpa using this
      have x12 : wr.cell? ⟨g, o + i * 12 + 11, none⟩ = some (I x.md) := by have := cell_G (HA.out.one hx 11 (u := I x.md) rfl) hg; simpa using this
      have y12 : wr.cell? ⟨g2, o2 + i * 12 + 11, none⟩ = some (I x.md) := by have := cell_G (HB.out.one hx 11 (u := I x.md) rfl) hg; simpa using this
      have i1 : (i : Int) < l.length := Int.ofNat_lt.2 hil
      have HW : Hid (wrap64 ((i : Int) + 1) = (i : Int) + 1) := by show _ = _; have := HL.out; unfold wrap64; omega
      have HIL := hide hil; have HG := hide hg
      clear hik hil hx q2 q2' hg
      go_wp2_with fail
      go_quiet (fail)
      generalize hV : World.drewN wr _ = V
      have HGV : Hid (G W V) := by rw [← hV]; exact HG.out.drewN _
      clear hV x1 y1 x2 y2 x3 y3 x4 y4 x5 y5 x6 y6 x7 y7 x8 y8 x9 y9 x10 y10 x11 y11 x12 y12
      go_wp2_with fail
      exact ⟨⟨i + 1, by rw [HW.out]; exact srl i, HIL.out, HGV.out⟩, by rw [HW.out]; exact sms HIL.out⟩
    · have i1 : ¬ ((i : Int) < l.length) := by omega
      have HG := hide hg
      clear hik hil hg
      go_wp2_with fail
      go_ret
      exact ⟨rfl, HG.out⟩
set_option maxRecDepth 100000 in
set_option maxHeartbeats 1000000 in
theorem cloneI_any (v : Value) (l : List Int) (W : World) (h : Row eI.rel W v l) (hl : l.length ≤ 8000000000000) : Calls Tryz.prog 101 #[v] W fun e W' => ∃ a n c, e = .returned (.slice a n c) ∧ Sw eI 2 W' (.slice a n c) l ∧ Fresh W (.slice a n c) ∧ G W W' := by
  have h0 := h
  obtain ⟨p, cap, rfl, hc, hn, hr⟩ := h0
  cases p with
  | none =>
    have hl0 : l = [] := by
      cases l with
      | nil => rfl
      | cons y r => obtain ⟨g, o, cs, q, _⟩ := hr 0 y rfl; cases q
    subst hl0
    obtain rfl := hn rfl
    clear h hc hn hr hl
    have q0 : (binOp .eql 73 (.slice none 0 0) (.slice none 0 0)).run Tryz.prog W = .ok (.bool true) W := by rfl
    go_enter Tryz.func101, Tryz.ntmps101
    go_wp2_with fail
    go_ret
    exact ⟨_, _, _, rfl, Sw.nil _ _ _, Fresh.nil _, G.refl _⟩
  | some a =>
    obtain ⟨i, hi, hz0, hz1, hz2⟩ := info_64
    have hA := (G.refl W).alloc (.cells #[] 2)
    have hs : Sw eI 2 (W.alloc (.cells #[] 2)) (.slice (some ⟨W.heap.size, 0, none⟩) 0 0) [] := Sw.made W [] 0 rfl (of_decide_eq_true (by kernel_rfl))
    have hm : (8000000000000 : Nat) ≤ maxLen := of_decide_eq_true (by kernel_rfl)
    obtain ⟨v', w', q1, q2, q3, q4⟩ := app_row (P := Tryz.prog) (tr := 73) i _ 8 Tryz.underlying73 hi hz0 hz1 hz2 rfl (by decide) hs (h.G hA) (by simp; omega) (by simp; omega)
    have hf : Fresh W (.slice (some ⟨W.heap.size, 0, none⟩) 0 0) := fun k e => by simp [Value.ownBlock] at e; omega
    obtain ⟨f2, g2⟩ := hf.app hA q3 q4
    rw [List.nil_append] at q2
    obtain ⟨a2, c2, rfl⟩ := q2.form
    have HF : Hid (∃ a n c, Ending.returned (.slice a2 l.length c2) = .returned (.slice a n c) ∧ Sw eI 2 w' (.slice a n c) l ∧ Fresh W (.slice a n c) ∧ G W w') := ⟨_, _, _, rfl, q2, f2, g2⟩
    have HR := hide q1
    have q0 : (binOp .eql 73 (.slice (some a) l.length cap) (.slice none 0 0)).run Tryz.prog W = .ok (.bool false) W := by rfl
    clear h hc hn hr hl hi hz0 hz1 hz2 hA hs hm q1 q2 q3 q4 hf f2 g2
    go_enter Tryz.func101, Tryz.ntmps101
    go_wp2_with (first | (at_builtin; refine wpList_append_run rfl _ _ 73 rfl (.slice (some ⟨W.heap.size, 0, none⟩) 0 0) (.slice (some a) l.length cap) rfl rfl HR.out ?_) | fail)
    go_ret
    exact HF.out
set_option maxRecDepth 100000 in
set_option maxHeartbeats 1000000 in
theorem cloneA_any (v : Value) (l : List As) (W : World) (h : Row eA.rel W v l) (hl : l.length ≤ 1000000000000) : Calls Tryz.prog 64 #[v] W fun e W' => ∃ a n c, e = .returned (.slice a n c) ∧ Sw eA 49 W' (.slice a n c) l ∧ Fresh W (.slice a n c) ∧ G W W' := by
  have h0 := h
  obtain ⟨p, cap, rfl, hc, hn, hr⟩ := h0
  cases p with
  | none =>
    have hl0 : l = [] := by
      cases l with
      | nil => rfl
      | cons y r => obtain ⟨g, o, cs, q, _⟩ := hr 0 y rfl; cases q
    subst hl0
    obtain rfl := hn rfl
    clear h hc hn hr hl
    have q0 : (binOp .eql 39 (.slice none 0 0) (.slice none 0 0)).run Tryz.prog W = .ok (.bool true) W := by rfl
    go_enter Tryz.func64, Tryz.ntmps64
    go_wp2_with fail
    go_ret
    exact ⟨_, _, _, rfl, Sw.nil _ _ _, Fresh.nil _, G.refl _⟩
  | some a =>
    obtain ⟨i, hi, hz0, hz1, hz2⟩ := info_A
    have hA := (G.refl W).alloc (.cells #[] 49)
    have hs : Sw eA 49 (W.alloc (.cells #[] 49)) (.slice (some ⟨W.heap.size, 0, none⟩) 0 0) [] := Sw.made W [] 0 rfl (of_decide_eq_true (by kernel_rfl))
    have hm : (1000000000000 : Nat) ≤ maxLen := of_decide_eq_true (by kernel_rfl)
    obtain ⟨v', w', q1, q2, q3, q4⟩ := app_row (P := Tryz.prog) (tr := 39) i _ 128 Tryz.underlying39 hi hz0 hz1 hz2 rfl (by decide) hs (h.G hA) (by simp; omega) (by simp; omega)
    have hf : Fresh W (.slice (some ⟨W.heap.size, 0, none⟩) 0 0) := fun k e => by simp [Value.ownBlock] at e; omega
    obtain ⟨f2, g2⟩ := hf.app hA q3 q4
    rw [List.nil_append] at q2
    obtain ⟨a2, c2, rfl⟩ := q2.form
    have HF : Hid (∃ a n c, Ending.returned (.slice a2 l.length c2) = .returned (.slice a n c) ∧ Sw eA 49 w' (.slice a n c) l ∧ Fresh W (.slice a n c) ∧ G W w') := ⟨_, _, _, rfl, q2, f2, g2⟩
    have HR := hide q1
    have q0 : (binOp .eql 39 (.slice (some a) l.length cap) (.slice none 0 0)).run Tryz.prog W = .ok (.bool false) W := by rfl
    clear h hc hn hr hl hi hz0 hz1 hz2 hA hs hm q1 q2 q3 q4 hf f2 g2
    go_enter Tryz.func64, Tryz.ntmps64
    go_wp2_with (first | (at_builtin; refine wpList_append_run rfl _ _ 39 rfl (.slice (some ⟨W.heap.size, 0, none⟩) 0 0) (.slice (some a) l.length cap) rfl rfl HR.out ?_) | fail)
    go_ret
    exact HF.out
end Go.Proofs.YtifioikdhfhljaaGreatDoor
