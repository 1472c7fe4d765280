/- Rules: properties, the document's words. -/
import Derived.Test.YtifioikdhfhljaaGreatDoorSh10
import Derived.Test.YtifioikdhfhljaaGreatDoorForms1
import Derived.Deep.MidRow
import Derived.Laws.ResultCell
namespace Go.Proofs.YtifioikdhfhljaaGreatDoor
open Go.RowKit

def lookP (l : List Pv) (key : List UInt8) : Option Pv := l.find? fun p => p.key.toList == key
def pv0 : Pv := ⟨{ data := #[] }, 0, 0, 0, { data := #[] }⟩
def lkP (l : List Pv) (key : List UInt8) : Pv := (lookP l key).getD pv0
def isP (l : List Pv) (key : List UInt8) : Bool := (lookP l key).isSome
def tbP (l : List Pv) (key : List UInt8) : Bool := isP l key && ((lkP l key).k == 4)
noncomputable def nbP (l : List Pv) (key : List UInt8) : Bool := tbP l key && nameB (lkP l key).s
theorem retP (tmps : Array Value) (W : World) (rb : Nat) (cs : List Value) (b : Bool) (hp : tmps.getD 4 undef = .pointer (some ⟨rb, 0, none⟩)) (hc : tmps.getD 5 undef = .bool b) (hr : Blk W rb 41 cs) (hl : cs.length = 4) :
    (results Tryz.f107 tmps).run Tryz.prog W = .ok (.tuple #[.agg cs.toArray, .bool b]) W := by
  rw [results_cell_tmp Tryz.results107, hp, hc]
  have h := run_loadVar_mid (P := Tryz.prog) W rb 0 41 cs _ (by have := hr.range 0 4; rw [List.drop_zero, List.take_of_length_le (by omega)] at this; exact this) Tryz.underlying41 rfl (by rw [hl]; kernel_rfl)
  simp only [asAddr, Sem.run_pure, Result.andThen_ok, h]
theorem find_take {α : Type} (p : α → Bool) (l : List α) (i : Nat) (x : α) (hx : l[i]? = some x) (hp : p x = true) (hn : (l.take i).find? p = none) : l.find? p = some x := by
  obtain ⟨hi, e⟩ := List.getElem?_eq_some_iff.1 hx
  have h : l = l.take i ++ x :: l.drop (i + 1) := by rw [← e]; exact (List.take_append_drop i l).symm.trans (by rw [List.drop_eq_getElem_cons hi])
  rw [h, List.find?_append, hn]
  simp [hp]
set_option maxRecDepth 100000 in
set_option maxHeartbeats 4000000 in
theorem prop_any (key : ByteArray) (l : List Pv) (v : Value) (W : World) (h : Row eP.rel W v l) (hl : l.length ≤ 4611686018427387904) :
    Calls Tryz.prog 107 #[v, .string key] W fun e W' => e = .returned (.tuple #[.agg #[I (lkP l key.toList).k, I (lkP l key.toList).a, I (lkP l key.toList).b, .string (lkP l key.toList).s], .bool (isP l key.toList)]) ∧ G W W' := by
  obtain ⟨pa, cap, rfl⟩ := h.form
  obtain ⟨rb, hrb⟩ : ∃ rb, rb = W.heap.size := ⟨_, rfl⟩
  obtain ⟨w1, hw1⟩ : ∃ w1, w1 = W.alloc (.cells #[I 0, I 0, I 0, .string { data := #[] }] 41) := ⟨_, rfl⟩
  have hg1 : G W w1 := by rw [hw1]; exact (G.refl W).alloc _
  have hb1 : Blk w1 rb 41 [I 0, I 0, I 0, .string { data := #[] }] := by rw [hw1, hrb]; exact Blk.new W [I 0, I 0, I 0, .string { data := #[] }] 41
  have HEW : Hid (W.alloc (.cells #[I 0, I 0, I 0, .string { data := #[] }] 41) = w1) := hw1.symm
  have HE1 : Hid (W.heap.size = rb) := hrb.symm
  have HRB : Hid (W.heap.size ≤ rb) := by show _ ≤ _; omega
  have HA := hide h; have HL := hide hl; have HGW := hide hg1; have HB1 := hide hb1
  clear h hl hg1 hb1 hw1 hrb
  go_enter Tryz.func107, Tryz.ntmps107
  go_wp2_with (first | (rw [HEW.out]; (try rw [HE1.out]); clear HEW) | fail)
  try rw [HEW.out]
  try rw [HE1.out]
  go_loopw [6] (fun iv wr => ∃ i : Nat, iv = I i ∧ i ≤ l.length ∧ lookP (l.take i) key.toList = none ∧ G w1 wr) (fun iv _ => l.length - (RowKit.intOf iv).toNat)
  case atStart => exact ⟨0, rfl, Nat.zero_le _, rfl, G.refl _⟩
  case round =>
    obtain ⟨i, rfl, hik, hno, hg⟩ := hrel
    by_cases hil : i < l.length
    · obtain ⟨y, hy⟩ : ∃ y, l[i]? = some y := ⟨_, List.getElem?_eq_getElem hil⟩
      obtain ⟨g, o, cp, q⟩ := HA.out.addr (by omega)
      injection q with q1 q2 q3
      subst q1 q3
      have x1 : wr.cell? ⟨g, o + i * 5, none⟩ = some (.string y.key) := by have := cell_G (HA.out.one hy 0 (u := .string y.key) rfl) (HGW.out.trans hg); simpa using this
      have x2 : wr.cell? ⟨g, o + i * 5 + 1, none⟩ = some (I y.k) := by have := cell_G (HA.out.one hy 1 (u := I y.k) rfl) (HGW.out.trans hg); simpa using this
      have x3 : wr.cell? ⟨g, o + i * 5 + 2, none⟩ = some (I y.a) := by have := cell_G (HA.out.one hy 2 (u := I y.a) rfl) (HGW.out.trans hg); simpa using this
      have x4 : wr.cell? ⟨g, o + i * 5 + 3, none⟩ = some (I y.b) := by have := cell_G (HA.out.one hy 3 (u := I y.b) rfl) (HGW.out.trans hg); simpa using this
      have x5 : wr.cell? ⟨g, o + i * 5 + 4, none⟩ = some (.string y.s) := by have := cell_G (HA.out.one hy 4 (u := .string y.s) rfl) (HGW.out.trans hg); simpa using this
      have i1 : (i : Int) < l.length := Int.ofNat_lt.2 hil
      have HW : Hid (wrap64 ((i : Int) + 1) = (i : Int) + 1) := by show _ = _; have := HL.out; unfold wrap64; omega
      have HIL := hide hil; have HX := hide hy; have HNO := hide hno; have HG := hide hg
      clear hik hil hy q2 hg hno
      cases hk : (y.key.toList == key.toList) with
      | false =>
        have HF : Hid (lookP (l.take (i + 1)) key.toList = none) := by
          have hn := HNO.out
          unfold lookP at hn
          rw [Hid, lookP, List.take_add_one, HX.out, List.find?_append, hn]
          simp [hk]
        go_wp2_with fail
        exact ⟨⟨i + 1, by rw [HW.out]; exact srl i, HIL.out, HF.out, HG.out⟩, by rw [HW.out]; exact sms HIL.out⟩
      | true =>
        have HF : Hid (lookP l key.toList = some y) := find_take _ l i y HX.out hk HNO.out
        have hr3 := HB1.out.G HG.out
        have c9 := hr3.cell
        have z9 := hr3.frozen
        have HC9 := hide ((((hr3.set 0 (I y.k)).set 1 (I y.a)).set 2 (I y.b)).set 3 (.string y.s))
        have HG9 : Hid (G W ((((wr.setCell ⟨rb, 0, none⟩ (I y.k)).setCell ⟨rb, 1, none⟩ (I y.a)).setCell ⟨rb, 2, none⟩ (I y.b)).setCell ⟨rb, 3, none⟩ (.string y.s))) := (((((HGW.out.trans HG.out).setCell HRB.out (I y.k)).setCell HRB.out (I y.a)).setCell HRB.out (I y.b)).setCell HRB.out (.string y.s))
        clear hr3
        go_wp2_with fail
        exact bodyPost_ret_by (v := .tuple #[.agg #[I y.k, I y.a, I y.b, .string y.s], .bool true]) (retP _ _ rb _ true rfl rfl HC9.out rfl) rfl ⟨by rw [lkP, isP, HF.out]; rfl, HG9.out⟩
    · have i1 : ¬ ((i : Int) < l.length) := by omega
      have HF : Hid (lookP l key.toList = none) := by rw [Hid, ← hno, List.take_of_length_le (by omega)]
      have hr3 := HB1.out.G hg
      have c9 := hr3.cell
      have z9 := hr3.frozen
      have HC9 := hide ((((hr3.set 0 (I 0)).set 1 (I 0)).set 2 (I 0)).set 3 (.string { data := #[] }))
      have HG9 : Hid (G W ((((wr.setCell ⟨rb, 0, none⟩ (I 0)).setCell ⟨rb, 1, none⟩ (I 0)).setCell ⟨rb, 2, none⟩ (I 0)).setCell ⟨rb, 3, none⟩ (.string { data := #[] }))) := (((((HGW.out.trans hg).setCell HRB.out (I 0)).setCell HRB.out (I 0)).setCell HRB.out (I 0)).setCell HRB.out (.string { data := #[] }))
      clear hik hil hno hg hr3
      go_wp2_with fail
      exact bodyPost_ret_by (v := .tuple #[.agg #[I 0, I 0, I 0, .string { data := #[] }], .bool false]) (retP _ _ rb _ false rfl rfl HC9.out rfl) rfl ⟨by rw [lkP, isP, HF.out]; rfl, HG9.out⟩
set_option maxRecDepth 100000 in
set_option maxHeartbeats 4000000 in
theorem text_any (key : ByteArray) (l : List Pv) (v : Value) (W : World) (h : Row eP.rel W v l) (hl : l.length ≤ 4611686018427387904) :
    Calls Tryz.prog 104 #[v, .string key] W fun e W' => e = .returned (.tuple #[.string (lkP l key.toList).s, .bool (tbP l key.toList)]) ∧ G W W' := by
  obtain ⟨pa, cap, hv⟩ := h.form
  obtain ⟨pn, hpn⟩ : ∃ pn, pn = l.length := ⟨_, rfl⟩
  rw [← hpn] at hv
  have KP := hide (prop_any key l v W h hl)
  subst hv
  have HTB : Hid (tbP l key.toList = (isP l key.toList && ((lkP l key.toList).k == 4))) := rfl
  generalize tbP l key.toList = tb at HTB ⊢
  generalize lkP l key.toList = y at *
  generalize isP l key.toList = b at *
  have hb : tb = (b && (y.k == 4)) := HTB.out
  clear h hl hpn HTB
  have run : ∀ (w2 : World), G W w2 → Hid (∀ V, G (w2.alloc (.cells #[I y.k, I y.a, I y.b, .string y.s] 41)) V → V.cell? ⟨w2.heap.size, 3, none⟩ = some (.string y.s) ∧ V.cell? ⟨w2.heap.size, 0, none⟩ = some (I y.k)) := fun w2 _ V hV => by
    have := ((Blk.new w2 [I y.k, I y.a, I y.b, .string y.s] 41).G hV).cell
    exact ⟨this 3, this 0⟩
  cases b with
  | true =>
    have HTB : Hid (tb = (y.k == 4)) := by rw [Hid, hb]; rfl
    clear hb
    go_enter Tryz.func104, Tryz.ntmps104
    go_wp2_with fail
    refine KP.out.mono ?_
    rintro e w2 ⟨rfl, hg2⟩
    have HR := run w2 hg2
    have HG2 := hide (hg2.trans ((G.refl w2).alloc (.cells #[I y.k, I y.a, I y.b, .string y.s] 41)))
    clear run hg2 KP
    have r0 := HR.out _ (G.refl _)
    obtain ⟨r3, r0⟩ := r0
    go_wp2_with fail
    go_quiet (fail)
    generalize hV : World.drewN _ _ = V
    have HGV : Hid (G W V) := by rw [← hV]; exact HG2.out.drewN _
    clear hV r0 r3 HR
    go_wp2_with fail
    go_ret2
    exact ⟨by rw [HTB.out] <;> rfl, HGV.out⟩
  | false =>
    have HTB : Hid (tb = false) := by rw [Hid, hb]; rfl
    clear hb
    go_enter Tryz.func104, Tryz.ntmps104
    go_wp2_with fail
    refine KP.out.mono ?_
    rintro e w2 ⟨rfl, hg2⟩
    have HR := run w2 hg2
    have HG2 := hide (hg2.trans ((G.refl w2).alloc (.cells #[I y.k, I y.a, I y.b, .string y.s] 41)))
    clear run hg2 KP
    have r0 := HR.out _ (G.refl _)
    obtain ⟨r3, r0⟩ := r0
    go_wp2_with fail
    go_quiet (fail)
    generalize hV : World.drewN _ _ = V
    have HGV : Hid (G W V) := by rw [← hV]; exact HG2.out.drewN _
    clear hV r0 r3 HR
    go_wp2_with fail
    go_ret2
    exact ⟨by rw [HTB.out] <;> rfl, HGV.out⟩
set_option maxRecDepth 100000 in
set_option maxHeartbeats 4000000 in
theorem name_any (key : ByteArray) (l : List Pv) (v : Value) (W : World) (h : Row eP.rel W v l) (hl : l.length ≤ 4611686018427387904) :
    Calls Tryz.prog 105 #[v, .string key] W fun e W' => e = .returned (.tuple #[.string (lkP l key.toList).s, .bool (nbP l key.toList)]) ∧ G W W' := by
  obtain ⟨pa, cap, hv⟩ := h.form
  obtain ⟨pn, hpn⟩ : ∃ pn, pn = l.length := ⟨_, rfl⟩
  rw [← hpn] at hv
  have KP := hide (text_any key l v W h hl)
  subst hv
  have hb : nbP l key.toList = (tbP l key.toList && nameB (lkP l key.toList).s) := rfl
  generalize nbP l key.toList = nb at hb ⊢
  generalize (lkP l key.toList).s = s at *
  generalize tbP l key.toList = b at *
  have KN := hide (fun w : World => rnm_any s w)
  clear h hl hpn
  cases b with
  | true =>
    have HTB : Hid (nb = nameB s) := by rw [Hid, hb]; rfl
    clear hb
    go_enter Tryz.func105, Tryz.ntmps105
    go_wp2_with fail
    refine KP.out.mono ?_
    rintro e w2 ⟨rfl, hg2⟩
    have HG2 := hide hg2
    clear hg2 KP
    go_wp2_with fail
    refine (KN.out w2).mono ?_
    rintro e w3 ⟨rfl, h9⟩
    subst w3
    go_wp2_with fail
    go_ret2
    exact ⟨by rw [HTB.out] <;> rfl, HG2.out⟩
  | false =>
    have HTB : Hid (nb = false) := by rw [Hid, hb]; rfl
    clear hb
    go_enter Tryz.func105, Tryz.ntmps105
    go_wp2_with fail
    refine KP.out.mono ?_
    rintro e w2 ⟨rfl, hg2⟩
    have HG2 := hide hg2
    clear hg2 KP
    go_wp2_with fail
    go_ret2
    exact ⟨by rw [HTB.out] <;> rfl, HG2.out⟩
end Go.Proofs.YtifioikdhfhljaaGreatDoor
