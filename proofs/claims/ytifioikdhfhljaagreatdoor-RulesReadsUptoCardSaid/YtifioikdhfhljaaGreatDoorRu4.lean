/- Rules: the rule that a node says. -/
import Derived.Test.YtifioikdhfhljaaGreatDoorRu3
namespace Go.Proofs.YtifioikdhfhljaaGreatDoor
open Go.RowKit

def rl0 (x : Nd) : Rl := ⟨x.id, 0, { data := #[] }, { data := #[] }, 0, { data := #[] }, { data := #[] }, 0⟩
def saidR (x : Nd) : Rl := x.ps.foldl takeF (rl0 x)
theorem G.far9 {w w4 w5 : World} (hg : Go.Proofs.YtifioikdhfhljaaGreatDoor.G w w4) (hc : Chg (fun k => w.heap.size ≤ k) w4 w5) : Go.Proofs.YtifioikdhfhljaaGreatDoor.G w w5 :=
  ((hg.chg (F := fun _ => False)).more hc (fun i hi q => by omega)).G (fun _ q => q.elim)
def kAll (k : Int) (l : List Pv) : Bool := allB (fProps k) (fKey k) (fIs k) (fEnds k) (fN k) l
noncomputable def saidB (x : Nd) : Bool := x.ps.all takeB && standsB (saidR x) && kAll (saidR x).kind x.ps
def SaidP (x : Nd) (e : Ending) : Prop := (saidB x = true ∧ e = .returned (.tuple #[.agg #[I (saidR x).id, I (saidR x).kind, .string (saidR x).of, .string (saidR x).key, I (saidR x).is, .string (saidR x).fr, .string (saidR x).dst, I (saidR x).n], .bool true])) ∨ (saidB x = false ∧ e = .returned (.tuple #[.agg #[I 0, I 0, .string { data := #[] }, .string { data := #[] }, I 0, .string { data := #[] }, .string { data := #[] }, I 0], .bool false]))
theorem retS (tmps : Array Value) (W : World) (rb : Nat) (cs : List Value) (b : Bool) (hp : tmps.getD 2 undef = .pointer (some ⟨rb, 0, none⟩)) (hc : tmps.getD 3 undef = .bool b) (hr : Blk W rb 66 cs) (hl : cs.length = 8) :
    (results Tryz.f67 tmps).run Tryz.prog W = .ok (.tuple #[.agg cs.toArray, .bool b]) W := by
  rw [results_cell_tmp Tryz.results67, hp, hc]
  have h := run_loadVar_mid (P := Tryz.prog) W rb 0 66 cs _ (by have := hr.range 0 8; rw [List.drop_zero, List.take_of_length_le (by omega)] at this; exact this) Tryz.underlying66 rfl (by rw [hl]; kernel_rfl)
  simp only [asAddr, Sem.run_pure, Result.andThen_ok, h]
theorem stands_kind {r : Rl} (h : standsB r = true) : ∃ kb : Nat, r.kind = (kb : Int) ∧ 1 ≤ kb ∧ kb ≤ 6 := by
  unfold standsB at h
  simp only [Bool.and_eq_true, decide_eq_true_eq] at h
  obtain ⟨⟨⟨⟨⟨⟨⟨h1, h2⟩, -⟩, -⟩, -⟩, -⟩, -⟩, -⟩ := h
  exact ⟨r.kind.toNat, by omega, by omega, by omega⟩
set_option maxRecDepth 100000 in
set_option maxHeartbeats 4000000 in
theorem said_any (x : Nd) (pv : Value) (W : World) (h : Row eP.rel W pv x.ps) (hl : x.ps.length ≤ 4611686018427387904) (hT : RT W) : Calls Tryz.prog 67 #[.agg #[I x.id, .string x.lb, pv]] W fun e W' => SaidP x e ∧ G W W' := by
  obtain ⟨pa, pc, rfl⟩ := h.form
  obtain ⟨pn, hpn⟩ : ∃ pn, pn = x.ps.length := ⟨_, rfl⟩
  rw [← hpn] at h ⊢
  obtain ⟨B0, hB0⟩ : ∃ B0, B0 = W.heap.size := ⟨_, rfl⟩
  obtain ⟨rb, hrb⟩ : ∃ rb, rb = B0 + 1 := ⟨_, rfl⟩
  obtain ⟨rB, hrB⟩ : ∃ rB, rB = rb + 1 := ⟨_, rfl⟩
  obtain ⟨w3, hw3⟩ : ∃ w3, w3 = (((W.alloc (.cells #[I x.id, .string x.lb, .slice pa pn pc] 69)).alloc (.cells #[I 0, I 0, .string { data := #[] }, .string { data := #[] }, I 0, .string { data := #[] }, .string { data := #[] }, I 0] 66)).alloc (.cells #[I x.id, I 0, .string { data := #[] }, .string { data := #[] }, I 0, .string { data := #[] }, .string { data := #[] }, I 0] 66)) := ⟨_, rfl⟩
  have hg3 : G W w3 := by rw [hw3]; exact (((G.refl W).alloc _).alloc _).alloc _
  have hb0 : Blk w3 B0 69 [I x.id, .string x.lb, .slice pa pn pc] := by rw [hw3, hB0]; exact (Blk.new W [I x.id, .string x.lb, .slice pa pn pc] 69).G (((G.refl _).alloc _).alloc _)
  have hbr : Blk w3 rb 66 [I 0, I 0, .string { data := #[] }, .string { data := #[] }, I 0, .string { data := #[] }, .string { data := #[] }, I 0] := by
    have := (Blk.new (W.alloc (.cells #[I x.id, .string x.lb, .slice pa pn pc] 69)) [I 0, I 0, .string { data := #[] }, .string { data := #[] }, I 0, .string { data := #[] }, .string { data := #[] }, I 0] 66).G ((G.refl _).alloc (.cells #[I x.id, I 0, .string { data := #[] }, .string { data := #[] }, I 0, .string { data := #[] }, .string { data := #[] }, I 0] 66))
    rw [hw3, hrb, hB0]
    simpa using this
  have hbR : Blk w3 rB 66 [I x.id, I 0, .string { data := #[] }, .string { data := #[] }, I 0, .string { data := #[] }, .string { data := #[] }, I 0] := by
    have := Blk.new ((W.alloc (.cells #[I x.id, .string x.lb, .slice pa pn pc] 69)).alloc (.cells #[I 0, I 0, .string { data := #[] }, .string { data := #[] }, I 0, .string { data := #[] }, .string { data := #[] }, I 0] 66)) [I x.id, I 0, .string { data := #[] }, .string { data := #[] }, I 0, .string { data := #[] }, .string { data := #[] }, I 0] 66
    rw [hw3, hrB, hrb, hB0]
    simpa using this
  have e0 := ((Blk.new W [I x.id, .string x.lb, .slice pa pn pc] 69).G ((G.refl _).alloc (.cells #[I 0, I 0, .string { data := #[] }, .string { data := #[] }, I 0, .string { data := #[] }, .string { data := #[] }, I 0] 66))).cell
  have HNE : Hid (B0 ≠ rB ∧ rb ≠ rB ∧ W.heap.size ≤ rb ∧ W.heap.size ≤ rB ∧ rb < w3.heap.size) := ⟨by omega, by omega, by omega, by omega, hbr.lt⟩
  have HRS : Hid (W.heap.size ≤ rb) := HNE.out.2.2.1
  have HEW : Hid ((((W.alloc (.cells #[I x.id, .string x.lb, .slice pa pn pc] 69)).alloc (.cells #[I 0, I 0, .string { data := #[] }, .string { data := #[] }, I 0, .string { data := #[] }, .string { data := #[] }, I 0] 66)).alloc (.cells #[I x.id, I 0, .string { data := #[] }, .string { data := #[] }, I 0, .string { data := #[] }, .string { data := #[] }, I 0] 66)) = w3) := hw3.symm
  have HE1 : Hid (W.heap.size = B0) := hB0.symm
  have HE2 : Hid (B0 + 1 = rb) := hrb.symm
  have HE3 : Hid (rb + 1 = rB) := hrB.symm
  have HA := hide h; have HL : Hid (pn = x.ps.length ∧ pn ≤ 4611686018427387904) := ⟨hpn, by omega⟩
  have HB0 := hide hb0; have HBr := hide hbr; have HG3 := hide hg3; have HT := hide hT
  have c0 := hb0.cell
  have HBR : Hid (Blk w3 rB 66 (eRl.e (rl0 x))) := hbR
  clear h hl hT hpn hw3 hB0 hrb hrB hg3 hb0 hbr hbR
  go_enter Tryz.func67, Tryz.ntmps67
  go_wp2_with (first | (rw [HEW.out]; (try rw [HE1.out]); (try rw [HE2.out]); (try rw [HE3.out]); clear HEW e0) | fail)
  try rw [HEW.out]
  try rw [HE1.out]
  try rw [HE2.out]
  try rw [HE3.out]
  clear c0
  go_loopw [13, 6] (fun iv _ wr => ∃ (i : Nat) (r : Rl), iv = I i ∧ i ≤ x.ps.length ∧ r = (x.ps.take i).foldl takeF (rl0 x) ∧ (x.ps.take i).all takeB = true ∧ Blk wr rB 66 [I r.id, I r.kind, .string r.of, .string r.key, I r.is, .string r.fr, .string r.dst, I r.n] ∧ Chg (fun k => k = rB) w3 wr) (fun iv _ _ => x.ps.length - (RowKit.intOf iv).toNat)
  case atStart => exact ⟨0, rl0 x, rfl, Nat.zero_le _, rfl, rfl, HBR.out, Chg.refl _ _⟩
  case round =>
    clear HBR
    obtain ⟨i, r, rfl, hik, hr, hta, hbR, hch⟩ := hrel
    have hln := HL.out
    have hne := HNE.out
    have hgW : G W wr := G.far9 HG3.out (hch.mono fun k e => by rw [e]; exact hne.2.2.2.1)
    have hb0 := HB0.out.chg hch hne.1
    have hbr := HBr.out.chg hch hne.2.1
    have HGW := hide hgW; have HB0' := hide hb0; have HRb := hide hbr; have HbR := hide hbR
    by_cases hil : i < x.ps.length
    · obtain ⟨y, hy⟩ : ∃ y, x.ps[i]? = some y := ⟨_, List.getElem?_eq_getElem hil⟩
      obtain ⟨g, o, cp, q⟩ := HA.out.addr (by omega)
      injection q with q1 q2 q3
      subst q1 q3
      have x1 : wr.cell? ⟨g, o + i * 5, none⟩ = some (.string y.key) := by have := cell_G (HA.out.one hy 0 (u := .string y.key) rfl) hgW; simpa using this
      have x2 : wr.cell? ⟨g, o + i * 5 + 1, none⟩ = some (I y.k) := by have := cell_G (HA.out.one hy 1 (u := I y.k) rfl) hgW; simpa using this
      have x3 : wr.cell? ⟨g, o + i * 5 + 2, none⟩ = some (I y.a) := by have := cell_G (HA.out.one hy 2 (u := I y.a) rfl) hgW; simpa using this
      have x4 : wr.cell? ⟨g, o + i * 5 + 3, none⟩ = some (I y.b) := by have := cell_G (HA.out.one hy 3 (u := I y.b) rfl) hgW; simpa using this
      have x5 : wr.cell? ⟨g, o + i * 5 + 4, none⟩ = some (.string y.s) := by have := cell_G (HA.out.one hy 4 (u := .string y.s) rfl) hgW; simpa using this
      have i1 : (i : Int) < (pn : Int) := by omega
      have HW : Hid (wrap64 ((i : Int) + 1) = (i : Int) + 1) := by show _ = _; unfold wrap64; omega
      obtain ⟨w4, hw4⟩ : ∃ w4, w4 = wr.alloc (.cells #[.string y.key, I y.k, I y.a, I y.b, .string y.s] 101) := ⟨_, rfl⟩
      obtain ⟨B6, hB6⟩ : ∃ B6, B6 = wr.heap.size := ⟨_, rfl⟩
      have hg4 : G wr w4 := by rw [hw4]; exact (G.refl wr).alloc _
      have hb6 : Blk w4 B6 101 [.string y.key, I y.k, I y.a, I y.b, .string y.s] := by rw [hw4, hB6]; exact Blk.new wr [.string y.key, I y.k, I y.a, I y.b, .string y.s] 101
      have HEX : Hid (wr.alloc (.cells #[.string y.key, I y.k, I y.a, I y.b, .string y.s] 101) = w4) := hw4.symm
      have HE6 : Hid (wr.heap.size = B6) := hB6.symm
      have KT := hide (take_any r y rB w4 (hbR.G hg4) (HT.out.G (hgW.trans hg4)))
      have c6 := hb6.cell
      have HIL := hide hil; have HX := hide hy; have HR := hide hr; have HTA := hide hta
      have HCH := hide (hch.trans hg4.chg)
      have HG4 := hide hg4
      clear hik hil hy q2 hr hta hbR hch hgW hb0 hbr hw4 hB6 hg4 hb6 hln hne
      cases htb : takeB y with
      | true =>
        rw [htb] at KT
        have HF : Hid (takeF r y = (x.ps.take (i + 1)).foldl takeF (rl0 x) ∧ (x.ps.take (i + 1)).all takeB = true) := by
          rw [Hid, List.take_add_one, HX.out, List.foldl_append, List.all_append, HTA.out, ← HR.out]
          exact ⟨rfl, by simp [htb]⟩
        clear htb
        go_wp2_with (first | (rw [HEX.out]; (try rw [HE6.out]); clear HEX) | fail)
        try rw [HEX.out]
        try rw [HE6.out]
        refine KT.out.mono ?_
        rintro e w5 ⟨rfl, hb5, hch5⟩
        have HB5 := hide hb5
        have HCH5 := hide (HCH.out.trans hch5)
        clear hb5 hch5 KT x1 x2 x3 x4 x5 c6
        go_wp2_with fail
        exact ⟨⟨i + 1, takeF r y, by rw [HW.out]; exact srl i, HIL.out, HF.out.1, HF.out.2, HB5.out, HCH5.out⟩, by rw [HW.out]; exact sms HIL.out⟩
      | false =>
        rw [htb] at KT
        have HF : Hid (saidB x = false) := by
          have h1 : x.ps.all takeB = false := by
            rw [List.all_eq_false]
            exact ⟨y, List.mem_of_getElem? HX.out, by rw [htb]; simp⟩
          rw [Hid, saidB, h1]
          simp
        clear htb
        go_wp2_with (first | (rw [HEX.out]; (try rw [HE6.out]); clear HEX) | fail)
        try rw [HEX.out]
        try rw [HE6.out]
        refine KT.out.mono ?_
        rintro e w5 ⟨rfl, -, hch5⟩
        have hne := HNE.out
        have hrb9 := (HRb.out.G HG4.out).chg hch5 hne.2.1
        have hgW5 : G W w5 := G.far9 (HGW.out.trans HG4.out) (hch5.mono fun k e => by rw [e]; exact hne.2.2.2.1)
        have c9 := hrb9.cell; have z9 := hrb9.frozen
        have HC9 := hide ((((((((hrb9.set 0 (I 0)).set 1 (I 0)).set 2 (.string { data := #[] })).set 3 (.string { data := #[] })).set 4 (I 0)).set 5 (.string { data := #[] })).set 6 (.string { data := #[] })).set 7 (I 0))
        have HG9 : Hid (G W ((((((((w5.setCell ⟨rb, 0, none⟩ (I 0)).setCell ⟨rb, 1, none⟩ (I 0)).setCell ⟨rb, 2, none⟩ (.string { data := #[] })).setCell ⟨rb, 3, none⟩ (.string { data := #[] })).setCell ⟨rb, 4, none⟩ (I 0)).setCell ⟨rb, 5, none⟩ (.string { data := #[] })).setCell ⟨rb, 6, none⟩ (.string { data := #[] })).setCell ⟨rb, 7, none⟩ (I 0))) := ((((((((hgW5.setCell HRS.out (I 0)).setCell HRS.out (I 0)).setCell HRS.out (.string { data := #[] })).setCell HRS.out (.string { data := #[] })).setCell HRS.out (I 0)).setCell HRS.out (.string { data := #[] })).setCell HRS.out (.string { data := #[] })).setCell HRS.out (I 0))
        clear hrb9 hgW5 hch5 hne KT x1 x2 x3 x4 x5 c6
        go_wp2_with fail
        exact bodyPost_ret_by (v := .tuple #[.agg #[I 0, I 0, .string { data := #[] }, .string { data := #[] }, I 0, .string { data := #[] }, .string { data := #[] }, I 0], .bool false]) (retS _ _ rb _ false rfl rfl HC9.out rfl) rfl ⟨.inr ⟨HF.out, rfl⟩, HG9.out⟩
    · have i1 : ¬ (i : Int) < (pn : Int) := by omega
      have hr2 : r = saidR x := by rw [hr, List.take_of_length_le (by omega)]; rfl
      have hta2 : x.ps.all takeB = true := by rw [List.take_of_length_le (by omega)] at hta; exact hta
      have KST : Hid (∀ V, G wr V → _) := fun V hV => rstands_any r V (HT.out.G (hgW.trans hV))
      cases hst : standsB r with
      | false =>
        have HF : Hid (saidB x = false) := by rw [Hid, saidB, ← hr2, hst]; simp
        rw [hst] at KST
        have HS : Hid (∀ V, G wr V → (∀ t, V.cell? ⟨B0, t, none⟩ = ([I x.id, .string x.lb, .slice pa pn pc] : List Value)[t]?) ∧ (∀ t, V.cell? ⟨rB, t, none⟩ = ([I r.id, I r.kind, .string r.of, .string r.key, I r.is, .string r.fr, .string r.dst, I r.n] : List Value)[t]?) ∧ G wr V) := fun V h => ⟨(HB0'.out.G h).cell, (HbR.out.G h).cell, h⟩
        clear hst hik hil hr hta hbR hch hgW hb0 hbr hr2 hta2 hln hne
        go_wp2_with fail
        refine wp_region_noPanic ?_
        refine wp_region_held_drew (S := (fun V => (∀ t, V.cell? ⟨B0, t, none⟩ = ([I x.id, .string x.lb, .slice pa pn pc] : List Value)[t]?) ∧ (∀ t, V.cell? ⟨rB, t, none⟩ = ([I r.id, I r.kind, .string r.of, .string r.key, I r.is, .string r.fr, .string r.dst, I r.n] : List Value)[t]?) ∧ G wr V)) (by kernel_rfl) (HS.out _ ((G.refl _).drew)) (fun hHeld => ?_)
        refine wpAnyH_take (i := 0) (v := ?_) rfl (by kernel_rfl) (by kernel_rfl) (by kernel_rfl) (fun _ _ _ h => h) (Or.inl ⟨by rfl, ?_⟩) hHeld ?_
        rotate_left 1
        · (intro w hSw; obtain ⟨k1, k2, -⟩ := hSw; go_simp; try with_reducible rfl)
        try simp only [Act.put, List.getElem_toArray, List.getElem_cons_zero, List.setIfInBounds_toArray, List.set_cons_zero, List.set_cons_succ]
        refine wpAnyH_ready (rs := [1]) (by kernel_rfl) (by simp) (AllReadyH.cons rfl (fun K hK => ?_) AllReadyH.nil)
        clear hHeld
        (try refine (if_pos rfl).mpr ?_)
        go_simp
        refine (KST.out _ ((G.refl _).drew)).mono ?_
        rintro e w8 ⟨rfl, g8'⟩
        have g8 : G wr w8 := ((G.refl _).drew).trans g8'
        clear g8' KST
        go_wp2_with fail
        refine hK.out _ _ (HS.out w8 g8) (fun hHeld => ?_)
        clear hK K
        try simp only [Act.put, List.getElem_toArray, List.getElem_cons_zero, List.getElem_cons_succ, List.setIfInBounds_toArray, List.set_cons_zero, List.set_cons_succ]
        refine wpAnyH_take (i := 2) (v := ?_) rfl (by kernel_rfl) (by kernel_rfl) (by kernel_rfl) (fun _ _ _ h => h) (Or.inl ⟨by rfl, ?_⟩) hHeld ?_
        rotate_left 1
        · (intro w hSw; (try dsimp only at hSw); go_simp; try with_reducible rfl)
        try simp only [Act.put, List.getElem_toArray, List.getElem_cons_zero, List.getElem_cons_succ, List.setIfInBounds_toArray, List.set_cons_zero, List.set_cons_succ]
        refine wpAnyH_take (i := 3) (v := ?_) rfl (by kernel_rfl) (by kernel_rfl) (by kernel_rfl) (fun _ _ _ h => h) (Or.inl ⟨by rfl, ?_⟩) hHeld ?_
        rotate_left 1
        · (intro w hSw; (try dsimp only at hSw); go_simp; try with_reducible rfl)
        try simp only [Act.put, List.getElem_toArray, List.getElem_cons_zero, List.getElem_cons_succ, List.setIfInBounds_toArray, List.set_cons_zero, List.set_cons_succ]
        refine wpAnyH_take (i := 4) (v := undef) rfl (by kernel_rfl) (by kernel_rfl) (by kernel_rfl) (fun _ _ _ h => h) (Or.inr ⟨by rfl, rfl⟩) hHeld ?_
        try simp only [Act.put, List.getElem_toArray, List.getElem_cons_zero, List.getElem_cons_succ, List.setIfInBounds_toArray, List.set_cons_zero, List.set_cons_succ]
        refine wpAnyH_take (i := 5) (v := undef) rfl (by kernel_rfl) (by kernel_rfl) (by kernel_rfl) (fun _ _ _ h => h) (Or.inr ⟨by rfl, rfl⟩) hHeld ?_
        try simp only [Act.put, List.getElem_toArray, List.getElem_cons_zero, List.getElem_cons_succ, List.setIfInBounds_toArray, List.set_cons_zero, List.set_cons_succ]
        refine wpAnyH_take (i := 6) (v := undef) rfl (by kernel_rfl) (by kernel_rfl) (by kernel_rfl) (fun _ _ _ h => h) (Or.inr ⟨by rfl, rfl⟩) hHeld ?_
        try simp only [Act.put, List.getElem_toArray, List.getElem_cons_zero, List.getElem_cons_succ, List.setIfInBounds_toArray, List.set_cons_zero, List.set_cons_succ]
        refine wpAnyH_take (i := 7) (v := undef) rfl (by kernel_rfl) (by kernel_rfl) (by kernel_rfl) (fun _ _ _ h => h) (Or.inr ⟨by rfl, rfl⟩) hHeld ?_
        try simp only [Act.put, List.getElem_toArray, List.getElem_cons_zero, List.getElem_cons_succ, List.setIfInBounds_toArray, List.set_cons_zero, List.set_cons_succ]
        refine wpAnyH_take (i := 8) (v := undef) rfl (by kernel_rfl) (by kernel_rfl) (by kernel_rfl) (fun _ _ _ h => h) (Or.inr ⟨by rfl, rfl⟩) hHeld ?_
        try simp only [Act.put, List.getElem_toArray, List.getElem_cons_zero, List.getElem_cons_succ, List.setIfInBounds_toArray, List.set_cons_zero, List.set_cons_succ]
        refine wpAnyH_take (i := 9) (v := undef) rfl (by kernel_rfl) (by kernel_rfl) (by kernel_rfl) (fun _ _ _ h => h) (Or.inr ⟨by rfl, rfl⟩) hHeld ?_
        try simp only [Act.put, List.getElem_toArray, List.getElem_cons_zero, List.getElem_cons_succ, List.setIfInBounds_toArray, List.set_cons_zero, List.set_cons_succ]
        refine wpAnyH_take (i := 10) (v := undef) rfl (by kernel_rfl) (by kernel_rfl) (by kernel_rfl) (fun _ _ _ h => h) (Or.inr ⟨by rfl, rfl⟩) hHeld ?_
        try simp only [Act.put, List.getElem_toArray, List.getElem_cons_zero, List.getElem_cons_succ, List.setIfInBounds_toArray, List.set_cons_zero, List.set_cons_succ]
        refine wpAnyH_take (i := 11) (v := undef) rfl (by kernel_rfl) (by kernel_rfl) (by kernel_rfl) (fun _ _ _ h => h) (Or.inr ⟨by rfl, rfl⟩) hHeld ?_
        try simp only [Act.put, List.getElem_toArray, List.getElem_cons_zero, List.getElem_cons_succ, List.setIfInBounds_toArray, List.set_cons_zero, List.set_cons_succ]
        refine wpAnyH_take (i := 12) (v := ?_) rfl (by kernel_rfl) (by kernel_rfl) (by kernel_rfl) (fun _ _ _ h => h) (Or.inl ⟨by rfl, ?_⟩) hHeld ?_
        rotate_left 1
        · (intro w hSw; (try dsimp only at hSw); go_simp; try with_reducible rfl)
        try simp only [Act.put, List.getElem_toArray, List.getElem_cons_zero, List.getElem_cons_succ, List.setIfInBounds_toArray, List.set_cons_zero, List.set_cons_succ]
        refine wpAnyH_done (by kernel_rfl) ?_ _
        refine NoPanic.normal ?_
        have hrb9 := (HRb.out.G g8)
        have c9 := hrb9.cell; have z9 := hrb9.frozen
        have HC9 := hide ((((((((hrb9.set 0 (I 0)).set 1 (I 0)).set 2 (.string { data := #[] })).set 3 (.string { data := #[] })).set 4 (I 0)).set 5 (.string { data := #[] })).set 6 (.string { data := #[] })).set 7 (I 0))
        have HG9 : Hid (G W ((((((((w8.setCell ⟨rb, 0, none⟩ (I 0)).setCell ⟨rb, 1, none⟩ (I 0)).setCell ⟨rb, 2, none⟩ (.string { data := #[] })).setCell ⟨rb, 3, none⟩ (.string { data := #[] })).setCell ⟨rb, 4, none⟩ (I 0)).setCell ⟨rb, 5, none⟩ (.string { data := #[] })).setCell ⟨rb, 6, none⟩ (.string { data := #[] })).setCell ⟨rb, 7, none⟩ (I 0))) := (((((((((HGW.out.trans g8).setCell HRS.out (I 0)).setCell HRS.out (I 0)).setCell HRS.out (.string { data := #[] })).setCell HRS.out (.string { data := #[] })).setCell HRS.out (I 0)).setCell HRS.out (.string { data := #[] })).setCell HRS.out (.string { data := #[] })).setCell HRS.out (I 0))
        clear hrb9
        go_wp2_with fail
        exact bodyPost_ret_by (v := .tuple #[.agg #[I 0, I 0, .string { data := #[] }, .string { data := #[] }, I 0, .string { data := #[] }, .string { data := #[] }, I 0], .bool false]) (retS _ _ rb _ false rfl rfl HC9.out rfl) rfl ⟨.inr ⟨HF.out, rfl⟩, HG9.out⟩
      | true =>
        obtain ⟨kb, hkb, hk1, hk6⟩ := stands_kind hst
        obtain ⟨fw, f0, f1, f2, f3, f4, f5⟩ := form_at kb hk1 hk6
        have KIA : Hid (∀ V, G wr V → _) := fun V hV => isAll_any fw (fProps kb) (fKey kb) (fIs kb) (fEnds kb) (fN kb) x.ps _ V ((HA.out.G hgW).G hV) (by omega)
        have HSB : Hid (saidB x = allB (fProps kb) (fKey kb) (fIs kb) (fEnds kb) (fN kb) x.ps) := by rw [Hid, saidB, ← hr2, hst, hta2, kAll, hkb]; simp
        have KST : Hid (∀ V, G wr V → Calls Tryz.prog 71 #[.agg #[I r.id, I kb, .string r.of, .string r.key, I r.is, .string r.fr, .string r.dst, I r.n]] V fun e W' => e = .returned (.bool true) ∧ G V W') := fun V hV => by
          have := KST.out V hV
          rw [hst, hkb] at this
          exact this
        have hTr := HT.out.G hgW
        have HS : Hid (∀ V, G wr V → (∀ t, V.cell? ⟨B0, t, none⟩ = ([I x.id, .string x.lb, .slice pa pn pc] : List Value)[t]?) ∧ (∀ t, V.cell? ⟨rB, t, none⟩ = ([I r.id, I kb, .string r.of, .string r.key, I r.is, .string r.fr, .string r.dst, I r.n] : List Value)[t]?) ∧ V.cell? ⟨0, kb * 6, none⟩ = some (.string fw) ∧ V.cell? ⟨0, kb * 6 + 1, none⟩ = some (I (fProps kb)) ∧ V.cell? ⟨0, kb * 6 + 2, none⟩ = some (.bool (fKey kb)) ∧ V.cell? ⟨0, kb * 6 + 3, none⟩ = some (.bool (fIs kb)) ∧ V.cell? ⟨0, kb * 6 + 4, none⟩ = some (.bool (fEnds kb)) ∧ V.cell? ⟨0, kb * 6 + 5, none⟩ = some (.bool (fN kb)) ∧ G wr V) := fun V h => ⟨(HB0'.out.G h).cell, (by have := (HbR.out.G h).cell; rw [hkb] at this; exact this), ((hTr.G h).f _).trans f0, ((hTr.G h).f _).trans f1, ((hTr.G h).f _).trans f2, ((hTr.G h).f _).trans f3, ((hTr.G h).f _).trans f4, ((hTr.G h).f _).trans f5, h⟩
        have HRX := hide hr2
        have HKB := hide hkb
        have d7 : (kb : Int) < 7 := by omega
        have d6 : kb < 7 := by omega
        clear hst hik hil hr hta hbR hch hgW hb0 hbr hr2 hta2 hln hne hTr f0 f1 f2 f3 f4 f5 hk1 hk6
        cases hab : allB (fProps kb) (fKey kb) (fIs kb) (fEnds kb) (fN kb) x.ps with
        | false =>
          have HF : Hid (saidB x = false) := by rw [Hid, HSB.out, hab]
          rw [hab] at KIA
          clear hab HSB hkb
          go_wp2_with fail
          refine wp_region_noPanic ?_
          refine wp_region_held_drew (S := (fun V => (∀ t, V.cell? ⟨B0, t, none⟩ = ([I x.id, .string x.lb, .slice pa pn pc] : List Value)[t]?) ∧ (∀ t, V.cell? ⟨rB, t, none⟩ = ([I r.id, I kb, .string r.of, .string r.key, I r.is, .string r.fr, .string r.dst, I r.n] : List Value)[t]?) ∧ V.cell? ⟨0, kb * 6, none⟩ = some (.string fw) ∧ V.cell? ⟨0, kb * 6 + 1, none⟩ = some (I (fProps kb)) ∧ V.cell? ⟨0, kb * 6 + 2, none⟩ = some (.bool (fKey kb)) ∧ V.cell? ⟨0, kb * 6 + 3, none⟩ = some (.bool (fIs kb)) ∧ V.cell? ⟨0, kb * 6 + 4, none⟩ = some (.bool (fEnds kb)) ∧ V.cell? ⟨0, kb * 6 + 5, none⟩ = some (.bool (fN kb)) ∧ G wr V)) (by kernel_rfl) (HS.out _ ((G.refl _).drew)) (fun hHeld => ?_)
          refine wpAnyH_take (i := 0) (v := ?_) rfl (by kernel_rfl) (by kernel_rfl) (by kernel_rfl) (fun _ _ _ h => h) (Or.inl ⟨by rfl, ?_⟩) hHeld ?_
          rotate_left 1
          · (intro w hSw; obtain ⟨k1, k2, f0, f1, f2, f3, f4, f5, -⟩ := hSw; go_simp; try with_reducible rfl)
          try simp only [Act.put, List.getElem_toArray, List.getElem_cons_zero, List.setIfInBounds_toArray, List.set_cons_zero, List.set_cons_succ]
          refine wpAnyH_ready (rs := [1]) (by kernel_rfl) (by simp) (AllReadyH.cons rfl (fun K hK => ?_) AllReadyH.nil)
          clear hHeld
          (try refine (if_pos rfl).mpr ?_)
          go_simp
          refine (KST.out _ ((G.refl _).drew)).mono ?_
          rintro e w8 ⟨rfl, g8'⟩
          have g8 : G wr w8 := ((G.refl _).drew).trans g8'
          clear g8' KST
          go_wp2_with fail
          refine hK.out _ _ (HS.out w8 g8) (fun hHeld => ?_)
          clear hK K
          try simp only [Act.put, List.getElem_toArray, List.getElem_cons_zero, List.getElem_cons_succ, List.setIfInBounds_toArray, List.set_cons_zero, List.set_cons_succ]
          refine wpAnyH_take (i := 2) (v := ?_) rfl (by kernel_rfl) (by kernel_rfl) (by kernel_rfl) (fun _ _ _ h => h) (Or.inl ⟨by rfl, ?_⟩) hHeld ?_
          rotate_left 1
          · (intro w hSw; (try dsimp only at hSw); go_simp; try with_reducible rfl)
          try simp only [Act.put, List.getElem_toArray, List.getElem_cons_zero, List.getElem_cons_succ, List.setIfInBounds_toArray, List.set_cons_zero, List.set_cons_succ]
          refine wpAnyH_take (i := 3) (v := ?_) rfl (by kernel_rfl) (by kernel_rfl) (by kernel_rfl) (fun _ _ _ h => h) (Or.inl ⟨by rfl, ?_⟩) hHeld ?_
          rotate_left 1
          · (intro w hSw; (try dsimp only at hSw); go_simp; try with_reducible rfl)
          try simp only [Act.put, List.getElem_toArray, List.getElem_cons_zero, List.getElem_cons_succ, List.setIfInBounds_toArray, List.set_cons_zero, List.set_cons_succ]
          refine wpAnyH_take (i := 4) (v := ?_) rfl (by kernel_rfl) (by kernel_rfl) (by kernel_rfl) (fun _ _ _ h => h) (Or.inl ⟨by rfl, ?_⟩) hHeld ?_
          rotate_left 1
          · (intro w hSw; (try dsimp only at hSw); go_simp; try with_reducible rfl)
          try simp only [Act.put, List.getElem_toArray, List.getElem_cons_zero, List.getElem_cons_succ, List.setIfInBounds_toArray, List.set_cons_zero, List.set_cons_succ]
          refine wpAnyH_take (i := 5) (v := ?_) rfl (by kernel_rfl) (by kernel_rfl) (by kernel_rfl) (fun _ _ _ h => h) (Or.inl ⟨by rfl, ?_⟩) hHeld ?_
          rotate_left 1
          · (intro w hSw; obtain ⟨k1, k2, f0, f1, f2, f3, f4, f5, -⟩ := hSw; go_simp; try with_reducible rfl)
          try simp only [Act.put, List.getElem_toArray, List.getElem_cons_zero, List.getElem_cons_succ, List.setIfInBounds_toArray, List.set_cons_zero, List.set_cons_succ]
          refine wpAnyH_take (i := 6) (v := ?_) rfl (by kernel_rfl) (by kernel_rfl) (by kernel_rfl) (fun _ _ _ h => h) (Or.inl ⟨by rfl, ?_⟩) hHeld ?_
          rotate_left 1
          · (intro w hSw; (try dsimp only at hSw); go_simp; try with_reducible rfl)
          try simp only [Act.put, List.getElem_toArray, List.getElem_cons_zero, List.getElem_cons_succ, List.setIfInBounds_toArray, List.set_cons_zero, List.set_cons_succ]
          refine wpAnyH_take (i := 7) (v := ?_) rfl (by kernel_rfl) (by kernel_rfl) (by kernel_rfl) (fun _ _ _ h => h) (Or.inl ⟨by rfl, ?_⟩) hHeld ?_
          rotate_left 1
          · (intro w hSw; obtain ⟨k1, k2, f0, f1, f2, f3, f4, f5, -⟩ := hSw; go_simp; try with_reducible rfl)
          try simp only [Act.put, List.getElem_toArray, List.getElem_cons_zero, List.getElem_cons_succ, List.setIfInBounds_toArray, List.set_cons_zero, List.set_cons_succ]
          refine wpAnyH_take (i := 8) (v := ?_) rfl (by kernel_rfl) (by kernel_rfl) (by kernel_rfl) (fun _ _ _ h => h) (Or.inl ⟨by rfl, ?_⟩) hHeld ?_
          rotate_left 1
          · (intro w hSw; (try dsimp only at hSw); go_simp; try with_reducible rfl)
          try simp only [Act.put, List.getElem_toArray, List.getElem_cons_zero, List.getElem_cons_succ, List.setIfInBounds_toArray, List.set_cons_zero, List.set_cons_succ]
          refine wpAnyH_take (i := 9) (v := ?_) rfl (by kernel_rfl) (by kernel_rfl) (by kernel_rfl) (fun _ _ _ h => h) (Or.inl ⟨by rfl, ?_⟩) hHeld ?_
          rotate_left 1
          · (intro w hSw; obtain ⟨k1, k2, f0, f1, f2, f3, f4, f5, -⟩ := hSw; go_simp; try with_reducible rfl)
          try simp only [Act.put, List.getElem_toArray, List.getElem_cons_zero, List.getElem_cons_succ, List.setIfInBounds_toArray, List.set_cons_zero, List.set_cons_succ]
          refine wpAnyH_ready (rs := [10]) (by kernel_rfl) (by simp) (AllReadyH.cons rfl (fun K hK => ?_) AllReadyH.nil)
          clear hHeld
          (try refine (if_pos rfl).mpr ?_)
          go_simp
          refine (KIA.out _ g8).mono ?_
          rintro e w9 ⟨rfl, g9'⟩
          have g9 : G wr w9 := g8.trans g9'
          clear g9' KIA
          go_wp2_with fail
          refine hK.out _ _ (HS.out w9 g9) (fun hHeld => ?_)
          clear hK K
          try simp only [Act.put, List.getElem_toArray, List.getElem_cons_zero, List.getElem_cons_succ, List.setIfInBounds_toArray, List.set_cons_zero, List.set_cons_succ]
          refine wpAnyH_take (i := 11) (v := ?_) rfl (by kernel_rfl) (by kernel_rfl) (by kernel_rfl) (fun _ _ _ h => h) (Or.inl ⟨by rfl, ?_⟩) hHeld ?_
          rotate_left 1
          · (intro w hSw; (try dsimp only at hSw); go_simp; try with_reducible rfl)
          try simp only [Act.put, List.getElem_toArray, List.getElem_cons_zero, List.getElem_cons_succ, List.setIfInBounds_toArray, List.set_cons_zero, List.set_cons_succ]
          refine wpAnyH_take (i := 12) (v := ?_) rfl (by kernel_rfl) (by kernel_rfl) (by kernel_rfl) (fun _ _ _ h => h) (Or.inl ⟨by rfl, ?_⟩) hHeld ?_
          rotate_left 1
          · (intro w hSw; (try dsimp only at hSw); go_simp; try with_reducible rfl)
          try simp only [Act.put, List.getElem_toArray, List.getElem_cons_zero, List.getElem_cons_succ, List.setIfInBounds_toArray, List.set_cons_zero, List.set_cons_succ]
          refine wpAnyH_done (by kernel_rfl) ?_ _
          refine NoPanic.normal ?_
          have hrb9 := (HRb.out.G g9)
          have c9 := hrb9.cell; have z9 := hrb9.frozen
          have HC9 := hide ((((((((hrb9.set 0 (I 0)).set 1 (I 0)).set 2 (.string { data := #[] })).set 3 (.string { data := #[] })).set 4 (I 0)).set 5 (.string { data := #[] })).set 6 (.string { data := #[] })).set 7 (I 0))
          have HG9 : Hid (G W ((((((((w9.setCell ⟨rb, 0, none⟩ (I 0)).setCell ⟨rb, 1, none⟩ (I 0)).setCell ⟨rb, 2, none⟩ (.string { data := #[] })).setCell ⟨rb, 3, none⟩ (.string { data := #[] })).setCell ⟨rb, 4, none⟩ (I 0)).setCell ⟨rb, 5, none⟩ (.string { data := #[] })).setCell ⟨rb, 6, none⟩ (.string { data := #[] })).setCell ⟨rb, 7, none⟩ (I 0))) := (((((((((HGW.out.trans g9).setCell HRS.out (I 0)).setCell HRS.out (I 0)).setCell HRS.out (.string { data := #[] })).setCell HRS.out (.string { data := #[] })).setCell HRS.out (I 0)).setCell HRS.out (.string { data := #[] })).setCell HRS.out (.string { data := #[] })).setCell HRS.out (I 0))
          clear hrb9
          go_wp2_with fail
          exact bodyPost_ret_by (v := .tuple #[.agg #[I 0, I 0, .string { data := #[] }, .string { data := #[] }, I 0, .string { data := #[] }, .string { data := #[] }, I 0], .bool false]) (retS _ _ rb _ false rfl rfl HC9.out rfl) rfl ⟨.inr ⟨HF.out, rfl⟩, HG9.out⟩
        | true =>
          have HF : Hid (saidB x = true) := by rw [Hid, HSB.out, hab]
          rw [hab] at KIA
          clear hab HSB hkb
          go_wp2_with fail
          refine wp_region_noPanic ?_
          refine wp_region_held_drew (S := (fun V => (∀ t, V.cell? ⟨B0, t, none⟩ = ([I x.id, .string x.lb, .slice pa pn pc] : List Value)[t]?) ∧ (∀ t, V.cell? ⟨rB, t, none⟩ = ([I r.id, I kb, .string r.of, .string r.key, I r.is, .string r.fr, .string r.dst, I r.n] : List Value)[t]?) ∧ V.cell? ⟨0, kb * 6, none⟩ = some (.string fw) ∧ V.cell? ⟨0, kb * 6 + 1, none⟩ = some (I (fProps kb)) ∧ V.cell? ⟨0, kb * 6 + 2, none⟩ = some (.bool (fKey kb)) ∧ V.cell? ⟨0, kb * 6 + 3, none⟩ = some (.bool (fIs kb)) ∧ V.cell? ⟨0, kb * 6 + 4, none⟩ = some (.bool (fEnds kb)) ∧ V.cell? ⟨0, kb * 6 + 5, none⟩ = some (.bool (fN kb)) ∧ G wr V)) (by kernel_rfl) (HS.out _ ((G.refl _).drew)) (fun hHeld => ?_)
          refine wpAnyH_take (i := 0) (v := ?_) rfl (by kernel_rfl) (by kernel_rfl) (by kernel_rfl) (fun _ _ _ h => h) (Or.inl ⟨by rfl, ?_⟩) hHeld ?_
          rotate_left 1
          · (intro w hSw; obtain ⟨k1, k2, f0, f1, f2, f3, f4, f5, -⟩ := hSw; go_simp; try with_reducible rfl)
          try simp only [Act.put, List.getElem_toArray, List.getElem_cons_zero, List.setIfInBounds_toArray, List.set_cons_zero, List.set_cons_succ]
          refine wpAnyH_ready (rs := [1]) (by kernel_rfl) (by simp) (AllReadyH.cons rfl (fun K hK => ?_) AllReadyH.nil)
          clear hHeld
          (try refine (if_pos rfl).mpr ?_)
          go_simp
          refine (KST.out _ ((G.refl _).drew)).mono ?_
          rintro e w8 ⟨rfl, g8'⟩
          have g8 : G wr w8 := ((G.refl _).drew).trans g8'
          clear g8' KST
          go_wp2_with fail
          refine hK.out _ _ (HS.out w8 g8) (fun hHeld => ?_)
          clear hK K
          try simp only [Act.put, List.getElem_toArray, List.getElem_cons_zero, List.getElem_cons_succ, List.setIfInBounds_toArray, List.set_cons_zero, List.set_cons_succ]
          refine wpAnyH_take (i := 2) (v := ?_) rfl (by kernel_rfl) (by kernel_rfl) (by kernel_rfl) (fun _ _ _ h => h) (Or.inl ⟨by rfl, ?_⟩) hHeld ?_
          rotate_left 1
          · (intro w hSw; (try dsimp only at hSw); go_simp; try with_reducible rfl)
          try simp only [Act.put, List.getElem_toArray, List.getElem_cons_zero, List.getElem_cons_succ, List.setIfInBounds_toArray, List.set_cons_zero, List.set_cons_succ]
          refine wpAnyH_take (i := 3) (v := ?_) rfl (by kernel_rfl) (by kernel_rfl) (by kernel_rfl) (fun _ _ _ h => h) (Or.inl ⟨by rfl, ?_⟩) hHeld ?_
          rotate_left 1
          · (intro w hSw; (try dsimp only at hSw); go_simp; try with_reducible rfl)
          try simp only [Act.put, List.getElem_toArray, List.getElem_cons_zero, List.getElem_cons_succ, List.setIfInBounds_toArray, List.set_cons_zero, List.set_cons_succ]
          refine wpAnyH_take (i := 4) (v := ?_) rfl (by kernel_rfl) (by kernel_rfl) (by kernel_rfl) (fun _ _ _ h => h) (Or.inl ⟨by rfl, ?_⟩) hHeld ?_
          rotate_left 1
          · (intro w hSw; (try dsimp only at hSw); go_simp; try with_reducible rfl)
          try simp only [Act.put, List.getElem_toArray, List.getElem_cons_zero, List.getElem_cons_succ, List.setIfInBounds_toArray, List.set_cons_zero, List.set_cons_succ]
          refine wpAnyH_take (i := 5) (v := ?_) rfl (by kernel_rfl) (by kernel_rfl) (by kernel_rfl) (fun _ _ _ h => h) (Or.inl ⟨by rfl, ?_⟩) hHeld ?_
          rotate_left 1
          · (intro w hSw; obtain ⟨k1, k2, f0, f1, f2, f3, f4, f5, -⟩ := hSw; go_simp; try with_reducible rfl)
          try simp only [Act.put, List.getElem_toArray, List.getElem_cons_zero, List.getElem_cons_succ, List.setIfInBounds_toArray, List.set_cons_zero, List.set_cons_succ]
          refine wpAnyH_take (i := 6) (v := ?_) rfl (by kernel_rfl) (by kernel_rfl) (by kernel_rfl) (fun _ _ _ h => h) (Or.inl ⟨by rfl, ?_⟩) hHeld ?_
          rotate_left 1
          · (intro w hSw; (try dsimp only at hSw); go_simp; try with_reducible rfl)
          try simp only [Act.put, List.getElem_toArray, List.getElem_cons_zero, List.getElem_cons_succ, List.setIfInBounds_toArray, List.set_cons_zero, List.set_cons_succ]
          refine wpAnyH_take (i := 7) (v := ?_) rfl (by kernel_rfl) (by kernel_rfl) (by kernel_rfl) (fun _ _ _ h => h) (Or.inl ⟨by rfl, ?_⟩) hHeld ?_
          rotate_left 1
          · (intro w hSw; obtain ⟨k1, k2, f0, f1, f2, f3, f4, f5, -⟩ := hSw; go_simp; try with_reducible rfl)
          try simp only [Act.put, List.getElem_toArray, List.getElem_cons_zero, List.getElem_cons_succ, List.setIfInBounds_toArray, List.set_cons_zero, List.set_cons_succ]
          refine wpAnyH_take (i := 8) (v := ?_) rfl (by kernel_rfl) (by kernel_rfl) (by kernel_rfl) (fun _ _ _ h => h) (Or.inl ⟨by rfl, ?_⟩) hHeld ?_
          rotate_left 1
          · (intro w hSw; (try dsimp only at hSw); go_simp; try with_reducible rfl)
          try simp only [Act.put, List.getElem_toArray, List.getElem_cons_zero, List.getElem_cons_succ, List.setIfInBounds_toArray, List.set_cons_zero, List.set_cons_succ]
          refine wpAnyH_take (i := 9) (v := ?_) rfl (by kernel_rfl) (by kernel_rfl) (by kernel_rfl) (fun _ _ _ h => h) (Or.inl ⟨by rfl, ?_⟩) hHeld ?_
          rotate_left 1
          · (intro w hSw; obtain ⟨k1, k2, f0, f1, f2, f3, f4, f5, -⟩ := hSw; go_simp; try with_reducible rfl)
          try simp only [Act.put, List.getElem_toArray, List.getElem_cons_zero, List.getElem_cons_succ, List.setIfInBounds_toArray, List.set_cons_zero, List.set_cons_succ]
          refine wpAnyH_ready (rs := [10]) (by kernel_rfl) (by simp) (AllReadyH.cons rfl (fun K hK => ?_) AllReadyH.nil)
          clear hHeld
          (try refine (if_pos rfl).mpr ?_)
          go_simp
          refine (KIA.out _ g8).mono ?_
          rintro e w9 ⟨rfl, g9'⟩
          have g9 : G wr w9 := g8.trans g9'
          clear g9' KIA
          go_wp2_with fail
          refine hK.out _ _ (HS.out w9 g9) (fun hHeld => ?_)
          clear hK K
          try simp only [Act.put, List.getElem_toArray, List.getElem_cons_zero, List.getElem_cons_succ, List.setIfInBounds_toArray, List.set_cons_zero, List.set_cons_succ]
          refine wpAnyH_take (i := 11) (v := ?_) rfl (by kernel_rfl) (by kernel_rfl) (by kernel_rfl) (fun _ _ _ h => h) (Or.inl ⟨by rfl, ?_⟩) hHeld ?_
          rotate_left 1
          · (intro w hSw; (try dsimp only at hSw); go_simp; try with_reducible rfl)
          try simp only [Act.put, List.getElem_toArray, List.getElem_cons_zero, List.getElem_cons_succ, List.setIfInBounds_toArray, List.set_cons_zero, List.set_cons_succ]
          refine wpAnyH_take (i := 12) (v := ?_) rfl (by kernel_rfl) (by kernel_rfl) (by kernel_rfl) (fun _ _ _ h => h) (Or.inl ⟨by rfl, ?_⟩) hHeld ?_
          rotate_left 1
          · (intro w hSw; (try dsimp only at hSw); go_simp; try with_reducible rfl)
          try simp only [Act.put, List.getElem_toArray, List.getElem_cons_zero, List.getElem_cons_succ, List.setIfInBounds_toArray, List.set_cons_zero, List.set_cons_succ]
          refine wpAnyH_done (by kernel_rfl) ?_ _
          refine NoPanic.normal ?_
          have hrb9 := (HRb.out.G g9)
          have c9 := hrb9.cell; have z9 := hrb9.frozen
          have cR := (HbR.out.G g9).cell
          rw [HKB.out] at cR
          have HC9 := hide ((((((((hrb9.set 0 (I r.id)).set 1 (I kb)).set 2 (.string r.of)).set 3 (.string r.key)).set 4 (I r.is)).set 5 (.string r.fr)).set 6 (.string r.dst)).set 7 (I r.n))
          have HG9 : Hid (G W ((((((((w9.setCell ⟨rb, 0, none⟩ (I r.id)).setCell ⟨rb, 1, none⟩ (I kb)).setCell ⟨rb, 2, none⟩ (.string r.of)).setCell ⟨rb, 3, none⟩ (.string r.key)).setCell ⟨rb, 4, none⟩ (I r.is)).setCell ⟨rb, 5, none⟩ (.string r.fr)).setCell ⟨rb, 6, none⟩ (.string r.dst)).setCell ⟨rb, 7, none⟩ (I r.n))) := (((((((((HGW.out.trans g9).setCell HRS.out (I r.id)).setCell HRS.out (I kb)).setCell HRS.out (.string r.of)).setCell HRS.out (.string r.key)).setCell HRS.out (I r.is)).setCell HRS.out (.string r.fr)).setCell HRS.out (.string r.dst)).setCell HRS.out (I r.n))
          clear hrb9
          go_wp2_with fail
          exact bodyPost_ret_by (v := .tuple #[.agg #[I r.id, I kb, .string r.of, .string r.key, I r.is, .string r.fr, .string r.dst, I r.n], .bool true]) (retS _ _ rb _ true rfl rfl HC9.out rfl) rfl ⟨.inl ⟨HF.out, by rw [← HRX.out, HKB.out]⟩, HG9.out⟩
end Go.Proofs.YtifioikdhfhljaaGreatDoor
