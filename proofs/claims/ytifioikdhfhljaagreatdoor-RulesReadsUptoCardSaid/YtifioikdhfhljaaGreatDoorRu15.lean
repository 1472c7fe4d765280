/- Rules: RulesReads. -/
import Derived.Test.YtifioikdhfhljaaGreatDoorRu14
namespace Go.Proofs.YtifioikdhfhljaaGreatDoor
open Go.RowKit

theorem find_congr {α : Type} {p q : α → Bool} : ∀ (l : List α), (∀ x ∈ l, p x = q x) → l.find? p = l.find? q
  | [], _ => rfl
  | x :: l, h => by
    rw [List.find?_cons, List.find?_cons, h x (by simp), find_congr l (fun y hy => h y (by simp [hy]))]
theorem psOk_of {ns : List Nd} {es : List Ed} (h : mayB ns es = true) : ∀ x ∈ ns, PsOk x.ps := fun x hx => by
  unfold mayB at h
  simp only [Bool.and_eq_true] at h
  have := List.all_eq_true.1 h.1.2 x hx
  unfold nodeOk propsOk at this
  simp only [Bool.and_eq_true] at this
  exact PsOk.of this.2.2
def rdL (ns : List Nd) (B' : Nd → Bool) (R' : Nd → Rl) : List Rl := match ns.find? (fun y => isR y && !B' y) with | some _ => [] | none => (ns.filter isR).map R'
def rdY (ns : List Nd) (B' : Nd → Bool) : Int := match ns.find? (fun y => isR y && !B' y) with | some x => x.id | none => 0
def rdC (ns : List Nd) (B' : Nd → Bool) : Int := match ns.find? (fun y => isR y && !B' y) with | some _ => 181 | none => 0
def RdP (L : List Rl) (y c : Int) (V W' : World) (e : Ending) : Prop := ∃ lv, e = .returned (.tuple #[lv, .agg #[I 0, I y, I 0], I c]) ∧ Row eRl.rel W' lv L ∧ G V W'
theorem ReadE.rd {ns : List Nd} {B : Nd → Bool} {R : Nd → Rl} {V W' : World} {e : Ending} (h : ReadE ns B R V W' e) (hg : G V W') (B' : Nd → Bool) (R' : Nd → Rl) (hB : ∀ x ∈ ns, B x = B' x ∧ (B' x = true → R x = R' x)) : RdP (rdL ns B' R') (rdY ns B') (rdC ns B') V W' e := by
  unfold rdL rdY rdC
  have hf : ns.find? (fun y => isR y && !B y) = ns.find? (fun y => isR y && !B' y) := find_congr ns (fun x hx => by rw [(hB x hx).1])
  rcases h with ⟨x, h1, rfl⟩ | ⟨h1, a, n, c, rfl, h2, -⟩
  · rw [hf] at h1
    rw [h1]
    exact ⟨_, rfl, (Sw.nil eRl 66 W').toRow, hg⟩
  · rw [hf] at h1
    rw [h1]
    refine ⟨_, rfl, ?_, hg⟩
    have : (ns.filter isR).map R = (ns.filter isR).map R' := List.map_congr_left (fun x hx => by
      obtain ⟨hx1, hx2⟩ := List.mem_filter.1 hx
      have := List.find?_eq_none.1 h1 x hx1
      refine (hB x hx1).2 ?_
      rw [hx2] at this
      simpa using this)
    rw [← this]
    exact h2.toRow
theorem reads_same (ns : List Nd) (es : List Ed) (W : World) (hs : SmB ns es) (hr : IdOk ns es) (hT : Tabs W) (hR : RT W)
    (hM : ∀ (u v : Value) (V : World), Row relN V u ns → Row relE V v es → Calls Tryz.prog 12 #[.agg #[u, v]] V fun e W' => e = .returned (.bool (mayB ns es)) ∧ G V W') :
    ∃ L y c, L.length ≤ 1048576 ∧ (∀ (u v : Value) (V : World), G W V → Row relN V u ns → Row relE V v es → Calls Tryz.prog 22 #[.agg #[u, v]] V fun e W' => RdP L y c V W' e) ∧ (∀ (u v : Value) (V : World), G W V → Row relN V u ns → Row relE V v es → Calls Tryz.prog 23 #[.agg #[u, v]] V fun e W' => RdP L y c V W' e) := by
  have hLD : ∀ (V : World), G W V → ∀ (u v : Value) (V' : World), G V V' → Row relN V' u ns → Row relE V' v es → Calls Tryz.prog 66 #[.agg #[u, v]] V' fun e W' => e = .returned (.bool (mayB ns es)) ∧ G V' W' := fun V g u v V' g' a b => rload_any ns es u v V' a b hs.gr hr (hT.G (g.trans g'))
  have hlen : ∀ x ∈ ns, x.ps.length ≤ 4611686018427387904 := fun x hx => by have := hs.p x hx; omega
  cases hm : mayB ns es with
  | false =>
    refine ⟨[], 0, 122, by simp, fun u v V g a b => ?_, fun u v V g a b => ?_⟩
    · exact (rread_no ns es u v V a b hs.n (hLD V g) hm).mono fun e W' ⟨h1, h2⟩ => ⟨_, h1, (Sw.nil eRl 66 W').toRow, h2⟩
    · exact (dread_no ns es u v V a b hs.n (fun u v V' _ a b => hM u v V' a b) hm).mono fun e W' ⟨h1, h2⟩ => ⟨_, h1, (Sw.nil eRl 66 W').toRow, h2⟩
  | true =>
    have hps := psOk_of hm
    refine ⟨rdL ns saysB saysR, rdY ns saysB, rdC ns saysB, ?_, fun u v V g a b => ?_, fun u v V g a b => ?_⟩
    rotate_left 1
    · exact (rread_yes saidB saidR ns es u v V a b hs.n (hLD V g) hm (fun x hx pv V' g' hp => (said_any x pv V' hp (hlen x hx) (hR.G (g.trans g'))).mono fun e W' ⟨h1, h2⟩ => by
        refine ⟨?_, h2⟩
        rcases h1 with ⟨q, rfl⟩ | ⟨q, rfl⟩
        · exact ⟨saidR x, by rw [q], fun _ => rfl⟩
        · exact ⟨⟨0, 0, { data := #[] }, { data := #[] }, 0, { data := #[] }, { data := #[] }, 0⟩, by rw [q], fun e => by rw [q] at e; cases e⟩)).mono fun e W' ⟨h1, h2⟩ => h1.rd h2 saysB saysR (fun x hx => said_eq x (hps x hx))
    · exact (dread_yes saysB saysR ns es u v V a b hs.n (fun u v V' _ a b => hM u v V' a b) hm (fun x hx pv V' g' hp => (says_any x pv V' hp (hlen x hx)).mono fun e W' ⟨h1, h2⟩ => ⟨⟨saysR x, h1, fun _ => rfl⟩, h2⟩)).mono fun e W' ⟨h1, h2⟩ => h1.rd h2 saysB saysR (fun x hx => ⟨rfl, fun _ => rfl⟩)
    · unfold rdL
      split
      · simp
      · rw [List.length_map]
        exact Nat.le_trans (List.length_filter_le _ _) hs.n
set_option maxRecDepth 100000 in
set_option maxHeartbeats 8000000 in
theorem rreads_any (ns : List Nd) (es : List Ed) (nv ev : Value) (W : World) (h1 : Row relN W nv ns) (h2 : Row relE W ev es) (hs : SmB ns es) (hr : IdOk ns es) (hT : Tabs W) (hR : RT W)
    (hM : ∀ (u v : Value) (V : World), Row relN V u ns → Row relE V v es → Calls Tryz.prog 12 #[.agg #[u, v]] V fun e W' => e = .returned (.bool (mayB ns es)) ∧ G V W') :
    Calls Tryz.prog 5 #[.agg #[nv, ev]] W fun e W' => e = .returned (.bool true) ∧ G W W' := by
  obtain ⟨L, y, c, hL, hK1, hK2⟩ := reads_same ns es W hs hr hT hR hM
  obtain ⟨na, nc, rfl⟩ := h1.form
  obtain ⟨ea, ec, rfl⟩ := h2.form
  obtain ⟨kn, hkn⟩ : ∃ n, n = ns.length := ⟨_, rfl⟩
  obtain ⟨ke, hke⟩ : ∃ n, n = es.length := ⟨_, rfl⟩
  rw [← hkn] at h1 ⊢
  rw [← hke] at h2 ⊢
  obtain ⟨w2, hw1⟩ : ∃ w, w = W.alloc (.cells #[.slice na kn nc, .slice ea ke ec] 25) := ⟨_, rfl⟩
  obtain ⟨B1, hb1⟩ : ∃ b, b = W.heap.size := ⟨_, rfl⟩
  have hg1 : G W w2 := by rw [hw1]; exact (G.refl _).alloc _
  have hB1 : Blk w2 B1 25 [.slice na kn nc, .slice ea ke ec] := by rw [hw1, hb1]; exact Blk.new W [.slice na kn nc, .slice ea ke ec] 25
  have HE1 : Hid (W.alloc (.cells #[.slice na kn nc, .slice ea ke ec] 25) = w2) := hw1.symm
  have HF1 : Hid (W.heap.size = B1) := hb1.symm
  clear hw1 hb1
  have HKK : Hid (kn = ns.length ∧ ke = es.length) := ⟨hkn, hke⟩
  have K1 := hide hK1; have K2 := hide hK2; have HL := hide hL; have HS := hide (And.intro h1 h2); have HSM := hide hs
  have HG1 := hide hg1; have HB1 := hide hB1
  have KG := hide (rgive_any ns es _ _ w2 (h1.G hg1) (h2.G hg1) hs)
  have c1 := hB1.cell
  clear h1 h2 hs hr hT hR hM hL hK1 hK2 hg1 hB1 hkn hke
  go_enter Tryz.func5, Tryz.ntmps5
  go_wp2_with (first | (rw [HE1.out]; (try rw [HF1.out]); clear HE1) | fail)
  try rw [HE1.out]
  try rw [HF1.out]
  clear c1
  refine KG.out.mono ?_
  intro e w3 hgv
  unfold GiveP at hgv
  obtain ⟨sb, b0, d0, b1, d1, a3, c3, rfl, ⟨gb, gn, ge, gr⟩, -, hg3⟩ := hgv
  rw [← HKK.out.1, ← HKK.out.2]
  obtain ⟨w4, hw2⟩ : ∃ w, w = w3.alloc (.cells #[.slice b0 kn d0, .slice b1 ke d1] 25) := ⟨_, rfl⟩
  obtain ⟨B3, hb2⟩ : ∃ b, b = w3.heap.size := ⟨_, rfl⟩
  have hg2 : G w3 w4 := by rw [hw2]; exact (G.refl _).alloc _
  have hB2 : Blk w4 B3 25 [.slice b0 kn d0, .slice b1 ke d1] := by rw [hw2, hb2]; exact Blk.new w3 [.slice b0 kn d0, .slice b1 ke d1] 25
  have HE2 : Hid (w3.alloc (.cells #[.slice b0 kn d0, .slice b1 ke d1] 25) = w4) := hw2.symm
  have HF2 : Hid (w3.heap.size = B3) := hb2.symm
  clear hw2 hb2
  have hg4 := (HG1.out.trans hg3).trans hg2
  have HGV := hide (And.intro (gb.G hg2) (And.intro (gn.G hg2) (And.intro (ge.G hg2) (gr.G hg2))))
  have HB14 := hide ((HB1.out.G hg3).G hg2); have HG4 := hide hg4; have HB3 := hide hB2
  have c3' := hB2.cell
  have t1 := (gn.G hg2).take (m := ns.length) (by omega)
  have t2 := (ge.G hg2).take (m := es.length) (by omega)
  rw [List.take_left' rfl] at t1 t2
  have KR1 := hide (K1.out _ _ w4 hg4 t1.row9N t2.row9E)
  rw [← HKK.out.1, ← HKK.out.2] at KR1
  clear gb gn ge gr hg3 hg2 hg4 hB2 t1 t2 KG K1
  go_wp2_with (first | (rw [HE2.out]; (try rw [HF2.out]); clear HE2) | fail)
  try rw [HE2.out]
  try rw [HF2.out]
  clear c3'
  refine KR1.out.mono ?_
  rintro e w5 ⟨lv, rfl, hlv, hg5⟩
  obtain ⟨w6, hw3⟩ : ∃ w, w = w5.alloc (.cells #[I 0, I y, I 0] 59) := ⟨_, rfl⟩
  obtain ⟨B6, hb3⟩ : ∃ b, b = w5.heap.size := ⟨_, rfl⟩
  have hg3 : G w5 w6 := by rw [hw3]; exact (G.refl _).alloc _
  have hB3 : Blk w6 B6 59 [I 0, I y, I 0] := by rw [hw3, hb3]; exact Blk.new w5 [I 0, I y, I 0] 59
  have HE3 : Hid (w5.alloc (.cells #[I 0, I y, I 0] 59) = w6) := hw3.symm
  have HF3 : Hid (w5.heap.size = B6) := hb3.symm
  clear hw3 hb3
  have HLV := hide (hlv.G hg3)
  have hg46 := hg5.trans hg3
  have HG46 := hide hg46
  have HB6 := hide hB3
  have HB16 := hide (HB14.out.G hg46)
  have c1 := HB16.out.cell
  have hs9 := HS.out
  have KR2 := hide (K2.out _ _ w6 (HG4.out.trans hg46) (hs9.1.G (HG4.out.trans hg46)) (hs9.2.G (HG4.out.trans hg46)))
  clear hlv hg5 hg3 hg46 hB3 hs9 KR1 K2
  go_wp2_with (first | (rw [HE3.out]; (try rw [HF3.out]); clear HE3) | fail)
  try rw [HE3.out]
  try rw [HF3.out]
  clear c1
  refine KR2.out.mono ?_
  rintro e w7 ⟨mv, rfl, hmv, hg7⟩
  obtain ⟨w8, hw4⟩ : ∃ w, w = w7.alloc (.cells #[I 0, I y, I 0] 59) := ⟨_, rfl⟩
  obtain ⟨B9, hb4⟩ : ∃ b, b = w7.heap.size := ⟨_, rfl⟩
  have hg4 : G w7 w8 := by rw [hw4]; exact (G.refl _).alloc _
  have hB4 : Blk w8 B9 59 [I 0, I y, I 0] := by rw [hw4, hb4]; exact Blk.new w7 [I 0, I y, I 0] 59
  have HE4 : Hid (w7.alloc (.cells #[I 0, I y, I 0] 59) = w8) := hw4.symm
  have HF4 : Hid (w7.heap.size = B9) := hb4.symm
  clear hw4 hb4
  have hg68 := hg7.trans hg4
  have hg48 := HG46.out.trans hg68
  have KL := hide (rlist_any L _ _ w8 (HLV.out.G hg68) (hmv.G hg4) (by have := HL.out; omega))
  have HB68 := hide (HB6.out.G hg68); have HB9 := hide hB4; have HG48 := hide hg48; have HB18 := hide (HB14.out.G hg48)
  clear hmv hg7 hg4 hg68 hg48 hB4 KR2
  go_wp2_with (first | (rw [HE4.out]; (try rw [HF4.out]); clear HE4) | fail)
  try rw [HE4.out]
  try rw [HF4.out]
  refine KL.out.mono ?_
  rintro e w9 ⟨rfl, hg9⟩
  have c6 := (HB68.out.G hg9).cell
  have c9 := (HB9.out.G hg9).cell
  have c1 := (HB18.out.G hg9).cell
  have hg49 := HG48.out.trans hg9
  have hv := HGV.out
  have hs9 := HS.out
  have KS := hide (rstays_any ns es sb b0 d0 b1 d1 a3 c3 _ _ w9 (hv.1.G hg49) (hv.2.1.G hg49) (hv.2.2.1.G hg49) (hv.2.2.2.G hg49) (hs9.1.G (HG4.out.trans hg49)) (hs9.2.G (HG4.out.trans hg49)) HSM.out)
  have HG9 := hide (HG4.out.trans hg49)
  clear hg9 hg49 hv hs9 KL
  go_wp2_with fail
  refine KS.out.mono ?_
  rintro e w10 ⟨rfl, hg10⟩
  have HG10 := hide (HG9.out.trans hg10)
  clear hg10 KS c6 c9 c1
  go_wp2_with fail
  go_ret
  exact ⟨rfl, HG10.out⟩
end Go.Proofs.YtifioikdhfhljaaGreatDoor
