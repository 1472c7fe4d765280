/- Paths: the document's Least. -/
import Derived.Test.YtcbjcienjolceaaDoorPv2
import Derived.Test.YtcbjcienjolceaaDoorPw3
import Derived.Test.YtcbjcienjolceaaDoorPk4
import Derived.Test.YtcbjcienjolceaaDoorPl3
namespace Go.Proofs.YtcbjcienjolceaaDoor
open Go.RowKit

/-- An id is put ahead of a list: in memory of its own. -/
theorem pre_any (w wa : World) (z : Int) (lo : Nat) (v : Value) (ns : List Int) (h : Rw lo 2 1 w v ns.length (ns.map I)) (hb : ns.length + 1 ≤ 17179869184) (ga : G w wa) (hk : Blk wa w.heap.size 2 [I z]) :
    ∃ v' w', (Builtin.append_ #[26, 26] 26 #[.slice (some ⟨w.heap.size, 0, none⟩) 1 1, v]).run Tryd.prog wa = .ok v' w' ∧ Rw w.heap.size 2 1 w' v' (z :: ns).length ((z :: ns).map I) ∧ G w w' := by
  have hmx : (1 : Nat) ≤ maxLen := of_decide_eq_true (by kernel_rfl)
  have hr : Rw w.heap.size 2 1 wa (.slice (some ⟨w.heap.size, 0, none⟩) 1 1) 1 [I z] := ⟨by simp, .inr ⟨w.heap.size, 1, _, rfl, Nat.le_refl _, hk.h, Nat.le_refl _, hmx, by simp, by simp⟩⟩
  obtain ⟨va, vc, rfl⟩ := Rw.form h
  cases va with
  | none =>
    have h0 : ns = [] ∧ vc = 0 := by
      rcases h.2 with ⟨e, -⟩ | ⟨g, cap, cur, e, -⟩
      · simp at e; exact e
      · simp at e
    obtain ⟨rfl, rfl⟩ := h0
    obtain ⟨i0, hi0, -, -, -⟩ := info_I
    exact ⟨_, wa, run_append_owned_none (P := Tryd.prog) wa w.heap.size 26 26 2 i0 1 Tryd.underlying26 hi0 _ 1 [I z] hr, hr, ga⟩
  | some a =>
    have hc : ∀ (j : Nat) (u : Value), (ns.map I)[j]? = some u → wa.cell? (a.add j) = some u := fun j u hj => by
      have hjl := (List.getElem?_eq_some_iff.1 hj).1
      rw [List.length_map] at hjl
      obtain ⟨g, cap, e, -, hcell, -⟩ := (Rw.G h ga).cell (by omega)
      simp at e
      obtain ⟨rfl, -⟩ := e
      rw [Addr.add_mid, Nat.zero_add, hcell j (by omega)]
      exact hj
    obtain ⟨v', w', q1, q2, q3, _⟩ := app_I wa w.heap.size (.slice (some ⟨w.heap.size, 0, none⟩) 1 1) 1 [I z] hr a ns.length vc (ns.map I) (by simp) hc (fun u hu => by obtain ⟨q, _, rfl⟩ := List.mem_map.1 hu; rfl) (by omega) ga.size
    refine ⟨v', w', q1, ?_, ((ga.chg (F := fun _ => False)).more q3 (fun i hi e => by have := (Rw.own hr e).1; omega)).G (fun _ q => q.elim)⟩
    rw [List.length_cons, Nat.add_comm]
    exact q2
section
variable {W wr w2 : World} {wb rb : Nat} {s0 : Int} {nv ev v2 : Value} {ns es : List Int}
theorem WS.putN (k : WS W wr wb rb s0 nv ev ns es) {ns' : List Int} (g : G wr w2) (r : Rw wr.heap.size 2 1 w2 v2 ns'.length (ns'.map I)) : WS W (w2.setCell ⟨wb, 1, none⟩ v2) wb rb s0 v2 ev ns' es := by
  have k2 := k.grow g
  have hb := k2.bw
  have hof : ∀ (u : Value) lo n xs, Rw lo 2 1 w2 u n xs → Rw lo 2 1 (w2.setCell ⟨wb, 1, none⟩ v2) u n xs := fun u lo n xs hu => hu.keep (fun b hb' => Below.heap_setCell _ _ _ _ (fun e => Rw.offb hu hb (by decide) (by rw [hb']; exact congrArg some e)))
  refine ⟨k2.br.keep (Below.heap_setCell _ _ _ _ k.lo.2.2), hb.set 1 _, hof _ _ _ _ (Rw.base r k.g.size), hof _ _ _ _ k2.e, fun b hb e => ?_, k2.g.setCell k.lo.1 _, k.lo⟩
  have h1 := (Rw.own r hb).1
  have h2 := (Rw.own k.e e).2.1
  omega
theorem WS.putE (k : WS W wr wb rb s0 nv ev ns es) {es' : List Int} (g : G wr w2) (r : Rw wr.heap.size 2 1 w2 v2 es'.length (es'.map I)) : WS W (w2.setCell ⟨wb, 2, none⟩ v2) wb rb s0 nv v2 ns es' := by
  have k2 := k.grow g
  have hb := k2.bw
  have hof : ∀ (u : Value) lo n xs, Rw lo 2 1 w2 u n xs → Rw lo 2 1 (w2.setCell ⟨wb, 2, none⟩ v2) u n xs := fun u lo n xs hu => hu.keep (fun b hb' => Below.heap_setCell _ _ _ _ (fun e => Rw.offb hu hb (by decide) (by rw [hb']; exact congrArg some e)))
  refine ⟨k2.br.keep (Below.heap_setCell _ _ _ _ k.lo.2.2), hb.set 2 _, hof _ _ _ _ k2.n, hof _ _ _ _ (Rw.base r k.g.size), fun b hb e => ?_, k2.g.setCell k.lo.1 _, k.lo⟩
  have h1 := (Rw.own r e).1
  have h2 := (Rw.own k.n hb).2.1
  omega
end
theorem way_len {rs : List Nr} {tail : Bool} {from_ t S : Int} {fs : List Fd} {bs : Int → Option Nat} {st : List Sn} (k : Fx rs tail from_ fs bs st) (hno : ∀ p ∈ st, p.1 ≠ t) : ∀ (f j kk : Nat), j < fs.length → (st ++ [(t, S)])[kk]? = some ((fs[j]!).n, (fs[j]!).s) → (wayL fs f j).length ≤ kk + 1
  | 0, j, kk, _, _ => by simp [wayL]
  | f + 1, j, kk, hj, hk => by
    unfold wayL
    rcases k.back hno j kk hj hk with ⟨-, e⟩ | ⟨h0, q, i, a, hi, hq, hb, -, hs⟩
    · rw [e]; simp
    · have hb2 : ¬ ((fs[j]!).b < 0) := by rw [hb]; omega
      have hb3 : (fs[j]!).b.toNat = i := by rw [hb]; simp
      rw [if_neg hb2, hb3]
      have := way_len k hno f i q (by omega) hq
      have := hs.lt
      simp
      omega
set_option maxRecDepth 100000 in
set_option maxHeartbeats 2000000 in
theorem rleast_no (W : World) (rv : Value) (rs : List Nr) (tail : Bool) (from_ to_ : Int) (hN : Nrs W rv rs) (hrl : rs.length ≤ 1048576) (hal : ∀ id, (netOf rs tail id).1.length ≤ 1048576) (hf : R64 from_) (R : Rs) (hR : R = srch false rs tail (some to_) (-1) 4097 [] [(from_, 0)] []) (hh : R.hit = false) :
    Calls Tryd.prog 22 #[.agg #[rv, .bool tail], I from_, I to_] W fun e W' => ∃ av, e = .returned (.tuple #[.agg #[I 0, .slice none 0 0, .slice none 0 0], .bool false, I R.code, av]) ∧ Rw W.heap.size 2 1 W' av R.asked.length (R.asked.map I) ∧ G W W' := by
  obtain ⟨rva, rvc, hrv⟩ : ∃ a c, rv = .slice a rs.length c := by obtain ⟨a, c, e, _⟩ := hN; exact ⟨a, c, e⟩
  have gA : G W (W.alloc (.cells #[rv, .bool tail] 25)) := (G.refl W).alloc _
  subst hrv
  obtain ⟨w0, hw0⟩ : ∃ w0, w0 = ((W.alloc (.cells #[.slice rva rs.length rvc, .bool tail] 25)).alloc (.cells #[I 0, .slice none 0 0, .slice none 0 0] 40)) := ⟨_, rfl⟩
  obtain ⟨b3, hb3⟩ : ∃ b3, b3 = W.heap.size := ⟨_, rfl⟩
  obtain ⟨rb, hrb⟩ : ∃ rb, rb = W.heap.size + 1 := ⟨_, rfl⟩
  have hg0 : G W w0 := by rw [hw0]; exact ((G.refl W).alloc _).alloc _
  have hB3 : Blk w0 b3 25 [.slice rva rs.length rvc, .bool tail] := by rw [hw0, hb3]; exact (Blk.new W [.slice rva rs.length rvc, .bool tail] 25).G ((G.refl _).alloc _)
  have hBr : Blk w0 rb 40 [I 0, .slice none 0 0, .slice none 0 0] := by
    have := Blk.new (W.alloc (.cells #[.slice rva rs.length rvc, .bool tail] 25)) [I 0, .slice none 0 0, .slice none 0 0] 40
    rw [World.size_alloc] at this
    rw [hw0, hrb]
    exact this
  have HSE := hide (search_aim w0 (.slice rva rs.length rvc) rs tail from_ to_ false (hN.G hg0) hrl hal hf R hR)
  have hlo : W.heap.size ≤ rb := by omega
  have c3 := hB3.cell
  rw [hw0, hb3] at c3
  have HG0 := hide hg0
  have HB3 := hide hB3
  have HBr := hide hBr
  have HLO := hide hlo
  obtain ⟨code, hcd⟩ : ∃ code, code = R.code := ⟨_, rfl⟩
  rw [hh, ← hcd] at HSE
  rw [← hcd]
  clear gA hN hal hR hg0 hB3 hBr hlo hcd
  go_enter Tryd.func22, Tryd.ntmps22
  go_wp2_with fail
  rw [← hw0, ← hrb, ← hb3]
  clear hw0 hrb hb3
  refine HSE.out.mono ?_
  rintro e w2 ⟨sv, av, rfl, hsr, har, hg2⟩
  obtain ⟨sva, svc, rfl⟩ := Rw.form hsr
  obtain ⟨ava, avc, rfl⟩ := Rw.form har
  obtain ⟨w3, hw3⟩ : ∃ w3, w3 = w2.alloc (.cells #[.slice sva R.st.length svc, .slice ava R.asked.length avc, I code, .bool false] 86) := ⟨_, rfl⟩
  obtain ⟨fb, hfb⟩ : ∃ fb, fb = w2.heap.size := ⟨_, rfl⟩
  have hg3 : G w2 w3 := by rw [hw3]; exact (G.refl w2).alloc _
  have HBF : Hid (Blk w3 fb 86 [.slice sva R.st.length svc, .slice ava R.asked.length avc, I code, .bool false]) := by rw [hw3, hfb]; exact Blk.new w2 [.slice sva R.st.length svc, .slice ava R.asked.length avc, I code, .bool false] 86
  have HRB := hide ((HBr.out.G hg2).G hg3)
  have HNE : Hid (fb ≠ rb) := HBF.out.ne HRB.out (by decide)
  have HAV : Hid (Rw W.heap.size 2 1 w3 (.slice ava R.asked.length avc) R.asked.length (R.asked.map I)) := Rw.base (Rw.G har hg3) HG0.out.size
  have HGE := hide ((HG0.out.trans hg2).trans hg3)
  have cf := HBF.out.cell
  rw [hw3, hfb] at cf
  have c7 := ((((HRB.out.set 0 (I 0)).set 1 (.slice none 0 0)).set 2 (.slice none 0 0)).drew).cell
  simp only [List.set_cons_zero, List.set_cons_succ] at c7
  have HFI : Hid (G W (((w3.setCell ⟨rb, 0, none⟩ (I 0)).setCell ⟨rb, 1, none⟩ (.slice none 0 0)).setCell ⟨rb, 2, none⟩ (.slice none 0 0)).drew ∧ Rw W.heap.size 2 1 (((w3.setCell ⟨rb, 0, none⟩ (I 0)).setCell ⟨rb, 1, none⟩ (.slice none 0 0)).setCell ⟨rb, 2, none⟩ (.slice none 0 0)).drew (.slice ava R.asked.length avc) R.asked.length (R.asked.map I)) := by
    refine ⟨(((HGE.out.setCell (p := ⟨rb, 0, none⟩) HLO.out _).setCell (p := ⟨rb, 1, none⟩) HLO.out _).setCell (p := ⟨rb, 2, none⟩) HLO.out _).drew, ?_⟩
    refine Rw.G ?_ (G.drew (G.refl _))
    have hch : Chg (fun b => b = rb) w3 (((w3.setCell ⟨rb, 0, none⟩ (I 0)).setCell ⟨rb, 1, none⟩ (.slice none 0 0)).setCell ⟨rb, 2, none⟩ (.slice none 0 0)) := ((chg_setCell (F := fun q => q = rb) _ _ (.inl rfl)).trans (chg_setCell _ _ (.inl rfl))).trans (chg_setCell _ _ (.inl rfl))
    exact Rw.chg HAV.out hch (fun b hb e => by subst e; exact Rw.offb HAV.out HRB.out (by decide) hb)
  clear hsr har hg2 hg3 HSE c3
  by_cases hc0 : code = 0
  · have hcb : (code != 0) = false := by simp [hc0]
    have hcb2 : (code == 0) = true := by simp [hc0]
    clear hc0
    go_wp2_with fail
    rw [← hw3, ← hfb]
    clear hw3 hfb cf
    refine wp_region_noPanic ?_
    refine wp_region_held_drew (S := (fun V => (∀ o, V.cell? ⟨fb, o, none⟩ = ([.slice sva R.st.length svc, .slice ava R.asked.length avc, I code, .bool false] : List Value)[o]?))) (by kernel_rfl) ((HBF.out.drew).cell) (fun hHeld => ?_)
    refine wpAnyH_take (i := 0) (v := ?_) rfl (by kernel_rfl) (by kernel_rfl) (by kernel_rfl) (fun _ _ _ h => h) (Or.inl ⟨by rfl, ?_⟩) hHeld ?_
    rotate_left 1
    · (intro w hSw; (try dsimp only at hSw); go_simp; try with_reducible rfl)
    try simp only [Act.put, List.getElem_toArray, List.getElem_cons_zero, List.setIfInBounds_toArray, List.set_cons_zero, List.set_cons_succ]
    refine wpAnyH_take (i := 1) (v := ?_) rfl (by kernel_rfl) (by kernel_rfl) (by kernel_rfl) (fun _ _ _ h => h) (Or.inl ⟨by rfl, ?_⟩) hHeld ?_
    rotate_left 1
    · (intro w hSw; have q1 := hSw; go_simp; try with_reducible rfl)
    try simp only [Act.put, List.getElem_toArray, List.getElem_cons_zero, List.getElem_cons_succ, List.setIfInBounds_toArray, List.set_cons_zero, List.set_cons_succ]
    refine wpAnyH_take (i := 2) (v := ?_) rfl (by kernel_rfl) (by kernel_rfl) (by kernel_rfl) (fun _ _ _ h => h) (Or.inl ⟨by rfl, ?_⟩) hHeld ?_
    rotate_left 1
    · (intro w hSw; have q1 := hSw; go_simp; try with_reducible rfl)
    try simp only [Act.put, List.getElem_toArray, List.getElem_cons_zero, List.getElem_cons_succ, List.setIfInBounds_toArray, List.set_cons_zero, List.set_cons_succ]
    refine wpAnyH_take (i := 3) (v := ?_) rfl (by kernel_rfl) (by kernel_rfl) (by kernel_rfl) (fun _ _ _ h => h) (Or.inl ⟨by rfl, ?_⟩) hHeld ?_
    rotate_left 1
    · (intro w hSw; have q1 := hSw; go_simp; try with_reducible rfl)
    try simp only [Act.put, List.getElem_toArray, List.getElem_cons_zero, List.getElem_cons_succ, List.setIfInBounds_toArray, List.set_cons_zero, List.set_cons_succ]
    refine wpAnyH_take (i := 4) (v := ?_) rfl (by kernel_rfl) (by kernel_rfl) (by kernel_rfl) (fun _ _ _ h => h) (Or.inl ⟨by rfl, ?_⟩) hHeld ?_
    rotate_left 1
    · (intro w hSw; have q1 := hSw; go_simp; try with_reducible rfl)
    try simp only [Act.put, List.getElem_toArray, List.getElem_cons_zero, List.getElem_cons_succ, List.setIfInBounds_toArray, List.set_cons_zero, List.set_cons_succ]
    refine wpAnyH_ready (rs := [5]) (by kernel_rfl) (by simp) (AllReadyH.cons rfl (fun K hK => ?_) AllReadyH.nil)
    clear hHeld
    have hc7 := HRB.out.cell
    have hz7 := HRB.out.frozen
    go_simp
    clear hc7 hz7
    refine hK.out _ _ (((((HBF.out.off HNE.out).off HNE.out).off HNE.out).drew).cell) (fun hHeld => ?_)
    clear hK K
    try simp only [Act.put, List.getElem_toArray, List.getElem_cons_zero, List.getElem_cons_succ, List.setIfInBounds_toArray, List.set_cons_zero, List.set_cons_succ]
    refine wpAnyH_take (i := 6) (v := ?_) rfl (by kernel_rfl) (by kernel_rfl) (by kernel_rfl) (fun _ _ _ h => h) (Or.inl ⟨by rfl, ?_⟩) hHeld ?_
    rotate_left 1
    · (intro w hSw; (try dsimp only at hSw); go_simp; try with_reducible rfl)
    try simp only [Act.put, List.getElem_toArray, List.getElem_cons_zero, List.getElem_cons_succ, List.setIfInBounds_toArray, List.set_cons_zero, List.set_cons_succ]
    refine wpAnyH_take (i := 7) (v := ?_) rfl (by kernel_rfl) (by kernel_rfl) (by kernel_rfl) (fun _ _ _ h => h) (Or.inl ⟨by rfl, ?_⟩) hHeld ?_
    rotate_left 1
    · (intro w hSw; (try dsimp only at hSw); go_simp; try with_reducible rfl)
    try simp only [Act.put, List.getElem_toArray, List.getElem_cons_zero, List.getElem_cons_succ, List.setIfInBounds_toArray, List.set_cons_zero, List.set_cons_succ]
    refine wpAnyH_take (i := 8) (v := ?_) rfl (by kernel_rfl) (by kernel_rfl) (by kernel_rfl) (fun _ _ _ h => h) (Or.inl ⟨by rfl, ?_⟩) hHeld ?_
    rotate_left 1
    · (intro w hSw; (try dsimp only at hSw); go_simp; try with_reducible rfl)
    try simp only [Act.put, List.getElem_toArray, List.getElem_cons_zero, List.getElem_cons_succ, List.setIfInBounds_toArray, List.set_cons_zero, List.set_cons_succ]
    refine wpAnyH_done (by kernel_rfl) ?_ _
    refine NoPanic.normal ?_
    go_wp2_with fail
    exact bodyPost_ret (v := .tuple #[.agg #[I 0, .slice none 0 0, .slice none 0 0], .bool false, I code, .slice ava R.asked.length avc]) (by simp [results, Tryd.results22, go_sem, c7]) rfl ⟨_, rfl, HFI.out.2, HFI.out.1⟩
  · have hcb : (code != 0) = true := by simpa using hc0
    have hcb2 : (code == 0) = false := beq_eq_false_iff_ne.2 hc0
    clear hc0
    go_wp2_with fail
    rw [← hw3, ← hfb]
    clear hw3 hfb cf
    refine wp_region_noPanic ?_
    refine wp_region_held_drew (S := (fun V => (∀ o, V.cell? ⟨fb, o, none⟩ = ([.slice sva R.st.length svc, .slice ava R.asked.length avc, I code, .bool false] : List Value)[o]?))) (by kernel_rfl) ((HBF.out.drew).cell) (fun hHeld => ?_)
    refine wpAnyH_take (i := 0) (v := ?_) rfl (by kernel_rfl) (by kernel_rfl) (by kernel_rfl) (fun _ _ _ h => h) (Or.inl ⟨by rfl, ?_⟩) hHeld ?_
    rotate_left 1
    · (intro w hSw; (try dsimp only at hSw); go_simp; try with_reducible rfl)
    try simp only [Act.put, List.getElem_toArray, List.getElem_cons_zero, List.setIfInBounds_toArray, List.set_cons_zero, List.set_cons_succ]
    refine wpAnyH_take (i := 1) (v := ?_) rfl (by kernel_rfl) (by kernel_rfl) (by kernel_rfl) (fun _ _ _ h => h) (Or.inl ⟨by rfl, ?_⟩) hHeld ?_
    rotate_left 1
    · (intro w hSw; have q1 := hSw; go_simp; try with_reducible rfl)
    try simp only [Act.put, List.getElem_toArray, List.getElem_cons_zero, List.getElem_cons_succ, List.setIfInBounds_toArray, List.set_cons_zero, List.set_cons_succ]
    refine wpAnyH_take (i := 2) (v := ?_) rfl (by kernel_rfl) (by kernel_rfl) (by kernel_rfl) (fun _ _ _ h => h) (Or.inl ⟨by rfl, ?_⟩) hHeld ?_
    rotate_left 1
    · (intro w hSw; have q1 := hSw; go_simp; try with_reducible rfl)
    try simp only [Act.put, List.getElem_toArray, List.getElem_cons_zero, List.getElem_cons_succ, List.setIfInBounds_toArray, List.set_cons_zero, List.set_cons_succ]
    refine wpAnyH_take (i := 3) (v := ?_) rfl (by kernel_rfl) (by kernel_rfl) (by kernel_rfl) (fun _ _ _ h => h) (Or.inl ⟨by rfl, ?_⟩) hHeld ?_
    rotate_left 1
    · (intro w hSw; have q1 := hSw; go_simp; try with_reducible rfl)
    try simp only [Act.put, List.getElem_toArray, List.getElem_cons_zero, List.getElem_cons_succ, List.setIfInBounds_toArray, List.set_cons_zero, List.set_cons_succ]
    refine wpAnyH_take (i := 4) (v := ?_) rfl (by kernel_rfl) (by kernel_rfl) (by kernel_rfl) (fun _ _ _ h => h) (Or.inl ⟨by rfl, ?_⟩) hHeld ?_
    rotate_left 1
    · (intro w hSw; have q1 := hSw; go_simp; try with_reducible rfl)
    try simp only [Act.put, List.getElem_toArray, List.getElem_cons_zero, List.getElem_cons_succ, List.setIfInBounds_toArray, List.set_cons_zero, List.set_cons_succ]
    refine wpAnyH_ready (rs := [5]) (by kernel_rfl) (by simp) (AllReadyH.cons rfl (fun K hK => ?_) AllReadyH.nil)
    clear hHeld
    have hc7 := HRB.out.cell
    have hz7 := HRB.out.frozen
    go_simp
    clear hc7 hz7
    refine hK.out _ _ (((((HBF.out.off HNE.out).off HNE.out).off HNE.out).drew).cell) (fun hHeld => ?_)
    clear hK K
    try simp only [Act.put, List.getElem_toArray, List.getElem_cons_zero, List.getElem_cons_succ, List.setIfInBounds_toArray, List.set_cons_zero, List.set_cons_succ]
    refine wpAnyH_take (i := 6) (v := ?_) rfl (by kernel_rfl) (by kernel_rfl) (by kernel_rfl) (fun _ _ _ h => h) (Or.inl ⟨by rfl, ?_⟩) hHeld ?_
    rotate_left 1
    · (intro w hSw; (try dsimp only at hSw); go_simp; try with_reducible rfl)
    try simp only [Act.put, List.getElem_toArray, List.getElem_cons_zero, List.getElem_cons_succ, List.setIfInBounds_toArray, List.set_cons_zero, List.set_cons_succ]
    refine wpAnyH_take (i := 7) (v := ?_) rfl (by kernel_rfl) (by kernel_rfl) (by kernel_rfl) (fun _ _ _ h => h) (Or.inl ⟨by rfl, ?_⟩) hHeld ?_
    rotate_left 1
    · (intro w hSw; (try dsimp only at hSw); go_simp; try with_reducible rfl)
    try simp only [Act.put, List.getElem_toArray, List.getElem_cons_zero, List.getElem_cons_succ, List.setIfInBounds_toArray, List.set_cons_zero, List.set_cons_succ]
    refine wpAnyH_take (i := 8) (v := ?_) rfl (by kernel_rfl) (by kernel_rfl) (by kernel_rfl) (fun _ _ _ h => h) (Or.inl ⟨by rfl, ?_⟩) hHeld ?_
    rotate_left 1
    · (intro w hSw; (try dsimp only at hSw); go_simp; try with_reducible rfl)
    try simp only [Act.put, List.getElem_toArray, List.getElem_cons_zero, List.getElem_cons_succ, List.setIfInBounds_toArray, List.set_cons_zero, List.set_cons_succ]
    refine wpAnyH_done (by kernel_rfl) ?_ _
    refine NoPanic.normal ?_
    go_wp2_with fail
    exact bodyPost_ret (v := .tuple #[.agg #[I 0, .slice none 0 0, .slice none 0 0], .bool false, I code, .slice ava R.asked.length avc]) (by simp [results, Tryd.results22, go_sem, c7]) rfl ⟨_, rfl, HFI.out.2, HFI.out.1⟩
/-- Where the document's loop stands: at the settled node number kk, with these lists. -/
def At (fs D : List Fd) (st : List Sn) (kk : Nat) (ns es : List Int) : Prop := ∃ d j f : Nat, st[kk]? = some ((fs[j]!).n, (fs[j]!).s) ∧ j < fs.length ∧ j ≤ f ∧ D.drop d = wayL fs (f + 1) j ∧ ns = ((D.take (d + 1)).map (·.n)).reverse ∧ es = ((D.take d).map (·.e)).reverse
theorem wayL_head (fs : List Fd) (f j : Nat) : (wayL fs (f + 1) j)[0]? = some fs[j]! := by
  unfold wayL
  rfl
theorem take_snoc {l : List Fd} {d : Nat} {y : Fd} (h : l[d]? = some y) : l.take (d + 1) = l.take d ++ [y] := by rw [List.take_add_one, h]; rfl
theorem drop_at {l : List Fd} {d : Nat} {m : List Fd} {y : Fd} (h : l.drop d = m) (hm : m[0]? = some y) : l[d]? = some y := by
  have : (l.drop d)[0]? = some y := by rw [h]; exact hm
  rwa [List.getElem?_drop, Nat.add_zero] at this
theorem At.step {rs : List Nr} {tail : Bool} {from_ t S : Int} {fs D : List Fd} {bs : Int → Option Nat} {st : List Sn} {kk : Nat} {ns es : List Int} (k : Fx rs tail from_ fs bs st) (hno : ∀ p ∈ st, p.1 ≠ t) (h : At fs D (st ++ [(t, S)]) kk ns es) (h0 : 0 < kk) : ∃ (x p : Sn) (q : Nat) (a : Ar), (st ++ [(t, S)])[kk]? = some x ∧ Stp rs tail (st ++ [(t, S)]) kk q x.1 x.2 a ∧ (st ++ [(t, S)])[q]? = some p ∧ At fs D (st ++ [(t, S)]) q (p.1 :: ns) (a.1 :: es) := by
  obtain ⟨d, j, f, h1, h2, h3, h4, h5, h6⟩ := h
  rcases k.back hno j kk h2 h1 with ⟨e, -⟩ | ⟨-, q, i, a, hi, hq, hb, he, hs⟩
  · omega
  · obtain ⟨f', rfl⟩ : ∃ f', f = f' + 1 := ⟨f - 1, by omega⟩
    have hb2 : ¬ ((fs[j]!).b < 0) := by rw [hb]; omega
    have hb3 : (fs[j]!).b.toNat = i := by rw [hb]; simp
    have e1 : wayL fs (f' + 1 + 1) j = fs[j]! :: wayL fs (f' + 1) i := by
      rw [wayL, if_neg hb2, hb3]
    have d1 : D[d]? = some fs[j]! := drop_at h4 (wayL_head _ _ _)
    have h7 : D.drop (d + 1) = wayL fs (f' + 1) i := by
      rw [← List.drop_drop, h4, e1]
      rfl
    have d2 : D[d + 1]? = some fs[i]! := drop_at h7 (wayL_head _ _ _)
    refine ⟨_, _, q, a, h1, hs, hq, d + 1, i, f', hq, by omega, by omega, h7, ?_, ?_⟩
    · rw [take_snoc d2, h5, List.map_append, List.reverse_append]
      rfl
    · rw [take_snoc d1, h6, List.map_append, List.reverse_append, ← he]
      rfl
theorem At.stop {rs : List Nr} {tail : Bool} {from_ t S : Int} {fs D : List Fd} {bs : Int → Option Nat} {st : List Sn} {ns es : List Int} (k : Fx rs tail from_ fs bs st) (hno : ∀ p ∈ st, p.1 ≠ t) (h : At fs D (st ++ [(t, S)]) 0 ns es) : ns = (D.map (·.n)).reverse ∧ es = (D.dropLast.map (·.e)).reverse := by
  obtain ⟨d, j, f, h1, h2, h3, h4, h5, h6⟩ := h
  rcases k.back hno j 0 h2 h1 with ⟨-, e⟩ | ⟨e, -⟩
  · have e1 : wayL fs (f + 1) j = [fs[j]!] := by
      rw [wayL, e]
      simp
    have d1 : D[d]? = some fs[j]! := drop_at h4 (wayL_head _ _ _)
    have hD : D = D.take d ++ [fs[j]!] := by rw [← e1, ← h4, List.take_append_drop]
    have h7 : D.take (d + 1) = D := by rw [take_snoc d1]; exact hD.symm
    have h8 : D.dropLast = D.take d := by
      have := congrArg List.dropLast hD
      rw [List.dropLast_concat] at this
      exact this
    rw [h5, h6, h7, h8]
    exact ⟨rfl, rfl⟩
  · omega
theorem At.len {fs D : List Fd} {st : List Sn} {kk : Nat} {ns es : List Int} (h : At fs D st kk ns es) : ns.length ≤ D.length ∧ es.length ≤ D.length := by
  obtain ⟨d, j, f, -, -, -, -, h5, h6⟩ := h
  rw [h5, h6]
  simp
  omega
theorem wl1 (n : Nat) (h : n ≤ 1048576) : wrap64 (((n + 1 : Nat) : Int) - 1) = (n : Int) := by unfold wrap64; omega
theorem wl3 (n : Nat) (h : n ≤ 1048576) : wrap64 (n : Int) = (n : Int) := by unfold wrap64; omega
theorem wl2 (n : Nat) (h : n ≤ 1048576) : wrap64 ((n : Int) + 1 - 1) = (n : Int) := by unfold wrap64; omega
set_option maxRecDepth 100000 in
set_option maxHeartbeats 2000000 in
theorem rleast_yes (W : World) (rv : Value) (rs : List Nr) (tail : Bool) (from_ to_ : Int) (hN : Nrs W rv rs) (hrl : rs.length ≤ 1048576) (hal : ∀ id, (netOf rs tail id).1.length ≤ 1048576) (hf : R64 from_) (R : Rs) (hR : R = srch false rs tail (some to_) (-1) 4097 [] [(from_, 0)] []) (hh : R.hit = true) (hc : R.code = 0) (fs : List Fd) (bs : Int → Option Nat) (i0 : Nat) (x : Fd) (st : List Sn) (hx : fs[i0]? = some x) (hxn : x.n = to_) (hst : R.st = st ++ [(to_, x.s)]) (kf : Fx rs tail from_ fs bs st) (hnt : ∀ p ∈ st, p.1 ≠ to_) (_hbig : fs.length < 17179869184) :
    Calls Tryd.prog 22 #[.agg #[rv, .bool tail], I from_, I to_] W fun e W' => ∃ nv ev av, e = .returned (.tuple #[.agg #[I x.s, nv, ev], .bool true, I 0, av]) ∧ Rw W.heap.size 2 1 W' nv ((wayL fs (i0 + 1) i0).map (·.n)).reverse.length (((wayL fs (i0 + 1) i0).map (·.n)).reverse.map I) ∧ Rw W.heap.size 2 1 W' ev ((wayL fs (i0 + 1) i0).dropLast.map (·.e)).reverse.length (((wayL fs (i0 + 1) i0).dropLast.map (·.e)).reverse.map I) ∧ Rw W.heap.size 2 1 W' av R.asked.length (R.asked.map I) ∧ G W W' := by
  obtain ⟨rva, rvc, hrv⟩ : ∃ a c, rv = .slice a rs.length c := by obtain ⟨a, c, e, _⟩ := hN; exact ⟨a, c, e⟩
  have gA : G W (W.alloc (.cells #[rv, .bool tail] 25)) := (G.refl W).alloc _
  subst hrv
  obtain ⟨w0, hw0⟩ : ∃ w0, w0 = ((W.alloc (.cells #[.slice rva rs.length rvc, .bool tail] 25)).alloc (.cells #[I 0, .slice none 0 0, .slice none 0 0] 40)) := ⟨_, rfl⟩
  obtain ⟨b3, hb3⟩ : ∃ b3, b3 = W.heap.size := ⟨_, rfl⟩
  obtain ⟨rb, hrb⟩ : ∃ rb, rb = W.heap.size + 1 := ⟨_, rfl⟩
  have hg0 : G W w0 := by rw [hw0]; exact ((G.refl W).alloc _).alloc _
  have hB3 : Blk w0 b3 25 [.slice rva rs.length rvc, .bool tail] := by rw [hw0, hb3]; exact (Blk.new W [.slice rva rs.length rvc, .bool tail] 25).G ((G.refl _).alloc _)
  have hBr : Blk w0 rb 40 [I 0, .slice none 0 0, .slice none 0 0] := by
    have := Blk.new (W.alloc (.cells #[.slice rva rs.length rvc, .bool tail] 25)) [I 0, .slice none 0 0, .slice none 0 0] 40
    rw [World.size_alloc] at this
    rw [hw0, hrb]
    exact this
  have HSE := hide (search_aim w0 (.slice rva rs.length rvc) rs tail from_ to_ false (hN.G hg0) hrl hal hf R hR)
  have hlo : W.heap.size ≤ rb := by omega
  have c3 := hB3.cell
  rw [hw0, hb3] at c3
  have HG0 := hide hg0
  have HB3 := hide hB3
  have HBr := hide hBr
  have HLO := hide hlo
  rw [hh, hc] at HSE
  have hs4 := srch_stlen false rs tail (some to_) (-1) 4097 [] [(from_, 0)] []
  rw [← hR] at hs4
  simp only [List.length_nil, Nat.zero_add] at hs4
  obtain ⟨n, hn⟩ : ∃ n, n = st.length := ⟨_, rfl⟩
  have hlen : R.st.length = n + 1 := by rw [hst, hn]; simp
  have hn4 : n ≤ 1048576 := by omega
  have ex : fs[i0]! = x := by simp [hx]
  have hil : i0 < fs.length := (List.getElem?_eq_some_iff.1 hx).1
  obtain ⟨D, hD⟩ : ∃ D, D = wayL fs (i0 + 1) i0 := ⟨_, rfl⟩
  rw [← hD]
  have hlast : R.st[n]? = some (to_, x.s) := by rw [hst, hn]; simp
  have HAT0 : Hid (At fs D R.st n [to_] []) := by
    refine ⟨0, i0, i0, by rw [hlast, ex, hxn], hil, Nat.le_refl _, by rw [hD]; rfl, ?_, rfl⟩
    have d1 : D[0]? = some fs[i0]! := by rw [hD]; exact wayL_head _ _ _
    rw [take_snoc d1, ex]
    simp [hxn]
  have HDL : Hid (D.length ≤ 17179869182) := by
    show D.length ≤ _
    have hl1 := way_len kf hnt (i0 + 1) i0 n hil (by rw [← hst, hlast, ex, hxn])
    rw [← hD] at hl1
    omega
  have HASK : Hid (∀ (i : Nat) p, i < n → R.st[i]? = some p → R64 p.1 ∧ (netOf rs tail p.1).2 = 0 ∧ 0 ≤ p.2 ∧ p.2 ≤ 1099511627776 ∧ ∀ a ∈ (netOf rs tail p.1).1, 0 ≤ a.2.2 ∧ a.2.2 ≤ 1099511627776 - p.2) := fun i p hi hp => by
    rw [hst, List.getElem?_append_left (by omega)] at hp
    have hm := List.mem_of_getElem? hp
    refine ⟨?_, kf.cd p hm, kf.wt p hm⟩
    rcases kf.src p hm with e | ⟨id, a, ha, e⟩
    · rw [e]; exact hf
    · rw [← e]; exact netok hN tail id ha
  have HSTEP : Hid (∀ kk ns es, At fs D R.st kk ns es → 0 < kk → ∃ (x p : Sn) (q : Nat) (a : Ar), R.st[kk]? = some x ∧ Stp rs tail R.st kk q x.1 x.2 a ∧ R.st[q]? = some p ∧ At fs D R.st q (p.1 :: ns) (a.1 :: es)) := fun kk ns es h h0 => by
    rw [hst] at h ⊢
    exact h.step kf hnt h0
  have HSTOP : Hid (∀ ns es, At fs D R.st 0 ns es → ns = (D.map (·.n)).reverse ∧ es = (D.dropLast.map (·.e)).reverse) := fun ns es h => by
    rw [hst] at h
    exact h.stop kf hnt
  have HLAST := hide hlast
  have HLEN := hide hlen
  have HN4 := hide hn4
  have HSZ : Hid (n + 1 ≤ 1048576) := by show _ ≤ _; omega
  have HNR := hide hN
  have HAL := hide hal
  have w1 := wl1 n hn4
  have w2 := wl2 n hn4
  have w3w := wl3 n hn4
  have i1 : (n : Int) < (n : Int) + 1 := Int.lt_succ _
  clear gA hN hal hR hg0 hB3 hBr hlo hh hc hx hxn hst kf hnt hs4 hlen hn4 ex hil hD hlast hn
  go_enter Tryd.func22, Tryd.ntmps22
  go_wp2_with fail
  rw [← hw0, ← hrb, ← hb3]
  clear hw0 hrb hb3 c3
  refine HSE.out.mono ?_
  rintro e w2' ⟨sv, av, rfl, hsr, har, hg2⟩
  obtain ⟨g, cap, hsv, -, -, -⟩ := sr_at hsr HLAST.out
  rw [HLEN.out] at hsv
  subst hsv
  obtain ⟨ava, avc, rfl⟩ := Rw.form har
  obtain ⟨w3, hw3⟩ : ∃ w3, w3 = w2'.alloc (.cells #[.slice (some ⟨g, 0, none⟩) (n + 1) cap, .slice ava R.asked.length avc, I 0, .bool true] 86) := ⟨_, rfl⟩
  obtain ⟨fb, hfb⟩ : ∃ fb, fb = w2'.heap.size := ⟨_, rfl⟩
  obtain ⟨w4, hw4⟩ : ∃ w4, w4 = w3.alloc (.cells #[I to_] 2) := ⟨_, rfl⟩
  obtain ⟨nb, hnb⟩ : ∃ nb, nb = w2'.heap.size + 1 := ⟨_, rfl⟩
  obtain ⟨w5, hw5⟩ : ∃ w5, w5 = w4.alloc (.cells #[I x.s, .slice (some ⟨nb, 0, none⟩) 1 1, .slice none 0 0] 40) := ⟨_, rfl⟩
  obtain ⟨wb, hwb⟩ : ∃ wb, wb = w2'.heap.size + 2 := ⟨_, rfl⟩
  have e3 : w3.heap.size = nb := by rw [hw3, hnb, World.size_alloc]
  have e4 : w4.heap.size = wb := by rw [hw4, World.size_alloc, e3, hnb, hwb]
  have g23 : G w2' w3 := by rw [hw3]; exact (G.refl _).alloc _
  have g34 : G w3 w4 := by rw [hw4]; exact (G.refl _).alloc _
  have g45 : G w4 w5 := by rw [hw5]; exact (G.refl _).alloc _
  have g25 : G w2' w5 := (g23.trans g34).trans g45
  have hBF3 : Blk w3 fb 86 [.slice (some ⟨g, 0, none⟩) (n + 1) cap, .slice ava R.asked.length avc, I 0, .bool true] := by rw [hw3, hfb]; exact Blk.new w2' [.slice (some ⟨g, 0, none⟩) (n + 1) cap, .slice ava R.asked.length avc, I 0, .bool true] 86
  have HBF : Hid (Blk w5 fb 86 [.slice (some ⟨g, 0, none⟩) (n + 1) cap, .slice ava R.asked.length avc, I 0, .bool true]) := (hBF3.G g34).G g45
  have hB4 : Blk w4 nb 2 [I to_] := by rw [hw4, ← e3]; exact Blk.new w3 [I to_] 2
  have hBW : Blk w5 wb 40 [I x.s, .slice (some ⟨nb, 0, none⟩) 1 1, .slice none 0 0] := by rw [hw5, ← e4]; exact Blk.new w4 [I x.s, .slice (some ⟨nb, 0, none⟩) 1 1, .slice none 0 0] 40
  have HB35 := hide ((HB3.out.G hg2).G g25)
  have hBR5 := (HBr.out.G hg2).G g25
  have hmx : (1 : Nat) ≤ maxLen := of_decide_eq_true (by kernel_rfl)
  have hGW5 : G W w5 := (HG0.out.trans hg2).trans g25
  have hGW2 : G W w2' := HG0.out.trans hg2
  have hnW : W.heap.size ≤ nb := by have := hGW2.size; omega
  have hwW : W.heap.size ≤ wb := by have := hGW2.size; omega
  have hr4 : Rw W.heap.size 2 1 w5 (.slice (some ⟨nb, 0, none⟩) 1 1) ([to_] : List Int).length (([to_] : List Int).map I) := ⟨by simp, .inr ⟨nb, 1, _, rfl, hnW, (hB4.G g45).h, Nat.le_refl _, hmx, by simp, by simp⟩⟩
  have HWS0 : Hid (WS W w5 wb rb x.s (.slice (some ⟨nb, 0, none⟩) 1 1) (.slice none 0 0) [to_] []) := ⟨hBR5, hBW, hr4, Rw.nil _ _ _ _, fun b _ e => (by simp [Value.ownBlock] at e), hGW5, hwW, HLO.out, fun e => by
    have h1 := (HBr.out.G hg2).lt
    rw [e] at h1
    omega⟩
  have HSR5 : Hid (Sr w0.heap.size w5 (.slice (some ⟨g, 0, none⟩) (n + 1) cap) R.st) := Rw.G hsr g25
  have HAV5 : Hid (Rw W.heap.size 2 1 w5 (.slice ava R.asked.length avc) R.asked.length (R.asked.map I)) := Rw.base (Rw.G har g25) HG0.out.size
  have HAVW : Hid (∀ b, (Value.slice ava R.asked.length avc).ownBlock = some b → b ≠ wb) := fun b hb e => by
    have := (Rw.own har hb).2.1
    omega
  have cf := hBF3.cell
  rw [hw3, hfb] at cf
  obtain ⟨g', cap', eg, -, -, cg⟩ := sr_at (Rw.G hsr g23) HLAST.out
  have : g = g' := by simp at eg; exact eg.1
  subst this
  rw [hw3] at cg
  simp only at cg
  have HG5 := hide hGW5
  rw [hw4, hw3] at hw5
  clear hsr har hg2 HSE hw3 hw4 e3 e4 g23 g34 g45 g25 hBF3 hB4 hBW hBR5 hmx hGW5 hGW2 hnW hwW hr4 eg
  have hw5' := hw5
  rw [hnb] at hw5'
  go_wp2_with fail
  rw [← hw5', ← hwb, ← hnb, ← hfb]
  rw [w3w]
  clear hw5 hw5' hwb hnb hfb cf cg w1 w2 w3w
  go_loopw [11] (fun kv wr => ∃ (kk : Nat) (nv ev : Value) (ns es : List Int), kv = I kk ∧ kk ≤ n ∧ At fs D R.st kk ns es ∧ WS W wr wb rb x.s nv ev ns es ∧ Chg (fun b => b = wb) w5 wr) (fun kv _ => (RowKit.intOf kv).toNat)
  case atStart => exact ⟨n, _, _, _, _, (by first | rfl | rw [w3w]), Nat.le_refl _, HAT0.out, HWS0.out, Chg.refl _ _⟩
  case round =>
    obtain ⟨kk, nv, ev, ns, es, rfl, hkn, hat, hws, hch⟩ := hrel
    obtain ⟨na, nc, rfl⟩ := Rw.form hws.n
    obtain ⟨ea, ec, rfl⟩ := Rw.form hws.e
    have hne35 : b3 ≠ wb := HB35.out.ne HWS0.out.bw (by decide)
    have hnef : fb ≠ wb := HBF.out.ne HWS0.out.bw (by decide)
    have hB3r := HB35.out.chg hch hne35
    have hBFr := HBF.out.chg hch hnef
    have hSRr : Sr w0.heap.size wr (.slice (some ⟨g, 0, none⟩) (n + 1) cap) R.st := Rw.chg HSR5.out hch (fun b hb e => by subst e; exact Rw.offb HSR5.out HWS0.out.bw (by decide) hb)
    have HBFr := hide hBFr
    have HK := hide hws
    have HCH := hide hch
    by_cases hk0 : kk = 0
    · subst hk0
      obtain ⟨e1, e2⟩ := HSTOP.out ns es hat
      have HE1 := hide e1
      have HE2 := hide e2
      have HWR : Hid (wb ≠ rb) := fun e => hws.lo.2.2 e.symm
      have HFR : Hid (fb ≠ rb) := hBFr.ne hws.br (by decide)
      have hAV : Rw W.heap.size 2 1 wr (.slice ava R.asked.length avc) R.asked.length (R.asked.map I) := Rw.chg HAV5.out hch (fun b hb e => HAVW.out b hb e)
      have hch2 : Chg (fun b => b = rb) wr (((wr.setCell ⟨rb, 0, none⟩ (I x.s)).setCell ⟨rb, 1, none⟩ (.slice na ns.length nc)).setCell ⟨rb, 2, none⟩ (.slice ea es.length ec)) := ((chg_setCell (F := fun q => q = rb) _ _ (.inl rfl)).trans (chg_setCell _ _ (.inl rfl))).trans (chg_setCell _ _ (.inl rfl))
      have hoff : ∀ (u : Value) z xs, Rw W.heap.size 2 1 wr u z xs → Rw W.heap.size 2 1 (((wr.setCell ⟨rb, 0, none⟩ (I x.s)).setCell ⟨rb, 1, none⟩ (.slice na ns.length nc)).setCell ⟨rb, 2, none⟩ (.slice ea es.length ec)).drew u z xs := fun u z xs hu => Rw.G (Rw.chg hu hch2 (fun b hb e => by subst e; exact Rw.offb hu hws.br (by decide) hb)) (G.drew (G.refl _))
      have HFI : Hid (Rw W.heap.size 2 1 (((wr.setCell ⟨rb, 0, none⟩ (I x.s)).setCell ⟨rb, 1, none⟩ (.slice na ns.length nc)).setCell ⟨rb, 2, none⟩ (.slice ea es.length ec)).drew (.slice na ns.length nc) ns.length (ns.map I) ∧ Rw W.heap.size 2 1 (((wr.setCell ⟨rb, 0, none⟩ (I x.s)).setCell ⟨rb, 1, none⟩ (.slice na ns.length nc)).setCell ⟨rb, 2, none⟩ (.slice ea es.length ec)).drew (.slice ea es.length ec) es.length (es.map I) ∧ Rw W.heap.size 2 1 (((wr.setCell ⟨rb, 0, none⟩ (I x.s)).setCell ⟨rb, 1, none⟩ (.slice na ns.length nc)).setCell ⟨rb, 2, none⟩ (.slice ea es.length ec)).drew (.slice ava R.asked.length avc) R.asked.length (R.asked.map I) ∧ G W (((wr.setCell ⟨rb, 0, none⟩ (I x.s)).setCell ⟨rb, 1, none⟩ (.slice na ns.length nc)).setCell ⟨rb, 2, none⟩ (.slice ea es.length ec)).drew) :=
        ⟨hoff _ _ _ hws.n, hoff _ _ _ hws.e, hoff _ _ _ hAV, (((hws.g.setCell (p := ⟨rb, 0, none⟩) hws.lo.2.1 _).setCell (p := ⟨rb, 1, none⟩) hws.lo.2.1 _).setCell (p := ⟨rb, 2, none⟩) hws.lo.2.1 _).drew⟩
      have c7 := ((((hws.br.set 0 (I x.s)).set 1 (.slice na ns.length nc)).set 2 (.slice ea es.length ec)).drew).cell
      simp only [List.set_cons_zero, List.set_cons_succ] at c7
      clear hat hws hch hB3r hBFr hSRr e1 e2 hAV hch2 hoff hkn hne35 hnef
      go_wp2_with fail
      refine wp_region_noPanic ?_
      refine wp_region_held_drew (S := (fun V => (∀ o, V.cell? ⟨wb, o, none⟩ = ([I x.s, (.slice na ns.length nc), (.slice ea es.length ec)] : List Value)[o]?) ∧ (∀ o, V.cell? ⟨fb, o, none⟩ = ([.slice (some ⟨g, 0, none⟩) (n + 1) cap, .slice ava R.asked.length avc, I 0, .bool true] : List Value)[o]?))) (by kernel_rfl) (⟨(HK.out.bw.drew).cell, (HBFr.out.drew).cell⟩) (fun hHeld => ?_)
      refine wpAnyH_take (i := 0) (v := ?_) rfl (by kernel_rfl) (by kernel_rfl) (by kernel_rfl) (fun _ _ _ h => h) (Or.inl ⟨by rfl, ?_⟩) hHeld ?_
      rotate_left 1
      · (intro w hSw; obtain ⟨q1, q2⟩ := hSw; go_simp; try with_reducible rfl)
      try simp only [Act.put, List.getElem_toArray, List.getElem_cons_zero, List.setIfInBounds_toArray, List.set_cons_zero, List.set_cons_succ]
      refine wpAnyH_take (i := 1) (v := ?_) rfl (by kernel_rfl) (by kernel_rfl) (by kernel_rfl) (fun _ _ _ h => h) (Or.inl ⟨by rfl, ?_⟩) hHeld ?_
      rotate_left 1
      · (intro w hSw; obtain ⟨q1, q2⟩ := hSw; go_simp; try with_reducible rfl)
      try simp only [Act.put, List.getElem_toArray, List.getElem_cons_zero, List.getElem_cons_succ, List.setIfInBounds_toArray, List.set_cons_zero, List.set_cons_succ]
      refine wpAnyH_take (i := 2) (v := ?_) rfl (by kernel_rfl) (by kernel_rfl) (by kernel_rfl) (fun _ _ _ h => h) (Or.inl ⟨by rfl, ?_⟩) hHeld ?_
      rotate_left 1
      · (intro w hSw; obtain ⟨q1, q2⟩ := hSw; go_simp; try with_reducible rfl)
      try simp only [Act.put, List.getElem_toArray, List.getElem_cons_zero, List.getElem_cons_succ, List.setIfInBounds_toArray, List.set_cons_zero, List.set_cons_succ]
      refine wpAnyH_ready (rs := [3]) (by kernel_rfl) (by simp) (AllReadyH.cons rfl (fun K hK => ?_) AllReadyH.nil)
      clear hHeld
      have hc7 := HK.out.br.cell
      have hz7 := HK.out.br.frozen
      go_simp
      clear hc7 hz7
      refine hK.out _ _ (⟨((((HK.out.bw.off HWR.out).off HWR.out).off HWR.out).drew).cell, ((((HBFr.out.off HFR.out).off HFR.out).off HFR.out).drew).cell⟩) (fun hHeld => ?_)
      clear hK K
      try simp only [Act.put, List.getElem_toArray, List.getElem_cons_zero, List.getElem_cons_succ, List.setIfInBounds_toArray, List.set_cons_zero, List.set_cons_succ]
      refine wpAnyH_take (i := 4) (v := ?_) rfl (by kernel_rfl) (by kernel_rfl) (by kernel_rfl) (fun _ _ _ h => h) (Or.inl ⟨by rfl, ?_⟩) hHeld ?_
      rotate_left 1
      · (intro w hSw; (try dsimp only at hSw); go_simp; try with_reducible rfl)
      try simp only [Act.put, List.getElem_toArray, List.getElem_cons_zero, List.getElem_cons_succ, List.setIfInBounds_toArray, List.set_cons_zero, List.set_cons_succ]
      refine wpAnyH_take (i := 5) (v := ?_) rfl (by kernel_rfl) (by kernel_rfl) (by kernel_rfl) (fun _ _ _ h => h) (Or.inl ⟨by rfl, ?_⟩) hHeld ?_
      rotate_left 1
      · (intro w hSw; (try dsimp only at hSw); go_simp; try with_reducible rfl)
      try simp only [Act.put, List.getElem_toArray, List.getElem_cons_zero, List.getElem_cons_succ, List.setIfInBounds_toArray, List.set_cons_zero, List.set_cons_succ]
      refine wpAnyH_take (i := 6) (v := ?_) rfl (by kernel_rfl) (by kernel_rfl) (by kernel_rfl) (fun _ _ _ h => h) (Or.inl ⟨by rfl, ?_⟩) hHeld ?_
      rotate_left 1
      · (intro w hSw; (try dsimp only at hSw); go_simp; try with_reducible rfl)
      try simp only [Act.put, List.getElem_toArray, List.getElem_cons_zero, List.getElem_cons_succ, List.setIfInBounds_toArray, List.set_cons_zero, List.set_cons_succ]
      refine wpAnyH_done (by kernel_rfl) ?_ _
      refine NoPanic.normal ?_
      go_wp2_with fail
      rw [← HE1.out, ← HE2.out]
      exact bodyPost_ret (v := .tuple #[.agg #[I x.s, .slice na ns.length nc, .slice ea es.length ec], .bool true, I 0, .slice ava R.asked.length avc]) (by simp [results, Tryd.results22, go_sem, c7]) rfl ⟨_, _, _, rfl, HFI.out.1, HFI.out.2.1, HFI.out.2.2.1, HFI.out.2.2.2⟩
    · have hk1 : 0 < kk := Nat.pos_of_ne_zero hk0
      have hkI : (0 : Int) < kk := Int.ofNat_lt.2 hk1
      have hkd : decide ((0 : Int) < kk) = true := decide_eq_true hkI
      have hkd2 : decide (0 < kk) = true := decide_eq_true hk1
      obtain ⟨y, p, q, a, hy, hstp, hp, hat2⟩ := HSTEP.out kk ns es hat hk1
      have hq1 := hstp.lt
      have HAT2 := hide hat2
      have HLN := hide hat.len
      have HARC := hide (arcto_any W wr (.slice rva rs.length rvc) rs tail HNR.out hws.g hrl HAL.out (.slice (some ⟨g, 0, none⟩) (n + 1) cap) (.slice ava R.asked.length avc) 0 true w0.heap.size R.st hSRr kk q y hy a hstp (fun i p hi hp => HASK.out i p (Nat.lt_of_lt_of_le hi hkn) hp) (by rw [HLEN.out]; have := HN4.out; have := HSZ.out; omega))
      have c3 := hB3r.cell
      have cF := hBFr.cell
      obtain ⟨pn, ps⟩ := p
      have HP := hide hp
      have HSRr := hide hSRr
      have hqn : q < n + 1 := Nat.lt_succ_of_le (Nat.le_of_lt (Nat.lt_of_lt_of_le hq1 hkn))
      have hqI : (q : Int) < (n : Int) + 1 := by exact_mod_cast hqn
      have hq0 : ¬ ((q : Int) < 0) := Int.not_lt.2 (Int.natCast_nonneg q)
      have hq0d : decide ((q : Int) < 0) = false := decide_eq_false hq0
      have HQK := hide hq1
      have HQN : Hid (q ≤ n) := Nat.le_of_lt (Nat.lt_of_lt_of_le hq1 hkn)
      clear hat hat2 hws hch hB3r hBFr hSRr hstp hy hp hk0 hne35 hnef hkn hq1 hqn
      go_wp2_with fail
      refine HARC.out.mono ?_
      rintro e w6 ⟨rfl, hg6⟩
      obtain ⟨w7, hw7⟩ : ∃ w7, w7 = w6.alloc (.cells #[I a.1, I a.2.1, I a.2.2] 47) := ⟨_, rfl⟩
      obtain ⟨ab, hab⟩ : ∃ ab, ab = w6.heap.size := ⟨_, rfl⟩
      have g67 : G w6 w7 := by rw [hw7]; exact (G.refl _).alloc _
      have HBA : Hid (Blk w7 ab 47 [I a.1, I a.2.1, I a.2.2]) := by rw [hw7, hab]; exact Blk.new w6 [I a.1, I a.2.1, I a.2.2] 47
      have HG7 := hide (hg6.trans g67)
      have HK7 := hide (HK.out.grow HG7.out)
      have HALL : Hid (∀ V, G w7 V → (fun V => (∀ o, V.cell? ⟨fb, o, none⟩ = ([.slice (some ⟨g, 0, none⟩) (n + 1) cap, .slice ava R.asked.length avc, I 0, .bool true] : List Value)[o]?) ∧ (∀ o, V.cell? ⟨wb, o, none⟩ = ([I x.s, (.slice na ns.length nc), (.slice ea es.length ec)] : List Value)[o]?) ∧ V.cell? ⟨g, q * 2, none⟩ = some (I pn)) V) := fun V gV => by
        refine ⟨(HBFr.out.G (HG7.out.trans gV)).cell, (HK7.out.grow gV).bw.cell, ?_⟩
        obtain ⟨g', cap', eg, -, cg, -⟩ := sr_at (Rw.G HSRr.out (HG7.out.trans gV)) HP.out
        have : g = g' := by simp at eg; exact eg.1
        subst this
        exact cg
      have HNL : Hid (ns.length + 1 ≤ 17179869184) := by show _ ≤ _; have := HLN.out.1; have := HDL.out; omega
      have HEL : Hid (es.length + 1 ≤ 17179869184) := by show _ ≤ _; have := HLN.out.2; have := HDL.out; omega
      clear hg6 g67 HARC c3 cF
      go_wp2_with fail
      rw [← hw7, ← hab]
      clear hw7 hab
      refine wp_region_noPanic ?_
      refine wp_region_L (S := (fun V => (∀ o, V.cell? ⟨fb, o, none⟩ = ([.slice (some ⟨g, 0, none⟩) (n + 1) cap, .slice ava R.asked.length avc, I 0, .bool true] : List Value)[o]?) ∧ (∀ o, V.cell? ⟨wb, o, none⟩ = ([I x.s, (.slice na ns.length nc), (.slice ea es.length ec)] : List Value)[o]?) ∧ V.cell? ⟨g, q * 2, none⟩ = some (I pn))) 11 (by kernel_rfl) (HALL.out _ (G.drew (G.refl _))) (fun hHeld => ?_)
      refine wpAnyL_take (i := 0) (v := ?_) rfl (by kernel_rfl) (by kernel_rfl) (by kernel_rfl) (by kernel_rfl) (fun _ _ _ h => h) (Or.inl ⟨by rfl, ?_⟩) hHeld ?_
      rotate_left 1
      · (intro w hSw; obtain ⟨q1, q2, q3⟩ := hSw; go_simp; try with_reducible rfl)
      try simp only [Act.put, List.getElem_toArray, List.getElem_cons_zero, List.setIfInBounds_toArray, List.set_cons_zero, List.set_cons_succ]
      refine wpAnyL_take (i := 1) (v := ?_) rfl (by kernel_rfl) (by kernel_rfl) (by kernel_rfl) (by kernel_rfl) (fun _ _ _ h => h) (Or.inl ⟨by rfl, ?_⟩) hHeld ?_
      rotate_left 1
      · (intro w hSw; obtain ⟨q1, q2, q3⟩ := hSw; go_simp; try with_reducible rfl)
      try simp only [Act.put, List.getElem_toArray, List.getElem_cons_zero, List.getElem_cons_succ, List.setIfInBounds_toArray, List.set_cons_zero, List.set_cons_succ]
      refine wpAnyL_take (i := 2) (v := ?_) rfl (by kernel_rfl) (by kernel_rfl) (by kernel_rfl) (by kernel_rfl) (fun _ _ _ h => h) (Or.inl ⟨by rfl, ?_⟩) hHeld ?_
      rotate_left 1
      · (intro w hSw; obtain ⟨q1, q2, q3⟩ := hSw; go_simp; try with_reducible rfl)
      try simp only [Act.put, List.getElem_toArray, List.getElem_cons_zero, List.getElem_cons_succ, List.setIfInBounds_toArray, List.set_cons_zero, List.set_cons_succ]
      refine wpAnyL_take (i := 3) (v := ?_) rfl (by kernel_rfl) (by kernel_rfl) (by kernel_rfl) (by kernel_rfl) (fun _ _ _ h => h) (Or.inl ⟨by rfl, ?_⟩) hHeld ?_
      rotate_left 1
      · (intro w hSw; obtain ⟨q1, q2, q3⟩ := hSw; go_simp; try with_reducible rfl)
      try simp only [Act.put, List.getElem_toArray, List.getElem_cons_zero, List.getElem_cons_succ, List.setIfInBounds_toArray, List.set_cons_zero, List.set_cons_succ]
      refine wpAnyL_take (i := 4) (v := ?_) rfl (by kernel_rfl) (by kernel_rfl) (by kernel_rfl) (by kernel_rfl) (fun _ _ _ h => h) (Or.inl ⟨by rfl, ?_⟩) hHeld ?_
      rotate_left 1
      · (intro w hSw; obtain ⟨q1, q2, q3⟩ := hSw; go_simp; try with_reducible rfl)
      try simp only [Act.put, List.getElem_toArray, List.getElem_cons_zero, List.getElem_cons_succ, List.setIfInBounds_toArray, List.set_cons_zero, List.set_cons_succ]
      refine wpAnyL_take (i := 5) (v := ?_) rfl (by kernel_rfl) (by kernel_rfl) (by kernel_rfl) (by kernel_rfl) (fun _ _ _ h => h) (Or.inl ⟨by rfl, ?_⟩) hHeld ?_
      rotate_left 1
      · (intro w hSw; obtain ⟨q1, q2, q3⟩ := hSw; go_simp; try with_reducible rfl)
      try simp only [Act.put, List.getElem_toArray, List.getElem_cons_zero, List.getElem_cons_succ, List.setIfInBounds_toArray, List.set_cons_zero, List.set_cons_succ]
      refine wpAnyL_take (i := 7) (v := ?_) rfl (by kernel_rfl) (by kernel_rfl) (by kernel_rfl) (by kernel_rfl) (fun _ _ _ h => h) (Or.inl ⟨by rfl, ?_⟩) hHeld ?_
      rotate_left 1
      · (intro w hSw; obtain ⟨q1, q2, q3⟩ := hSw; go_simp; try with_reducible rfl)
      try simp only [Act.put, List.getElem_toArray, List.getElem_cons_zero, List.getElem_cons_succ, List.setIfInBounds_toArray, List.set_cons_zero, List.set_cons_succ]
      refine wpAnyL_take (i := 8) (v := ?_) rfl (by kernel_rfl) (by kernel_rfl) (by kernel_rfl) (by kernel_rfl) (fun _ _ _ h => h) (Or.inl ⟨by rfl, ?_⟩) hHeld ?_
      rotate_left 1
      · (intro w hSw; obtain ⟨q1, q2, q3⟩ := hSw; go_simp; try with_reducible rfl)
      try simp only [Act.put, List.getElem_toArray, List.getElem_cons_zero, List.getElem_cons_succ, List.setIfInBounds_toArray, List.set_cons_zero, List.set_cons_succ]
      refine wpAnyL_one (i := 6) (by kernel_rfl) rfl (by kernel_rfl) (fun K hK => ?_)
      clear hHeld
      go_simp
      have HG8 : Hid (G w7 (w7.alloc (.cells #[I pn] 2)).drew) := ((G.refl w7).alloc _).drew
      have HC8 : Hid (Blk (w7.alloc (.cells #[I pn] 2)).drew w7.heap.size 2 [I pn]) := (Blk.new w7 [I pn] 2).drew
      generalize (w7.alloc (.cells #[I pn] 2)).drew = w8 at HG8 HC8 ⊢
      refine hK.out _ _ (HALL.out _ HG8.out) (fun hHeld => ?_)
      clear hK K
      try simp only [Act.put, List.getElem_toArray, List.getElem_cons_zero, List.getElem_cons_succ, List.setIfInBounds_toArray, List.set_cons_zero, List.set_cons_succ]
      refine wpAnyL_one (i := 9) (by kernel_rfl) rfl (by kernel_rfl) (fun K hK => ?_)
      clear hHeld
      obtain ⟨v9, w9, hrun9, hrow9, hg9⟩ := pre_any w7 w8 pn W.heap.size (.slice na ns.length nc) ns HK7.out.n (by have := HNL.out; omega) HG8.out HC8.out
      refine (if_pos rfl).mpr ?_
      refine wp_of_exec (exec_append _ _ 26 rfl (.slice (some ⟨w7.heap.size, 0, none⟩) 1 1) (.slice na ns.length nc) rfl rfl 26 rfl hrun9) ?_
      clear hrun9
      obtain ⟨a9, c9, rfl⟩ := Rw.form hrow9
      have HG9 := hide hg9
      have HR9 := hide hrow9
      clear hg9 hrow9
      refine hK.out _ _ (HALL.out _ HG9.out) (fun hHeld => ?_)
      clear hK K
      try simp only [Act.put, List.getElem_toArray, List.getElem_cons_zero, List.getElem_cons_succ, List.setIfInBounds_toArray, List.set_cons_zero, List.set_cons_succ]
      refine wpAnyL_take (i := 10) (v := ?_) rfl (by kernel_rfl) (by kernel_rfl) (by kernel_rfl) (by kernel_rfl) (fun _ _ _ h => h) (Or.inl ⟨by rfl, ?_⟩) hHeld ?_
      rotate_left 1
      · (intro w hSw; (try dsimp only at hSw); go_simp; try with_reducible rfl)
      try simp only [Act.put, List.getElem_toArray, List.getElem_cons_zero, List.getElem_cons_succ, List.setIfInBounds_toArray, List.set_cons_zero, List.set_cons_succ]
      refine wpAnyL_last (by kernel_rfl) rfl (by kernel_rfl) (fun K hK => ?_)
      clear hHeld
      have hc9 := (HK7.out.grow HG9.out).bw.cell
      have hz9 := (HK7.out.grow HG9.out).bw.frozen
      go_simp
      clear hc9 hz9
      refine hK.out _ _ ?_
      clear hK K
      refine NoPanic.normal ?_
      have hk10 := HK7.out.putN HG9.out HR9.out
      have hba := (HBA.out.G HG9.out).off (o := 1) (v := .slice a9 (pn :: ns).length c9) (fun e => absurd rfl (Blk.ne (e ▸ (HBA.out.G HG9.out)) (HK7.out.grow HG9.out).bw (by decide)))
      have hch10 : Chg (fun b => b = wb) w5 (w9.setCell ⟨wb, 1, none⟩ (.slice a9 (pn :: ns).length c9)) := (HCH.out.trans ((HG7.out.trans HG9.out).chg)).trans (chg_setCell _ _ (.inl rfl))
      have HK10 := hide hk10
      have HBA10 := hide hba
      have HCH10 := hide hch10
      clear hk10 hba hch10 HR9 HC8
      generalize w9.setCell ⟨wb, 1, none⟩ (.slice a9 (pn :: ns).length c9) = w10 at HK10 HBA10 HCH10 ⊢
      obtain ⟨v11, w11, hrun, hrow, hg11⟩ := pre_any w10 (w10.alloc (.cells #[I a.1] 2)) a.1 W.heap.size (.slice ea es.length ec) es HK10.out.e HEL.out ((G.refl _).alloc _) (Blk.new w10 [I a.1] 2)
      obtain ⟨a11, c11, rfl⟩ := Rw.form hrow
      have HRUN := hide hrun
      have HROW : Hid (WS W (w11.setCell ⟨wb, 2, none⟩ (.slice a11 (a.1 :: es).length c11)) wb rb x.s (.slice a9 (pn :: ns).length c9) (.slice a11 (a.1 :: es).length c11) (pn :: ns) (a.1 :: es)) := HK10.out.putE hg11 hrow
      have HCHE : Hid (Chg (fun b => b = wb) w5 (w11.setCell ⟨wb, 2, none⟩ (.slice a11 (a.1 :: es).length c11))) := (HCH10.out.trans (hg11.chg)).trans (chg_setCell _ _ (.inl rfl))
      have ca := HBA10.out.cell
      have cw := (HK10.out.grow ((G.refl w10).alloc (.cells #[I a.1] 2))).bw.cell
      have c11w := (HK10.out.grow hg11).bw.cell
      have z11w := (HK10.out.grow hg11).bw.frozen
      clear hrun hrow hg11
      go_wp2_with (first | (at_builtin; refine wpList_append_run rfl _ _ 26 rfl (.slice (some ⟨w10.heap.size, 0, none⟩) 1 1) (.slice ea es.length ec) rfl rfl HRUN.out ?_) | fail)
      go_roundw
      case rel => exact ⟨q, _, _, _, _, rfl, HQN.out, HAT2.out, HROW.out, HCHE.out⟩
      case measure => simp only [RowKit.intOf]; exact HQK.out
end Go.Proofs.YtcbjcienjolceaaDoor
