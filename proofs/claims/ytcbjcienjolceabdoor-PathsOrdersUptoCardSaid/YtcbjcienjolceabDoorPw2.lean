/- Paths: way. -/
import Derived.Test.YtcbjcienjolceabDoorPw1
import Derived.Test.YtcbjcienjolceabDoorPj10
namespace Go.Proofs.YtcbjcienjolceabDoor
open Go.RowKit

/-- The finds from one back to the first. -/
def wayL (fs : List Fd) : Nat → Nat → List Fd
  | 0, _ => []
  | f + 1, i => fs[i]! :: (if (fs[i]!).b < 0 then [] else wayL fs f (fs[i]!).b.toNat)
/-- Each was found by one that was there ahead of it. -/
def Back (fs : List Fd) : Prop := ∀ j : Nat, j < fs.length → -1 ≤ (fs[j]!).b ∧ (fs[j]!).b < j
theorem wayL_fuel {fs : List Fd} (hb : Back fs) : ∀ (f i : Nat), i < fs.length → i < f → wayL fs f i = wayL fs (i + 1) i
  | 0, i, _, h => by omega
  | f + 1, i, hi, h => by
    unfold wayL
    split
    · rfl
    · rename_i hn
      have := hb i hi
      have e1 := wayL_fuel hb f (fs[i]!).b.toNat (by omega) (by omega)
      have e2 := wayL_fuel hb i (fs[i]!).b.toNat (by omega) (by omega)
      rw [e1, e2]
termination_by f => f
theorem wayL_len (fs : List Fd) : ∀ (f i : Nat), (wayL fs f i).length ≤ f
  | 0, i => Nat.le_refl _
  | f + 1, i => by
    unfold wayL
    split
    · rw [List.length_cons, List.length_nil]; omega
    · have := wayL_len fs f (fs[i]!).b.toNat
      rw [List.length_cons]
      omega
/-- A way under way. -/
structure WS (W wr : World) (wb rb : Nat) (s0 : Int) (nv ev : Value) (ns es : List Int) : Prop where
  br : Blk wr rb 57 [I 0, .slice none 0 0, .slice none 0 0]
  bw : Blk wr wb 57 [I s0, nv, ev]
  n : Rw W.heap.size 2 1 wr nv ns.length (ns.map I)
  e : Rw W.heap.size 2 1 wr ev es.length (es.map I)
  dis : ∀ b, nv.ownBlock = some b → ev.ownBlock ≠ some b
  g : G W wr
  lo : W.heap.size ≤ wb ∧ W.heap.size ≤ rb ∧ rb ≠ wb
section
variable {W wr w1 w2 : World} {wb rb : Nat} {s0 : Int} {nv ev v2 : Value} {ns es : List Int}
theorem WS.grow (k : WS W wr wb rb s0 nv ev ns es) (g : G wr w1) : WS W w1 wb rb s0 nv ev ns es := ⟨k.br.G g, k.bw.G g, Rw.G k.n g, Rw.G k.e g, k.dis, k.g.trans g, k.lo⟩
theorem WS.gN (k : WS W wr wb rb s0 nv ev ns es) (c : Chg (fun q => nv.ownBlock = some q) wr w2) : G W w2 := (k.g.chg (F := fun _ => False)).more c (fun b hb e => by have := (Rw.own k.n e).1; omega) |>.G (fun _ q => q.elim)
theorem WS.gE (k : WS W wr wb rb s0 nv ev ns es) (c : Chg (fun q => ev.ownBlock = some q) wr w2) : G W w2 := (k.g.chg (F := fun _ => False)).more c (fun b hb e => by have := (Rw.own k.e e).1; omega) |>.G (fun _ q => q.elim)
theorem WS.bwN (k : WS W wr wb rb s0 nv ev ns es) (c : Chg (fun q => nv.ownBlock = some q) wr w2) : Blk w2 wb 57 [I s0, nv, ev] := k.bw.chg c (Rw.offb k.n k.bw (by decide))
theorem WS.bwE (k : WS W wr wb rb s0 nv ev ns es) (c : Chg (fun q => ev.ownBlock = some q) wr w2) : Blk w2 wb 57 [I s0, nv, ev] := k.bw.chg c (Rw.offb k.e k.bw (by decide))
theorem WS.revN (k : WS W wr wb rb s0 nv ev ns es) {ns' : List Int} (c : Chg (fun q => nv.ownBlock = some q) wr w2) (r : Rw W.heap.size 2 1 w2 nv ns'.length (ns'.map I)) : WS W w2 wb rb s0 nv ev ns' es :=
  ⟨k.br.chg c (Rw.offb k.n k.br (by decide)), k.bwN c, r, Rw.chg k.e c (fun b hb e => k.dis b e hb), k.dis, k.gN c, k.lo⟩
theorem WS.revE (k : WS W wr wb rb s0 nv ev ns es) {es' : List Int} (c : Chg (fun q => ev.ownBlock = some q) wr w2) (r : Rw W.heap.size 2 1 w2 ev es'.length (es'.map I)) : WS W w2 wb rb s0 nv ev ns es' :=
  ⟨k.br.chg c (Rw.offb k.e k.br (by decide)), k.bwE c, Rw.chg k.n c (fun b hb e => k.dis b hb e), r, k.dis, k.gE c, k.lo⟩
theorem WS.appN (k : WS W wr wb rb s0 nv ev ns es) {ns' : List Int} (c : Chg (fun q => nv.ownBlock = some q) wr w2) (r : Rw W.heap.size 2 1 w2 v2 ns'.length (ns'.map I)) (ho : v2.ownBlock = nv.ownBlock ∨ v2.ownBlock = some wr.heap.size) : WS W (w2.setCell ⟨wb, 1, none⟩ v2) wb rb s0 v2 ev ns' es := by
  have hb := k.bwN c
  have hof : ∀ (u : Value) lo n xs, Rw lo 2 1 w2 u n xs → Rw lo 2 1 (w2.setCell ⟨wb, 1, none⟩ v2) u n xs := fun u lo n xs hu => hu.keep (fun b hb' => Below.heap_setCell _ _ _ _ (fun e => Rw.offb hu hb (by decide) (by rw [hb']; exact congrArg some e)))
  refine ⟨(k.br.chg c (Rw.offb k.n k.br (by decide))).keep (Below.heap_setCell _ _ _ _ k.lo.2.2), hb.set 1 _, hof _ _ _ _ r, hof _ _ _ _ (Rw.chg k.e c (fun b hb e => k.dis b e hb)), fun b hb e => ?_, (k.gN c).setCell k.lo.1 _, k.lo⟩
  rcases ho with q | q
  · exact k.dis b (by rw [← q]; exact hb) e
  · rw [q] at hb
    cases hb
    have := (Rw.own k.e e).2.1
    omega
theorem WS.appE (k : WS W wr wb rb s0 nv ev ns es) {es' : List Int} (c : Chg (fun q => ev.ownBlock = some q) wr w2) (r : Rw W.heap.size 2 1 w2 v2 es'.length (es'.map I)) (ho : v2.ownBlock = ev.ownBlock ∨ v2.ownBlock = some wr.heap.size) : WS W (w2.setCell ⟨wb, 2, none⟩ v2) wb rb s0 nv v2 ns es' := by
  have hb := k.bwE c
  have hof : ∀ (u : Value) lo n xs, Rw lo 2 1 w2 u n xs → Rw lo 2 1 (w2.setCell ⟨wb, 2, none⟩ v2) u n xs := fun u lo n xs hu => hu.keep (fun b hb' => Below.heap_setCell _ _ _ _ (fun e => Rw.offb hu hb (by decide) (by rw [hb']; exact congrArg some e)))
  refine ⟨(k.br.chg c (Rw.offb k.e k.br (by decide))).keep (Below.heap_setCell _ _ _ _ k.lo.2.2), hb.set 2 _, hof _ _ _ _ (Rw.chg k.n c (fun b hb e => k.dis b hb e)), hof _ _ _ _ r, fun b hb e => ?_, (k.gE c).setCell k.lo.1 _, k.lo⟩
  rcases ho with q | q
  · exact k.dis b hb (by rw [← q]; exact e)
  · rw [q] at e
    cases e
    have := (Rw.own k.n hb).2.1
    omega
end
set_option maxRecDepth 100000 in
set_option maxHeartbeats 2000000 in
theorem way_any (Wb W : World) (sb B mb h : Nat) (fa fw fv v : Value) (fs : List Fd) (bs : Int → Option Nat) (l : List It) (t : Int) (c : Nat) (k : SM Wb W sb B mb h fa fw fv v fs bs l t c) (hB : Back fs) (i : Nat) (x : Fd) (hx : fs[i]? = some x) (D : List Fd) (hD : D = wayL fs (i + 1) i) (hDl : D.length ≤ 17179869184) :
    Calls Tryd.prog 38 #[ptr sb, I i] W fun e W' => ∃ nv ev : Value, e = .returned (.agg #[I x.s, nv, ev]) ∧ Rw W.heap.size 2 1 W' nv (D.map (·.n)).reverse.length ((D.map (·.n)).reverse.map I) ∧ Rw W.heap.size 2 1 W' ev (D.dropLast.map (·.e)).reverse.length ((D.dropLast.map (·.e)).reverse.map I) ∧ (∀ b, nv.ownBlock = some b → ev.ownBlock ≠ some b) ∧ G W W' := by
  obtain ⟨g, cap, hfv, hgl, -⟩ := fin_at k.fin hx
  subst hfv
  have HC : Hid (∀ V, G W V → (∀ o, V.cell? ⟨sb, o, none⟩ = ([fa, fw, .slice (some ⟨g, 0, none⟩) fs.length cap, .map (some mb), ptr h, I c] : List Value)[o]?) ∧ ∀ j y, fs[j]? = some y → V.cell? ⟨g, j * 4, none⟩ = some (I y.n) ∧ V.cell? ⟨g, j * 4 + 1, none⟩ = some (I y.s) ∧ V.cell? ⟨g, j * 4 + 2, none⟩ = some (I y.e) ∧ V.cell? ⟨g, j * 4 + 3, none⟩ = some (I y.b)) := fun V gV => by
    refine ⟨(k.blk.G gV).cell, fun j y hy => ?_⟩
    obtain ⟨g2, cap2, he, -, q1, q2, q3, q4⟩ := fin_at (Rw.G k.fin gV) hy
    have : g = g2 := by simp at he; exact he.1
    subst this
    exact ⟨q1, q2, q3, q4⟩
  have gR : G W (W.alloc (.cells #[I 0, .slice none 0 0, .slice none 0 0] 57)) := (G.refl W).alloc _
  obtain ⟨d0, dx⟩ := HC.out _ gR
  obtain ⟨x1, x2, x3, x4⟩ := dx i x hx
  have hil := (List.getElem?_eq_some_iff.1 hx).1
  have hiI : (i : Int) < fs.length := by omega
  have gW : G (W.alloc (.cells #[I 0, .slice none 0 0, .slice none 0 0] 57)) ((W.alloc (.cells #[I 0, .slice none 0 0, .slice none 0 0] 57)).alloc (.cells #[I x.s, .slice none 0 0, .slice none 0 0] 57)) := (G.refl _).alloc _
  have hb0 := Blk.new (W.alloc (.cells #[I 0, .slice none 0 0, .slice none 0 0] 57)) [I x.s, .slice none 0 0, .slice none 0 0] 57
  rw [World.size_alloc] at hb0
  have HK0 : Hid (WS W ((W.alloc (.cells #[I 0, .slice none 0 0, .slice none 0 0] 57)).alloc (.cells #[I x.s, .slice none 0 0, .slice none 0 0] 57)) (W.heap.size + 1) W.heap.size x.s (.slice none 0 0) (.slice none 0 0) [] []) := ⟨(Blk.new W [I 0, .slice none 0 0, .slice none 0 0] 57).G gW, hb0, Rw.nil _ _ _ _, Rw.nil _ _ _ _, fun b hb => by simp [Value.ownBlock] at hb, gR.trans gW, by omega, by omega, by omega⟩
  have HD := hide hD
  have HBK := hide hB
  have HX := hide hx
  have HIL := hide hil
  clear k dx hB hD hx hgl hil gR gW hb0
  go_enter Tryd.func38, Tryd.ntmps38
  go_wp2_with fail
  generalize ((W.alloc (.cells #[I 0, .slice none 0 0, .slice none 0 0] 57)).alloc (.cells #[I x.s, .slice none 0 0, .slice none 0 0] 57)) = w0 at *
  obtain ⟨wb, hwb⟩ : ∃ wb, wb = W.heap.size + 1 := ⟨_, rfl⟩
  rw [← hwb] at HK0 ⊢
  obtain ⟨rb, hrb⟩ : ∃ rb, rb = W.heap.size := ⟨_, rfl⟩
  have HK1 : Hid (WS W w0 wb rb x.s (.slice none 0 0) (.slice none 0 0) [] []) := by rw [hrb]; exact HK0.out
  rw [← hrb]
  clear hwb hrb x1 x2 x3 x4 d0 HK0
  go_loopw [1] (fun av wr => ∃ (cur : Nat) (dn : List Fd) (nv ev : Value), av = I cur ∧ cur < fs.length ∧ WS W wr wb rb x.s nv ev (dn.map (·.n)) (dn.map (·.e)) ∧ dn ++ wayL fs (cur + 1) cur = D) (fun av _ => (RowKit.intOf av).toNat)
  case atStart => exact ⟨i, [], _, _, rfl, HIL.out, HK1.out, HD.out.symm⟩
  case round =>
    obtain ⟨cur, dn, nv, ev, rfl, hcl, hws, hdn⟩ := hrel
    obtain ⟨ns, hns⟩ : ∃ ns, ns = dn.map (·.n) := ⟨_, rfl⟩
    obtain ⟨es, hes⟩ : ∃ es, es = dn.map (·.e) := ⟨_, rfl⟩
    rw [← hns, ← hes] at hws
    obtain ⟨na, nc, rfl⟩ := Rw.form hws.n
    obtain ⟨ea, ec, rfl⟩ := Rw.form hws.e
    obtain ⟨y, hy⟩ : ∃ y, fs[cur]? = some y := ⟨_, List.getElem?_eq_getElem hcl⟩
    have ey : fs[cur]! = y := by simp [hy]
    obtain ⟨d0, dx⟩ := HC.out wr hws.g
    obtain ⟨y1, y2, y3, y4⟩ := dx cur y hy
    have hbk := HBK.out cur hcl
    rw [ey] at hbk
    have hcI : (cur : Int) < fs.length := by omega
    have hdl : ns.length < 17179869184 ∧ es.length < 17179869184 := by
      have := congrArg List.length hdn
      rw [List.length_append] at this
      have h2 : 0 < (wayL fs (cur + 1) cur).length := by unfold wayL; simp
      rw [hns, hes, List.length_map, List.length_map]
      omega
    have HDL := hide hdl
    have HWS := hide hws
    have HY := hide hy
    have HEY := hide ey
    have HDN := hide hdn
    have HBKY := hide hbk
    have HCL := hide hcl
    have HNS := hide hns
    have HES := hide hes
    clear dx hws hy ey hdn hbk hcl hns hes hdl
    by_cases hb0 : y.b < 0
    · have hbd : decide (0 ≤ y.b) = false := decide_eq_false (by omega)
      have hbn : ¬ (0 ≤ y.b) := by omega
      have HLS : Hid (D = dn ++ [y]) := by
        show D = _
        rw [← HDN.out]
        congr 1
        unfold wayL
        rw [HEY.out, if_pos hb0]
      clear hb0
      go_wp2_with fail
      refine wp_region_noPanic ?_
      refine wp_region_L (S := (fun V => (∀ j, V.cell? ⟨sb, j, none⟩ = ([fa, fw, .slice (some ⟨g, 0, none⟩) fs.length cap, .map (some mb), ptr h, I c] : List Value)[j]?) ∧ (V.cell? ⟨g, cur * 4, none⟩ = some (I y.n) ∧ V.cell? ⟨g, cur * 4 + 1, none⟩ = some (I y.s) ∧ V.cell? ⟨g, cur * 4 + 2, none⟩ = some (I y.e) ∧ V.cell? ⟨g, cur * 4 + 3, none⟩ = some (I y.b)) ∧ (∀ j, V.cell? ⟨wb, j, none⟩ = ([I x.s, (.slice na ns.length nc), (.slice ea es.length ec)] : List Value)[j]?))) 13 (by kernel_rfl) (⟨(HC.out _ ((HWS.out.grow (G.drew (G.refl _))).g)).1, (HC.out _ ((HWS.out.grow (G.drew (G.refl _))).g)).2 cur y HY.out, ((HWS.out.grow (G.drew (G.refl _))).bw).cell⟩) (fun hHeld => ?_)
      refine wpAnyL_take (i := 0) (v := ?_) rfl (by kernel_rfl) (by kernel_rfl) (by kernel_rfl) (by kernel_rfl) (fun _ _ _ h => h) (Or.inl ⟨by rfl, ?_⟩) hHeld ?_
      rotate_left 1
      · (intro w hSw; obtain ⟨q1, ⟨q2, q3, q4, q5⟩, q6⟩ := hSw; go_simp; try with_reducible rfl)
      try simp only [Act.put, List.getElem_toArray, List.getElem_cons_zero, List.setIfInBounds_toArray, List.set_cons_zero, List.set_cons_succ]
      refine wpAnyL_take (i := 1) (v := ?_) rfl (by kernel_rfl) (by kernel_rfl) (by kernel_rfl) (by kernel_rfl) (fun _ _ _ h => h) (Or.inl ⟨by rfl, ?_⟩) hHeld ?_
      rotate_left 1
      · (intro w hSw; obtain ⟨q1, ⟨q2, q3, q4, q5⟩, q6⟩ := hSw; go_simp; try with_reducible rfl)
      try simp only [Act.put, List.getElem_toArray, List.getElem_cons_zero, List.getElem_cons_succ, List.setIfInBounds_toArray, List.set_cons_zero, List.set_cons_succ]
      refine wpAnyL_take (i := 2) (v := ?_) rfl (by kernel_rfl) (by kernel_rfl) (by kernel_rfl) (by kernel_rfl) (fun _ _ _ h => h) (Or.inl ⟨by rfl, ?_⟩) hHeld ?_
      rotate_left 1
      · (intro w hSw; obtain ⟨q1, ⟨q2, q3, q4, q5⟩, q6⟩ := hSw; go_simp; try with_reducible rfl)
      try simp only [Act.put, List.getElem_toArray, List.getElem_cons_zero, List.getElem_cons_succ, List.setIfInBounds_toArray, List.set_cons_zero, List.set_cons_succ]
      refine wpAnyL_take (i := 3) (v := ?_) rfl (by kernel_rfl) (by kernel_rfl) (by kernel_rfl) (by kernel_rfl) (fun _ _ _ h => h) (Or.inl ⟨by rfl, ?_⟩) hHeld ?_
      rotate_left 1
      · (intro w hSw; obtain ⟨q1, ⟨q2, q3, q4, q5⟩, q6⟩ := hSw; go_simp; try with_reducible rfl)
      try simp only [Act.put, List.getElem_toArray, List.getElem_cons_zero, List.getElem_cons_succ, List.setIfInBounds_toArray, List.set_cons_zero, List.set_cons_succ]
      refine wpAnyL_take (i := 4) (v := ?_) rfl (by kernel_rfl) (by kernel_rfl) (by kernel_rfl) (by kernel_rfl) (fun _ _ _ h => h) (Or.inl ⟨by rfl, ?_⟩) hHeld ?_
      rotate_left 1
      · (intro w hSw; obtain ⟨q1, ⟨q2, q3, q4, q5⟩, q6⟩ := hSw; go_simp; try with_reducible rfl)
      try simp only [Act.put, List.getElem_toArray, List.getElem_cons_zero, List.getElem_cons_succ, List.setIfInBounds_toArray, List.set_cons_zero, List.set_cons_succ]
      refine wpAnyL_take (i := 5) (v := ?_) rfl (by kernel_rfl) (by kernel_rfl) (by kernel_rfl) (by kernel_rfl) (fun _ _ _ h => h) (Or.inl ⟨by rfl, ?_⟩) hHeld ?_
      rotate_left 1
      · (intro w hSw; obtain ⟨q1, ⟨q2, q3, q4, q5⟩, q6⟩ := hSw; go_simp; try with_reducible rfl)
      try simp only [Act.put, List.getElem_toArray, List.getElem_cons_zero, List.getElem_cons_succ, List.setIfInBounds_toArray, List.set_cons_zero, List.set_cons_succ]
      refine wpAnyL_take (i := 6) (v := ?_) rfl (by kernel_rfl) (by kernel_rfl) (by kernel_rfl) (by kernel_rfl) (fun _ _ _ h => h) (Or.inl ⟨by rfl, ?_⟩) hHeld ?_
      rotate_left 1
      · (intro w hSw; obtain ⟨q1, ⟨q2, q3, q4, q5⟩, q6⟩ := hSw; go_simp; try with_reducible rfl)
      try simp only [Act.put, List.getElem_toArray, List.getElem_cons_zero, List.getElem_cons_succ, List.setIfInBounds_toArray, List.set_cons_zero, List.set_cons_succ]
      refine wpAnyL_take (i := 7) (v := ?_) rfl (by kernel_rfl) (by kernel_rfl) (by kernel_rfl) (by kernel_rfl) (fun _ _ _ h => h) (Or.inl ⟨by rfl, ?_⟩) hHeld ?_
      rotate_left 1
      · (intro w hSw; obtain ⟨q1, ⟨q2, q3, q4, q5⟩, q6⟩ := hSw; go_simp; try with_reducible rfl)
      try simp only [Act.put, List.getElem_toArray, List.getElem_cons_zero, List.getElem_cons_succ, List.setIfInBounds_toArray, List.set_cons_zero, List.set_cons_succ]
      refine wpAnyL_take (i := 8) (v := ?_) rfl (by kernel_rfl) (by kernel_rfl) (by kernel_rfl) (by kernel_rfl) (fun _ _ _ h => h) (Or.inl ⟨by rfl, ?_⟩) hHeld ?_
      rotate_left 1
      · (intro w hSw; obtain ⟨q1, ⟨q2, q3, q4, q5⟩, q6⟩ := hSw; go_simp; try with_reducible rfl)
      try simp only [Act.put, List.getElem_toArray, List.getElem_cons_zero, List.getElem_cons_succ, List.setIfInBounds_toArray, List.set_cons_zero, List.set_cons_succ]
      refine wpAnyL_take (i := 9) (v := ?_) rfl (by kernel_rfl) (by kernel_rfl) (by kernel_rfl) (by kernel_rfl) (fun _ _ _ h => h) (Or.inl ⟨by rfl, ?_⟩) hHeld ?_
      rotate_left 1
      · (intro w hSw; obtain ⟨q1, ⟨q2, q3, q4, q5⟩, q6⟩ := hSw; go_simp; try with_reducible rfl)
      try simp only [Act.put, List.getElem_toArray, List.getElem_cons_zero, List.getElem_cons_succ, List.setIfInBounds_toArray, List.set_cons_zero, List.set_cons_succ]
      refine wpAnyL_one (i := 10) (by kernel_rfl) rfl (by kernel_rfl) (fun K hK => ?_)
      clear hHeld
      go_simp
      have HG6 : Hid (G wr (wr.alloc (.cells #[I y.n] 2)).drew) := ((G.refl wr).alloc _).drew
      have HC6 : Hid (∀ j u, ([I y.n] : List Value)[j]? = some u → (wr.alloc (.cells #[I y.n] 2)).drew.cell? ((⟨wr.heap.size, 0, none⟩ : Addr).add j) = some u) := cell_new wr [I y.n] 2
      generalize (wr.alloc (.cells #[I y.n] 2)).drew = w6 at HG6 HC6 ⊢
      refine hK.out _ _ (⟨(HC.out _ ((HWS.out.grow HG6.out).g)).1, (HC.out _ ((HWS.out.grow HG6.out).g)).2 cur y HY.out, ((HWS.out.grow HG6.out).bw).cell⟩) (fun hHeld => ?_)
      clear hK K
      try simp only [Act.put, List.getElem_toArray, List.getElem_cons_zero, List.getElem_cons_succ, List.setIfInBounds_toArray, List.set_cons_zero, List.set_cons_succ]
      refine wpAnyL_one (i := 11) (by kernel_rfl) rfl (by kernel_rfl) (fun K hK => ?_)
      clear hHeld
      obtain ⟨v7, w7, hrun, hrow7, hch7, hob7⟩ := app_I w6 W.heap.size (.slice na ns.length nc) (ns).length ((ns).map I) (HWS.out.grow HG6.out).n ⟨wr.heap.size, 0, none⟩ 1 1 [I y.n] rfl HC6.out (fun u hu => by simp at hu; subst hu; rfl) (by have := HDL.out; omega) (HWS.out.grow HG6.out).g.size
      refine (if_pos rfl).mpr ?_
      refine wp_of_exec (exec_append _ _ 25 rfl (.slice na ns.length nc) (.slice (some ⟨wr.heap.size, 0, none⟩) 1 1) rfl rfl 25 rfl hrun) ?_
      clear hrun
      obtain ⟨a7, c7, rfl⟩ := Rw.form hrow7
      have hrow8 : Rw W.heap.size 2 1 w7 (.slice a7 ((ns).length + 1) c7) (ns ++ [y.n]).length ((ns ++ [y.n]).map I) := by rw [List.length_append, List.map_append]; exact hrow7
      have HKA := hide ((HWS.out.grow HG6.out).appN hch7 hrow8 hob7)
      have HG7 := hide ((HWS.out.grow HG6.out).gN hch7)
      have HW7 := hide ((HWS.out.grow HG6.out).bwN hch7)
      clear hrow7 hrow8 hch7 hob7
      refine hK.out _ _ (⟨(HC.out _ (HG7.out)).1, (HC.out _ (HG7.out)).2 cur y HY.out, (HW7.out).cell⟩) (fun hHeld => ?_)
      clear hK K
      try simp only [Act.put, List.getElem_toArray, List.getElem_cons_zero, List.getElem_cons_succ, List.setIfInBounds_toArray, List.set_cons_zero, List.set_cons_succ]
      refine wpAnyL_take (i := 12) (v := ?_) rfl (by kernel_rfl) (by kernel_rfl) (by kernel_rfl) (by kernel_rfl) (fun _ _ _ h => h) (Or.inl ⟨by rfl, ?_⟩) hHeld ?_
      rotate_left 1
      · (intro w hSw; (try dsimp only at hSw); go_simp; try with_reducible rfl)
      try simp only [Act.put, List.getElem_toArray, List.getElem_cons_zero, List.getElem_cons_succ, List.setIfInBounds_toArray, List.set_cons_zero, List.set_cons_succ]
      refine wpAnyL_last (by kernel_rfl) rfl (by kernel_rfl) (fun K hK => ?_)
      clear hHeld
      have hc7 := HW7.out.cell
      have hz7 := HW7.out.frozen
      go_simp
      refine hK.out _ _ ?_
      clear hK K
      refine NoPanic.normal ?_
      generalize w7.setCell ⟨wb, 1, none⟩ (.slice a7 ((ns).length + 1) c7) = wA at HKA ⊢
      clear HG6 HC6 HG7 HW7
      clear d0 y1 y2 y3 y4 HWS
      obtain ⟨na, nc, ns2, hns2, he2⟩ : ∃ na nc ns2, ns2 = ns ++ [y.n] ∧ Value.slice a7 (ns.length + 1) c7 = .slice na ns2.length nc := ⟨a7, c7, _, rfl, by simp⟩
      rw [← hns2, he2] at HKA
      rw [he2]
      have HNS2 := hide hns2
      have HDL : Hid (ns2.length ≤ 17179869184 ∧ es.length < 17179869184) := by have := HDL.out; show _ ∧ _; rw [hns2, List.length_append]; simp; omega
      clear he2 hns2
      have e5 := HKA.out.bw.cell
      have HRV := hide (rev_any W.heap.size wA (.slice na ns2.length nc) ns2 HKA.out.n HDL.out.1)
      go_wp2_with fail
      refine HRV.out.mono ?_
      rintro e w8 ⟨rfl, hr8, hc8⟩
      have hr8' : Rw W.heap.size 2 1 w8 (.slice na ns2.length nc) ns2.reverse.length (ns2.reverse.map I) := by rw [List.length_reverse]; exact hr8
      have HK8 := hide (HKA.out.revN hc8 hr8')
      clear hr8 hr8' hc8 e5 HRV HKA
      have e5 := HK8.out.bw.cell
      have HRV := hide (rev_any W.heap.size w8 (.slice ea es.length ec) es HK8.out.e (by have := HDL.out; omega))
      go_wp2_with fail
      refine HRV.out.mono ?_
      rintro e w9 ⟨rfl, hr9, hc9⟩
      have hr9' : Rw W.heap.size 2 1 w9 (.slice ea es.length ec) es.reverse.length (es.reverse.map I) := by rw [List.length_reverse]; exact hr9
      have HK9 := hide (HK8.out.revE hc9 hr9')
      clear hr9 hr9' hc9 e5 HRV HK8
      have e5 := HK9.out.bw.cell
      have e6 := HK9.out.br.cell
      have z6 := HK9.out.br.frozen
      have hbf : Blk (((w9.setCell ⟨rb, 0, none⟩ (I x.s)).setCell ⟨rb, 1, none⟩ (.slice na ns2.length nc)).setCell ⟨rb, 2, none⟩ (.slice ea es.length ec)) rb 57 [I x.s, .slice na ns2.length nc, .slice ea es.length ec] := ((HK9.out.br.set 0 _).set 1 _).set 2 _
      have e7 := hbf.cell
      have hof : ∀ b, b ≠ rb → (((w9.setCell ⟨rb, 0, none⟩ (I x.s)).setCell ⟨rb, 1, none⟩ (.slice na ns2.length nc)).setCell ⟨rb, 2, none⟩ (.slice ea es.length ec)).heap[b]? = w9.heap[b]? := fun b hb => by
        rw [Below.heap_setCell _ _ _ _ hb, Below.heap_setCell _ _ _ _ hb, Below.heap_setCell _ _ _ _ hb]
      have hkp : ∀ (u : Value) lo n xs, Rw lo 2 1 w9 u n xs → Rw lo 2 1 (((w9.setCell ⟨rb, 0, none⟩ (I x.s)).setCell ⟨rb, 1, none⟩ (.slice na ns2.length nc)).setCell ⟨rb, 2, none⟩ (.slice ea es.length ec)) u n xs := fun u lo n xs hu => hu.keep (fun b hb => hof b (fun e => Rw.offb hu HK9.out.br (by decide) (by rw [hb, e])))
      have e8 : ns2.reverse = (D.map (·.n)).reverse := by rw [HNS2.out, HLS.out, HNS.out, List.map_append]; rfl
      have e9 : es.reverse = (D.dropLast.map (·.e)).reverse := by rw [HLS.out, HES.out, List.dropLast_concat]
      have HFN := hkp _ _ _ _ HK9.out.n
      have HFE := hkp _ _ _ _ HK9.out.e
      rw [e8] at HFN
      rw [e9] at HFE
      have HFN := hide HFN
      have HFE := hide HFE
      have HFG : Hid (G W (((w9.setCell ⟨rb, 0, none⟩ (I x.s)).setCell ⟨rb, 1, none⟩ (.slice na ns2.length nc)).setCell ⟨rb, 2, none⟩ (.slice ea es.length ec))) := ((HK9.out.g.setCell HK9.out.lo.2.1 _).setCell HK9.out.lo.2.1 _).setCell HK9.out.lo.2.1 _
      have HFD := hide HK9.out.dis
      clear hbf hof hkp e8 e9
      go_wp2_with fail
      refine bodyPost_ret (v := .agg #[I x.s, .slice na ns2.length nc, .slice ea es.length ec]) (by simp [results, Tryd.results38, go_sem, e7]) rfl ⟨.slice na ns2.length nc, .slice ea es.length ec, rfl, HFN.out, HFE.out, HFD.out, HFG.out⟩
    · have hbd : decide (0 ≤ y.b) = true := decide_eq_true (by omega)
      have hbn : 0 ≤ y.b := by omega
      clear hb0
      go_wp2_with fail
      refine wp_region_noPanic ?_
      refine wp_region_L (S := (fun V => (∀ j, V.cell? ⟨sb, j, none⟩ = ([fa, fw, .slice (some ⟨g, 0, none⟩) fs.length cap, .map (some mb), ptr h, I c] : List Value)[j]?) ∧ (V.cell? ⟨g, cur * 4, none⟩ = some (I y.n) ∧ V.cell? ⟨g, cur * 4 + 1, none⟩ = some (I y.s) ∧ V.cell? ⟨g, cur * 4 + 2, none⟩ = some (I y.e) ∧ V.cell? ⟨g, cur * 4 + 3, none⟩ = some (I y.b)) ∧ (∀ j, V.cell? ⟨wb, j, none⟩ = ([I x.s, (.slice na ns.length nc), (.slice ea es.length ec)] : List Value)[j]?))) 13 (by kernel_rfl) (⟨(HC.out _ ((HWS.out.grow (G.drew (G.refl _))).g)).1, (HC.out _ ((HWS.out.grow (G.drew (G.refl _))).g)).2 cur y HY.out, ((HWS.out.grow (G.drew (G.refl _))).bw).cell⟩) (fun hHeld => ?_)
      refine wpAnyL_take (i := 0) (v := ?_) rfl (by kernel_rfl) (by kernel_rfl) (by kernel_rfl) (by kernel_rfl) (fun _ _ _ h => h) (Or.inl ⟨by rfl, ?_⟩) hHeld ?_
      rotate_left 1
      · (intro w hSw; obtain ⟨q1, ⟨q2, q3, q4, q5⟩, q6⟩ := hSw; go_simp; try with_reducible rfl)
      try simp only [Act.put, List.getElem_toArray, List.getElem_cons_zero, List.setIfInBounds_toArray, List.set_cons_zero, List.set_cons_succ]
      refine wpAnyL_take (i := 1) (v := ?_) rfl (by kernel_rfl) (by kernel_rfl) (by kernel_rfl) (by kernel_rfl) (fun _ _ _ h => h) (Or.inl ⟨by rfl, ?_⟩) hHeld ?_
      rotate_left 1
      · (intro w hSw; obtain ⟨q1, ⟨q2, q3, q4, q5⟩, q6⟩ := hSw; go_simp; try with_reducible rfl)
      try simp only [Act.put, List.getElem_toArray, List.getElem_cons_zero, List.getElem_cons_succ, List.setIfInBounds_toArray, List.set_cons_zero, List.set_cons_succ]
      refine wpAnyL_take (i := 2) (v := ?_) rfl (by kernel_rfl) (by kernel_rfl) (by kernel_rfl) (by kernel_rfl) (fun _ _ _ h => h) (Or.inl ⟨by rfl, ?_⟩) hHeld ?_
      rotate_left 1
      · (intro w hSw; obtain ⟨q1, ⟨q2, q3, q4, q5⟩, q6⟩ := hSw; go_simp; try with_reducible rfl)
      try simp only [Act.put, List.getElem_toArray, List.getElem_cons_zero, List.getElem_cons_succ, List.setIfInBounds_toArray, List.set_cons_zero, List.set_cons_succ]
      refine wpAnyL_take (i := 3) (v := ?_) rfl (by kernel_rfl) (by kernel_rfl) (by kernel_rfl) (by kernel_rfl) (fun _ _ _ h => h) (Or.inl ⟨by rfl, ?_⟩) hHeld ?_
      rotate_left 1
      · (intro w hSw; obtain ⟨q1, ⟨q2, q3, q4, q5⟩, q6⟩ := hSw; go_simp; try with_reducible rfl)
      try simp only [Act.put, List.getElem_toArray, List.getElem_cons_zero, List.getElem_cons_succ, List.setIfInBounds_toArray, List.set_cons_zero, List.set_cons_succ]
      refine wpAnyL_take (i := 4) (v := ?_) rfl (by kernel_rfl) (by kernel_rfl) (by kernel_rfl) (by kernel_rfl) (fun _ _ _ h => h) (Or.inl ⟨by rfl, ?_⟩) hHeld ?_
      rotate_left 1
      · (intro w hSw; obtain ⟨q1, ⟨q2, q3, q4, q5⟩, q6⟩ := hSw; go_simp; try with_reducible rfl)
      try simp only [Act.put, List.getElem_toArray, List.getElem_cons_zero, List.getElem_cons_succ, List.setIfInBounds_toArray, List.set_cons_zero, List.set_cons_succ]
      refine wpAnyL_take (i := 5) (v := ?_) rfl (by kernel_rfl) (by kernel_rfl) (by kernel_rfl) (by kernel_rfl) (fun _ _ _ h => h) (Or.inl ⟨by rfl, ?_⟩) hHeld ?_
      rotate_left 1
      · (intro w hSw; obtain ⟨q1, ⟨q2, q3, q4, q5⟩, q6⟩ := hSw; go_simp; try with_reducible rfl)
      try simp only [Act.put, List.getElem_toArray, List.getElem_cons_zero, List.getElem_cons_succ, List.setIfInBounds_toArray, List.set_cons_zero, List.set_cons_succ]
      refine wpAnyL_take (i := 6) (v := ?_) rfl (by kernel_rfl) (by kernel_rfl) (by kernel_rfl) (by kernel_rfl) (fun _ _ _ h => h) (Or.inl ⟨by rfl, ?_⟩) hHeld ?_
      rotate_left 1
      · (intro w hSw; obtain ⟨q1, ⟨q2, q3, q4, q5⟩, q6⟩ := hSw; go_simp; try with_reducible rfl)
      try simp only [Act.put, List.getElem_toArray, List.getElem_cons_zero, List.getElem_cons_succ, List.setIfInBounds_toArray, List.set_cons_zero, List.set_cons_succ]
      refine wpAnyL_take (i := 7) (v := ?_) rfl (by kernel_rfl) (by kernel_rfl) (by kernel_rfl) (by kernel_rfl) (fun _ _ _ h => h) (Or.inl ⟨by rfl, ?_⟩) hHeld ?_
      rotate_left 1
      · (intro w hSw; obtain ⟨q1, ⟨q2, q3, q4, q5⟩, q6⟩ := hSw; go_simp; try with_reducible rfl)
      try simp only [Act.put, List.getElem_toArray, List.getElem_cons_zero, List.getElem_cons_succ, List.setIfInBounds_toArray, List.set_cons_zero, List.set_cons_succ]
      refine wpAnyL_take (i := 8) (v := ?_) rfl (by kernel_rfl) (by kernel_rfl) (by kernel_rfl) (by kernel_rfl) (fun _ _ _ h => h) (Or.inl ⟨by rfl, ?_⟩) hHeld ?_
      rotate_left 1
      · (intro w hSw; obtain ⟨q1, ⟨q2, q3, q4, q5⟩, q6⟩ := hSw; go_simp; try with_reducible rfl)
      try simp only [Act.put, List.getElem_toArray, List.getElem_cons_zero, List.getElem_cons_succ, List.setIfInBounds_toArray, List.set_cons_zero, List.set_cons_succ]
      refine wpAnyL_take (i := 9) (v := ?_) rfl (by kernel_rfl) (by kernel_rfl) (by kernel_rfl) (by kernel_rfl) (fun _ _ _ h => h) (Or.inl ⟨by rfl, ?_⟩) hHeld ?_
      rotate_left 1
      · (intro w hSw; obtain ⟨q1, ⟨q2, q3, q4, q5⟩, q6⟩ := hSw; go_simp; try with_reducible rfl)
      try simp only [Act.put, List.getElem_toArray, List.getElem_cons_zero, List.getElem_cons_succ, List.setIfInBounds_toArray, List.set_cons_zero, List.set_cons_succ]
      refine wpAnyL_one (i := 10) (by kernel_rfl) rfl (by kernel_rfl) (fun K hK => ?_)
      clear hHeld
      go_simp
      have HG6 : Hid (G wr (wr.alloc (.cells #[I y.n] 2)).drew) := ((G.refl wr).alloc _).drew
      have HC6 : Hid (∀ j u, ([I y.n] : List Value)[j]? = some u → (wr.alloc (.cells #[I y.n] 2)).drew.cell? ((⟨wr.heap.size, 0, none⟩ : Addr).add j) = some u) := cell_new wr [I y.n] 2
      generalize (wr.alloc (.cells #[I y.n] 2)).drew = w6 at HG6 HC6 ⊢
      refine hK.out _ _ (⟨(HC.out _ ((HWS.out.grow HG6.out).g)).1, (HC.out _ ((HWS.out.grow HG6.out).g)).2 cur y HY.out, ((HWS.out.grow HG6.out).bw).cell⟩) (fun hHeld => ?_)
      clear hK K
      try simp only [Act.put, List.getElem_toArray, List.getElem_cons_zero, List.getElem_cons_succ, List.setIfInBounds_toArray, List.set_cons_zero, List.set_cons_succ]
      refine wpAnyL_one (i := 11) (by kernel_rfl) rfl (by kernel_rfl) (fun K hK => ?_)
      clear hHeld
      obtain ⟨v7, w7, hrun, hrow7, hch7, hob7⟩ := app_I w6 W.heap.size (.slice na ns.length nc) (ns).length ((ns).map I) (HWS.out.grow HG6.out).n ⟨wr.heap.size, 0, none⟩ 1 1 [I y.n] rfl HC6.out (fun u hu => by simp at hu; subst hu; rfl) (by have := HDL.out; omega) (HWS.out.grow HG6.out).g.size
      refine (if_pos rfl).mpr ?_
      refine wp_of_exec (exec_append _ _ 25 rfl (.slice na ns.length nc) (.slice (some ⟨wr.heap.size, 0, none⟩) 1 1) rfl rfl 25 rfl hrun) ?_
      clear hrun
      obtain ⟨a7, c7, rfl⟩ := Rw.form hrow7
      have hrow8 : Rw W.heap.size 2 1 w7 (.slice a7 ((ns).length + 1) c7) (ns ++ [y.n]).length ((ns ++ [y.n]).map I) := by rw [List.length_append, List.map_append]; exact hrow7
      have HKA := hide ((HWS.out.grow HG6.out).appN hch7 hrow8 hob7)
      have HG7 := hide ((HWS.out.grow HG6.out).gN hch7)
      have HW7 := hide ((HWS.out.grow HG6.out).bwN hch7)
      clear hrow7 hrow8 hch7 hob7
      refine hK.out _ _ (⟨(HC.out _ (HG7.out)).1, (HC.out _ (HG7.out)).2 cur y HY.out, (HW7.out).cell⟩) (fun hHeld => ?_)
      clear hK K
      try simp only [Act.put, List.getElem_toArray, List.getElem_cons_zero, List.getElem_cons_succ, List.setIfInBounds_toArray, List.set_cons_zero, List.set_cons_succ]
      refine wpAnyL_take (i := 12) (v := ?_) rfl (by kernel_rfl) (by kernel_rfl) (by kernel_rfl) (by kernel_rfl) (fun _ _ _ h => h) (Or.inl ⟨by rfl, ?_⟩) hHeld ?_
      rotate_left 1
      · (intro w hSw; (try dsimp only at hSw); go_simp; try with_reducible rfl)
      try simp only [Act.put, List.getElem_toArray, List.getElem_cons_zero, List.getElem_cons_succ, List.setIfInBounds_toArray, List.set_cons_zero, List.set_cons_succ]
      refine wpAnyL_last (by kernel_rfl) rfl (by kernel_rfl) (fun K hK => ?_)
      clear hHeld
      have hc7 := HW7.out.cell
      have hz7 := HW7.out.frozen
      go_simp
      refine hK.out _ _ ?_
      clear hK K
      refine NoPanic.normal ?_
      generalize w7.setCell ⟨wb, 1, none⟩ (.slice a7 ((ns).length + 1) c7) = wA at HKA ⊢
      clear HG6 HC6 HG7 HW7
      clear d0 y1 y2 y3 y4 HWS
      obtain ⟨na, nc, ns2, hns2, he2⟩ : ∃ na nc ns2, ns2 = ns ++ [y.n] ∧ Value.slice a7 (ns.length + 1) c7 = .slice na ns2.length nc := ⟨a7, c7, _, rfl, by simp⟩
      rw [← hns2, he2] at HKA
      rw [he2]
      have HNS2 := hide hns2
      have HDL : Hid (ns2.length ≤ 17179869184 ∧ es.length < 17179869184) := by have := HDL.out; show _ ∧ _; rw [hns2, List.length_append]; simp; omega
      clear he2 hns2
      obtain ⟨d0, dx⟩ := HC.out wA HKA.out.g
      obtain ⟨y1, y2, y3, y4⟩ := dx cur y HY.out
      clear dx
      go_wp2_with fail
      refine wp_region_noPanic ?_
      refine wp_region_L (S := (fun V => (∀ j, V.cell? ⟨sb, j, none⟩ = ([fa, fw, .slice (some ⟨g, 0, none⟩) fs.length cap, .map (some mb), ptr h, I c] : List Value)[j]?) ∧ (V.cell? ⟨g, cur * 4, none⟩ = some (I y.n) ∧ V.cell? ⟨g, cur * 4 + 1, none⟩ = some (I y.s) ∧ V.cell? ⟨g, cur * 4 + 2, none⟩ = some (I y.e) ∧ V.cell? ⟨g, cur * 4 + 3, none⟩ = some (I y.b)) ∧ (∀ j, V.cell? ⟨wb, j, none⟩ = ([I x.s, (.slice na ns2.length nc), (.slice ea es.length ec)] : List Value)[j]?))) 13 (by kernel_rfl) (⟨(HC.out _ ((HKA.out.grow (G.drew (G.refl _))).g)).1, (HC.out _ ((HKA.out.grow (G.drew (G.refl _))).g)).2 cur y HY.out, ((HKA.out.grow (G.drew (G.refl _))).bw).cell⟩) (fun hHeld => ?_)
      refine wpAnyL_take (i := 0) (v := ?_) rfl (by kernel_rfl) (by kernel_rfl) (by kernel_rfl) (by kernel_rfl) (fun _ _ _ h => h) (Or.inl ⟨by rfl, ?_⟩) hHeld ?_
      rotate_left 1
      · (intro w hSw; obtain ⟨q1, ⟨q2, q3, q4, q5⟩, q6⟩ := hSw; go_simp; try with_reducible rfl)
      try simp only [Act.put, List.getElem_toArray, List.getElem_cons_zero, List.setIfInBounds_toArray, List.set_cons_zero, List.set_cons_succ]
      refine wpAnyL_take (i := 1) (v := ?_) rfl (by kernel_rfl) (by kernel_rfl) (by kernel_rfl) (by kernel_rfl) (fun _ _ _ h => h) (Or.inl ⟨by rfl, ?_⟩) hHeld ?_
      rotate_left 1
      · (intro w hSw; obtain ⟨q1, ⟨q2, q3, q4, q5⟩, q6⟩ := hSw; go_simp; try with_reducible rfl)
      try simp only [Act.put, List.getElem_toArray, List.getElem_cons_zero, List.getElem_cons_succ, List.setIfInBounds_toArray, List.set_cons_zero, List.set_cons_succ]
      refine wpAnyL_take (i := 2) (v := ?_) rfl (by kernel_rfl) (by kernel_rfl) (by kernel_rfl) (by kernel_rfl) (fun _ _ _ h => h) (Or.inl ⟨by rfl, ?_⟩) hHeld ?_
      rotate_left 1
      · (intro w hSw; obtain ⟨q1, ⟨q2, q3, q4, q5⟩, q6⟩ := hSw; go_simp; try with_reducible rfl)
      try simp only [Act.put, List.getElem_toArray, List.getElem_cons_zero, List.getElem_cons_succ, List.setIfInBounds_toArray, List.set_cons_zero, List.set_cons_succ]
      refine wpAnyL_take (i := 3) (v := ?_) rfl (by kernel_rfl) (by kernel_rfl) (by kernel_rfl) (by kernel_rfl) (fun _ _ _ h => h) (Or.inl ⟨by rfl, ?_⟩) hHeld ?_
      rotate_left 1
      · (intro w hSw; obtain ⟨q1, ⟨q2, q3, q4, q5⟩, q6⟩ := hSw; go_simp; try with_reducible rfl)
      try simp only [Act.put, List.getElem_toArray, List.getElem_cons_zero, List.getElem_cons_succ, List.setIfInBounds_toArray, List.set_cons_zero, List.set_cons_succ]
      refine wpAnyL_take (i := 4) (v := ?_) rfl (by kernel_rfl) (by kernel_rfl) (by kernel_rfl) (by kernel_rfl) (fun _ _ _ h => h) (Or.inl ⟨by rfl, ?_⟩) hHeld ?_
      rotate_left 1
      · (intro w hSw; obtain ⟨q1, ⟨q2, q3, q4, q5⟩, q6⟩ := hSw; go_simp; try with_reducible rfl)
      try simp only [Act.put, List.getElem_toArray, List.getElem_cons_zero, List.getElem_cons_succ, List.setIfInBounds_toArray, List.set_cons_zero, List.set_cons_succ]
      refine wpAnyL_take (i := 5) (v := ?_) rfl (by kernel_rfl) (by kernel_rfl) (by kernel_rfl) (by kernel_rfl) (fun _ _ _ h => h) (Or.inl ⟨by rfl, ?_⟩) hHeld ?_
      rotate_left 1
      · (intro w hSw; obtain ⟨q1, ⟨q2, q3, q4, q5⟩, q6⟩ := hSw; go_simp; try with_reducible rfl)
      try simp only [Act.put, List.getElem_toArray, List.getElem_cons_zero, List.getElem_cons_succ, List.setIfInBounds_toArray, List.set_cons_zero, List.set_cons_succ]
      refine wpAnyL_take (i := 6) (v := ?_) rfl (by kernel_rfl) (by kernel_rfl) (by kernel_rfl) (by kernel_rfl) (fun _ _ _ h => h) (Or.inl ⟨by rfl, ?_⟩) hHeld ?_
      rotate_left 1
      · (intro w hSw; obtain ⟨q1, ⟨q2, q3, q4, q5⟩, q6⟩ := hSw; go_simp; try with_reducible rfl)
      try simp only [Act.put, List.getElem_toArray, List.getElem_cons_zero, List.getElem_cons_succ, List.setIfInBounds_toArray, List.set_cons_zero, List.set_cons_succ]
      refine wpAnyL_take (i := 7) (v := ?_) rfl (by kernel_rfl) (by kernel_rfl) (by kernel_rfl) (by kernel_rfl) (fun _ _ _ h => h) (Or.inl ⟨by rfl, ?_⟩) hHeld ?_
      rotate_left 1
      · (intro w hSw; obtain ⟨q1, ⟨q2, q3, q4, q5⟩, q6⟩ := hSw; go_simp; try with_reducible rfl)
      try simp only [Act.put, List.getElem_toArray, List.getElem_cons_zero, List.getElem_cons_succ, List.setIfInBounds_toArray, List.set_cons_zero, List.set_cons_succ]
      refine wpAnyL_take (i := 8) (v := ?_) rfl (by kernel_rfl) (by kernel_rfl) (by kernel_rfl) (by kernel_rfl) (fun _ _ _ h => h) (Or.inl ⟨by rfl, ?_⟩) hHeld ?_
      rotate_left 1
      · (intro w hSw; obtain ⟨q1, ⟨q2, q3, q4, q5⟩, q6⟩ := hSw; go_simp; try with_reducible rfl)
      try simp only [Act.put, List.getElem_toArray, List.getElem_cons_zero, List.getElem_cons_succ, List.setIfInBounds_toArray, List.set_cons_zero, List.set_cons_succ]
      refine wpAnyL_take (i := 9) (v := ?_) rfl (by kernel_rfl) (by kernel_rfl) (by kernel_rfl) (by kernel_rfl) (fun _ _ _ h => h) (Or.inl ⟨by rfl, ?_⟩) hHeld ?_
      rotate_left 1
      · (intro w hSw; obtain ⟨q1, ⟨q2, q3, q4, q5⟩, q6⟩ := hSw; go_simp; try with_reducible rfl)
      try simp only [Act.put, List.getElem_toArray, List.getElem_cons_zero, List.getElem_cons_succ, List.setIfInBounds_toArray, List.set_cons_zero, List.set_cons_succ]
      refine wpAnyL_one (i := 10) (by kernel_rfl) rfl (by kernel_rfl) (fun K hK => ?_)
      clear hHeld
      go_simp
      have HG6 : Hid (G wA (wA.alloc (.cells #[I y.e] 2)).drew) := ((G.refl wA).alloc _).drew
      have HC6 : Hid (∀ j u, ([I y.e] : List Value)[j]? = some u → (wA.alloc (.cells #[I y.e] 2)).drew.cell? ((⟨wA.heap.size, 0, none⟩ : Addr).add j) = some u) := cell_new wA [I y.e] 2
      generalize (wA.alloc (.cells #[I y.e] 2)).drew = w6 at HG6 HC6 ⊢
      refine hK.out _ _ (⟨(HC.out _ ((HKA.out.grow HG6.out).g)).1, (HC.out _ ((HKA.out.grow HG6.out).g)).2 cur y HY.out, ((HKA.out.grow HG6.out).bw).cell⟩) (fun hHeld => ?_)
      clear hK K
      try simp only [Act.put, List.getElem_toArray, List.getElem_cons_zero, List.getElem_cons_succ, List.setIfInBounds_toArray, List.set_cons_zero, List.set_cons_succ]
      refine wpAnyL_one (i := 11) (by kernel_rfl) rfl (by kernel_rfl) (fun K hK => ?_)
      clear hHeld
      obtain ⟨v7, w7, hrun, hrow7, hch7, hob7⟩ := app_I w6 W.heap.size (.slice ea es.length ec) (es).length ((es).map I) (HKA.out.grow HG6.out).e ⟨wA.heap.size, 0, none⟩ 1 1 [I y.e] rfl HC6.out (fun u hu => by simp at hu; subst hu; rfl) (by have := HDL.out; omega) (HKA.out.grow HG6.out).g.size
      refine (if_pos rfl).mpr ?_
      refine wp_of_exec (exec_append _ _ 25 rfl (.slice ea es.length ec) (.slice (some ⟨wA.heap.size, 0, none⟩) 1 1) rfl rfl 25 rfl hrun) ?_
      clear hrun
      obtain ⟨a7, c7, rfl⟩ := Rw.form hrow7
      have hrow8 : Rw W.heap.size 2 1 w7 (.slice a7 ((es).length + 1) c7) (es ++ [y.e]).length ((es ++ [y.e]).map I) := by rw [List.length_append, List.map_append]; exact hrow7
      have HKB := hide ((HKA.out.grow HG6.out).appE hch7 hrow8 hob7)
      have HG7 := hide ((HKA.out.grow HG6.out).gE hch7)
      have HW7 := hide ((HKA.out.grow HG6.out).bwE hch7)
      clear hrow7 hrow8 hch7 hob7
      refine hK.out _ _ (⟨(HC.out _ (HG7.out)).1, (HC.out _ (HG7.out)).2 cur y HY.out, (HW7.out).cell⟩) (fun hHeld => ?_)
      clear hK K
      try simp only [Act.put, List.getElem_toArray, List.getElem_cons_zero, List.getElem_cons_succ, List.setIfInBounds_toArray, List.set_cons_zero, List.set_cons_succ]
      refine wpAnyL_take (i := 12) (v := ?_) rfl (by kernel_rfl) (by kernel_rfl) (by kernel_rfl) (by kernel_rfl) (fun _ _ _ h => h) (Or.inl ⟨by rfl, ?_⟩) hHeld ?_
      rotate_left 1
      · (intro w hSw; (try dsimp only at hSw); go_simp; try with_reducible rfl)
      try simp only [Act.put, List.getElem_toArray, List.getElem_cons_zero, List.getElem_cons_succ, List.setIfInBounds_toArray, List.set_cons_zero, List.set_cons_succ]
      refine wpAnyL_last (by kernel_rfl) rfl (by kernel_rfl) (fun K hK => ?_)
      clear hHeld
      have hc7 := HW7.out.cell
      have hz7 := HW7.out.frozen
      go_simp
      refine hK.out _ _ ?_
      clear hK K
      refine NoPanic.normal ?_
      generalize w7.setCell ⟨wb, 2, none⟩ (.slice a7 ((es).length + 1) c7) = wB at HKB ⊢
      clear HG6 HC6 HG7 HW7
      clear d0 y1 y2 y3 y4 HKA
      obtain ⟨d0, dx⟩ := HC.out wB HKB.out.g
      obtain ⟨y1, y2, y3, y4⟩ := dx cur y HY.out
      clear dx
      have HREL : Hid (∃ (cur' : Nat) (dn' : List Fd) (nv ev : Value), I y.b = I cur' ∧ cur' < fs.length ∧ WS W wB wb rb x.s nv ev (dn'.map (·.n)) (dn'.map (·.e)) ∧ dn' ++ wayL fs (cur' + 1) cur' = D) := by
        have hbk := HBKY.out
        refine ⟨y.b.toNat, dn ++ [y], .slice na ns2.length nc, .slice a7 (es.length + 1) c7, congrArg I (by omega), by have := HCL.out; omega, ?_, ?_⟩
        · rw [List.map_append, List.map_append, ← HNS.out, ← HES.out]
          have := HKB.out
          have e2 := HNS2.out
          simp only [List.map_cons, List.map_nil]
          rw [← e2]
          exact this
        · rw [List.append_assoc, ← HDN.out]
          congr 1
          conv => rhs; unfold wayL
          rw [HEY.out, if_neg (by omega), wayL_fuel HBK.out cur y.b.toNat (by have := HCL.out; omega) (by omega)]
          rfl
      have HMS : Hid (y.b.toNat < cur) := by have := HBKY.out; show _ < _; omega
      go_wp2_with fail
      go_roundw
      case rel => exact HREL.out
      case measure => simp only [RowKit.intOf]; exact HMS.out
end Go.Proofs.YtcbjcienjolceabDoor
