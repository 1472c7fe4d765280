/- Paths: Least. -/
import Derived.Test.YtcbjcienjolceabDoorPl2
import Derived.Test.YtcbjcienjolceabDoorPw2
namespace Go.Proofs.YtcbjcienjolceabDoor
open Go.RowKit

/-- Where the finds come from. -/
structure Org (rs : List Nr) (tail : Bool) (from_ : Int) (fs : List Fd) (st : List Sn) : Prop where
  one : st = [] → fs = [⟨from_, 0, 0, -1⟩]
  org : ∀ j, j < fs.length → fs[j]! = ⟨from_, 0, 0, -1⟩ ∨ ∃ (i : Nat) (a : Ar), i < j ∧ ((fs[i]!).n, (fs[i]!).s) ∈ st ∧ a ∈ (netOf rs tail (fs[i]!).n).1 ∧ fs[j]! = ⟨a.2.1, (fs[i]!).s + a.2.2, a.1, i⟩
theorem Org.back {rs : List Nr} {tail : Bool} {from_ : Int} {fs : List Fd} {st : List Sn} (k : Org rs tail from_ fs st) : Back fs := fun j hj => by
  rcases k.org j hj with e | ⟨i, a, hi, -, -, e⟩
  · rw [e]; simp; omega
  · rw [e]; simp; omega
theorem Org.mono {rs : List Nr} {tail : Bool} {from_ : Int} {fs : List Fd} {st st' : List Sn} (k : Org rs tail from_ fs st) (h : ∀ p ∈ st, p ∈ st') (hne : st' ≠ []) : Org rs tail from_ fs st' :=
  ⟨fun q => absurd q hne, fun j hj => (k.org j hj).imp_right (fun ⟨i, a, h1, h2, h3⟩ => ⟨i, a, h1, h _ h2, h3⟩)⟩
theorem Org.look {rs : List Nr} {tail : Bool} {from_ : Int} {fs : List Fd} {bs : Int → Option Nat} {st : List Sn} {i : Nat} (hrel : ∀ (i : Nat) (N : Int) (r : List Ar) (fs : List Fd) (bs : Int → Option Nat) (st : List Sn), (∀ a ∈ r, a ∈ (netOf rs tail N).1) → i < fs.length → (fs[i]!).n = N → (N, (fs[i]!).s) ∈ st → st ≠ [] → Org rs tail from_ fs st → Org rs tail from_ (relaxP false (fs[i]!).s i r fs bs).2.1 st) (hi : i < fs.length) (k : Org rs tail from_ fs st) (_h0 : (lookP false rs tail i fs bs).1 = 0) : Org rs tail from_ (lookP false rs tail i fs bs).2.1 (st ++ [((fs[i]!).n, (fs[i]!).s)]) := by
  have k2 := k.mono (st' := st ++ [((fs[i]!).n, (fs[i]!).s)]) (fun p hp => by simp [hp]) (by simp)
  unfold lookP
  split
  · exact hrel i _ _ fs bs _ (fun a ha => ha) hi rfl (by simp) (by simp) k2
  · exact k2
theorem Org.relax {rs : List Nr} {tail : Bool} {from_ : Int} {st : List Sn} (i : Nat) (N : Int) : ∀ (r : List Ar) (fs : List Fd) (bs : Int → Option Nat), (∀ a ∈ r, a ∈ (netOf rs tail N).1) → i < fs.length → (fs[i]!).n = N → (N, (fs[i]!).s) ∈ st → st ≠ [] → Org rs tail from_ fs st → Org rs tail from_ (relaxP false (fs[i]!).s i r fs bs).2.1 st
  | [], fs, bs, _, _, _, _, _, k => k
  | a :: r, fs, bs, hr, hi, hN, hst, hne, k => by
    have hr' : ∀ a ∈ r, a ∈ (netOf rs tail N).1 := fun b hb => hr b (by simp [hb])
    unfold relaxP
    split
    · exact k
    · split
      · exact k
      · split
        · exact Org.relax i N r fs bs hr' hi hN hst hne k
        · have e : (fs ++ [⟨a.2.1, (fs[i]!).s + wei false a, a.1, i⟩])[i]! = fs[i]! := get_app hi
          have h := Org.relax (from_ := from_) i N r (fs ++ [⟨a.2.1, (fs[i]!).s + wei false a, a.1, i⟩]) (upd bs a.2.1 (some fs.length)) hr' (by simp; omega) (by rw [e]; exact hN) (by rw [e]; exact hst) hne ⟨fun q => absurd q hne, fun j hj => ?_⟩
          · rw [e] at h
            exact h
          · by_cases hjl : j < fs.length
            · rw [get_app hjl]
              rcases k.org j hjl with q | ⟨i', a', h1, h2, h3, h4⟩
              · exact .inl q
              · have e' : (fs ++ [⟨a.2.1, (fs[i]!).s + wei false a, a.1, i⟩])[i']! = fs[i']! := get_app (by omega)
                exact .inr ⟨i', a', h1, by rw [e']; exact h2, by rw [e']; exact h3, by rw [e']; exact h4⟩
            · have ej : j = fs.length := by simp at hj; omega
              subst ej
              refine .inr ⟨i, a, hi, by rw [e, hN]; exact hst, by rw [e, hN]; exact hr a (by simp), ?_⟩
              rw [get_last, e]
              rfl
theorem Mv.newer {Wb W w w' : World} {us : List TypeId} {mp : Nat → Prop} {F : Nat → Prop} (h : Mv Wb us mp W w) (g : Go.Proofs.YtcbjcienjolceabDoor.G Wb W) (c : Chg F w w') (hF : ∀ b, F b → W.heap.size ≤ b) : Mv Wb us mp W w' := by
  have e : ∀ b, b < W.heap.size → w'.heap[b]? = w.heap[b]? := fun b hb => c.block b (Nat.lt_of_lt_of_le hb h.size) (fun q => by have := hF b q; omega)
  exact ⟨c.os.trans h.os, c.tape.trans h.tape, c.output.trans h.output, Nat.le_trans h.size c.size, fun b hb => (e b (Nat.lt_of_lt_of_le hb g.size)).trans (h.old b hb), fun b t xs hb ht => (e b hb.lt).trans (h.blk b t xs hb ht), fun b es c' hb hm => (e b (Array.getElem?_eq_some_iff.1 hb).1).trans (h.map b es c' hb hm)⟩
/-- The result is told. -/
structure Told (w w' : World) (rb : Nat) (a b c : Value) : Prop where
  blk : Blk w' rb 57 [a, b, c]
  chg : Chg (fun q => q = rb) w w'
theorem told {w : World} {rb : Nat} {a0 b0 c0 : Value} (h : Blk w rb 57 [a0, b0, c0]) (a b c : Value) : Told w (((w.setCell ⟨rb, 0, none⟩ a).setCell ⟨rb, 1, none⟩ b).setCell ⟨rb, 2, none⟩ c) rb a b c :=
  ⟨((h.set 0 _).set 1 _).set 2 _, ((chg_setCell (F := fun q => q = rb) _ _ (.inl rfl)).trans (chg_setCell _ _ (.inl rfl))).trans (chg_setCell _ _ (.inl rfl))⟩
theorem Told.mv {Wb w w' : World} {rb : Nat} {a b c a0 b0 c0 : Value} (h : Told w w' rb a b c) (g : G Wb w) (h0 : Blk w rb 57 [a0, b0, c0]) (hlo : Wb.heap.size ≤ rb) : Mv Wb [57] (fun _ => False) w w' :=
  .of_chg g h.chg (fun q e => by rw [e]; exact hlo) (fun q e xs hb he => by subst he; rw [(hb.type h0).1]; simp) (fun q es c' hb he => by subst he; exact (h0.nomap hb).elim)
/-- What Least tells. -/
def LeastP (Wb W : World) (sh : Nat) (rv : Value) (rs : List Nr) (tail : Bool) (av : Value) (from_ to_ : Int) (bas : List Int) (R : Rs) (e : Ending) (W' : World) : Prop := ∃ av' gv' gl', Shn Wb W' sh rv rs tail av' gv' (bas ++ R.asked) gl' ∧ AskO W W' av av' ∧ (∃ mp, Mv Wb (sTs ++ shTs) mp W W') ∧
      ((R.hit = false ∧ e = .returned (.tuple #[.agg #[I 0, .slice none 0 0, .slice none 0 0], .bool false, I R.code])) ∨
       (R.hit = true ∧ R.code = 0 ∧ ∃ (fs : List Fd) (i : Nat) (x : Fd) (st : List Sn) (nv ev : Value), fs[i]? = some x ∧ x.n = to_ ∧ R.st = st ++ [(to_, x.s)] ∧ Org rs tail from_ fs st ∧ e = .returned (.tuple #[.agg #[I x.s, nv, ev], .bool true, I 0]) ∧
          Rw W.heap.size 2 1 W' nv ((wayL fs (i + 1) i).map (·.n)).reverse.length (((wayL fs (i + 1) i).map (·.n)).reverse.map I) ∧ Rw W.heap.size 2 1 W' ev ((wayL fs (i + 1) i).dropLast.map (·.e)).reverse.length (((wayL fs (i + 1) i).dropLast.map (·.e)).reverse.map I) ∧
          (∀ b, nv.ownBlock = some b → ev.ownBlock ≠ some b ∧ av'.ownBlock ≠ some b) ∧ (∀ b, ev.ownBlock = some b → av'.ownBlock ≠ some b) ∧ (wayL fs (i + 1) i).length ≤ i + 1 ∧ fs.length < 17179869184))
set_option maxRecDepth 100000 in
set_option maxHeartbeats 2000000 in
theorem least_any (Wb W : World) (sh : Nat) (rv : Value) (rs : List Nr) (tail : Bool) (av gv : Value) (from_ to_ : Int) (bas : List Int) (gl : List Value) (hbas : bas.length ≤ 4294967296) (sn : Shn Wb W sh rv rs tail av gv bas gl) (hf : R64 from_) (hrl : rs.length ≤ 1048576) (hal : ∀ id, (netOf rs tail id).1.length ≤ 1048576) (R : Rs) (hR : R = srch false rs tail (some to_) (-1) 4097 [] [(from_, 0)] []) :
    Calls Tryd.prog 21 #[(.func (.func 9) #[ptr sh] #[]), I from_, I to_] W (LeastP Wb W sh rv rs tail av from_ to_ bas R) := by
  have gR : G W (W.alloc (.cells #[I 0, .slice none 0 0, .slice none 0 0] 57)) := (G.refl W).alloc _
  have HNW := hide (new_any (W.alloc (.cells #[I 0, .slice none 0 0, .slice none 0 0] 57)) (.func 9) (.func 37) #[ptr sh] #[] #[] #[] from_ hf)
  have q0 : ∀ w : World, (binOp .eql 34 (.func (.func 9) #[ptr sh] #[]) .nilFunc).run Tryd.prog w = .ok (.bool false) w := fun w => by rfl
  have HSN := hide (sn.G gR)
  have HGS := hide sn.g
  have HR := hide hR
  have HAL := hide hal
  have HGR := hide gR
  have HRB := hide (Blk.new W [I 0, .slice none 0 0, .slice none 0 0] 57)
  clear sn hR hal gR
  go_enter Tryd.func21, Tryd.ntmps21
  go_wp2_with fail
  refine HNW.out.mono ?_
  rintro e w1 ⟨sb, B, mb, h, fv, v, rfl, hk⟩
  have HK := hide (hk.base HSN.out.g)
  have HN1 := hide (HSN.out.G hk.g)
  have HMV : Hid (∀ mp, Mv Wb (sTs ++ shTs) mp (W.alloc (.cells #[I 0, .slice none 0 0, .slice none 0 0] 57)) w1) := fun mp => .of_G HSN.out.g hk.g
  have HG1 := hide hk.g
  have HRB1 := hide (HRB.out.G hk.g)
  clear hk HNW
  have HUN := hide (until_weighed (fun fs _ st => Org rs tail from_ fs st) Wb w1 sh sb B mb h rv rs tail to_ R bas hbas av (fun fs bs l st near i _ hi _ k h0 => Org.look (fun i N r fs bs st a1 a2 a3 a4 a5 a6 => Org.relax i N r fs bs a1 a2 a3 a4 a5 a6) hi k h0) hrl HAL.out ⟨_, _, _, fv, v, [], [(from_, 0)], [], av, gv, gl, PS.init hf, HK.out, by rw [List.append_nil]; exact HN1.out, HR.out.symm, ⟨fun _ => rfl, fun j hj => by simp at hj; subst hj; exact .inl rfl⟩, Mv.refl _ _ _ _, AskO.refl _ _⟩)
  go_wp2_with fail
  refine HUN.out.mono ?_
  rintro e w2 ⟨fs, bs, l, fv2, v2, c, av2, gv2, gl2, hk2, hn2, hmv2, hao2, hres⟩
  have HM2 := hide ((Mv.of_G HGS.out HGR.out).trans ((HMV.out _).trans hmv2))
  have HAO2 := hide ((hao2.left HG1.out).left HGR.out)
  have HRB2 := hide (HRB1.out.mv hmv2 (by decide))
  have HSZ : Hid (W.heap.size ≤ w2.heap.size) := HM2.out.size
  clear hmv2 hao2 HRB1
  have HN2 := hide hn2
  have HK2 := hide hk2
  clear hn2 hk2 HUN
  have c6 := HRB2.out.cell
  have z6 := HRB2.out.frozen
  rcases hres with ⟨hhit, hcode, i, st, near, rfl, hil, hni, hbi, hst, hX, -, hsi⟩ | ⟨hhit, rfl⟩
  · obtain ⟨x, hx⟩ : ∃ x, fs[i]? = some x := ⟨_, List.getElem?_eq_getElem hil⟩
    have ex : fs[i]! = x := by simp [hx]
    rw [ex] at hni hst
    have hdl : (wayL fs (i + 1) i).length ≤ i + 1 ∧ fs.length < 17179869184 := ⟨wayL_len _ _ _, hsi.big⟩
    have HWY := hide (way_any Wb w2 sb B mb h _ _ fv2 v2 fs bs l _ c HK2.out hX.back i x hx _ rfl (by have := hsi.big; omega))
    have HX := hide hX
    have HXX := hide hx
    have HNI := hide hni
    have HST := hide hst
    have HHIT := hide hhit
    have HCODE := hide hcode
    have HDL := hide hdl
    clear hX hx hni hst hhit hcode hdl ex hbi hsi c6 z6
    go_wp2_with fail
    refine HWY.out.mono ?_
    rintro e w3 ⟨nv, ev, rfl, hrn, hre, hdis, hg3⟩
    have hb3 := HRB2.out.G hg3
    have z6 := hb3.frozen
    have c6 := hb3.cell
    obtain ⟨ns, hns⟩ : ∃ ns, ns = ((wayL fs (i + 1) i).map (·.n)).reverse := ⟨_, rfl⟩
    obtain ⟨es, hes⟩ : ∃ es, es = ((wayL fs (i + 1) i).dropLast.map (·.e)).reverse := ⟨_, rfl⟩
    rw [← hns] at hrn
    rw [← hes] at hre
    obtain ⟨na, nc, rfl⟩ := Rw.form hrn
    obtain ⟨ea, ec, rfl⟩ := Rw.form hre
    have ht := told hb3 (I x.s) (.slice na ns.length nc) (.slice ea es.length ec)
    have hm := ht.mv (HN2.out.g.trans hg3) hb3 HGS.out.size
    have c7 := ht.blk.cell
    have HPOST : Hid (∀ e, e = Ending.returned (.tuple #[.agg #[I x.s, .slice na ns.length nc, .slice ea es.length ec], .bool true, I 0]) → LeastP Wb W sh rv rs tail av from_ to_ bas R e (((w3.setCell ⟨W.heap.size, 0, none⟩ (I x.s)).setCell ⟨W.heap.size, 1, none⟩ (.slice na ns.length nc)).setCell ⟨W.heap.size, 2, none⟩ (.slice ea es.length ec))) := fun e he => by
      have hav : ∀ (u : Value) n xs, Rw w2.heap.size 2 1 w3 u n xs → ∀ b, u.ownBlock = some b → av2.ownBlock ≠ some b := fun u n xs hu b hb q => by
        have h1 := (Rw.own hu hb).1
        have h2 := (Rw.own HN2.out.ask q).2.1
        omega
      refine ⟨av2, gv2, gl2, (HN2.out.G hg3).mv hm (fun e he => by simp at he; rcases he with rfl | rfl | rfl | rfl <;> decide), (HAO2.out.right (Mv.of_G (ts := []) (mp := fun _ => False) HN2.out.g hg3) (by simp)).right hm (by decide), ⟨_, (HM2.out.newer HGS.out (hg3.chg (F := fun _ => False)) (fun b q => q.elim)).newer HGS.out ht.chg (fun b q => by rw [q]; exact Nat.le_refl _)⟩, .inr ⟨HHIT.out, HCODE.out, fs, i, x, st, .slice na ns.length nc, .slice ea es.length ec, HXX.out, HNI.out, HST.out, HX.out, he, ?_, ?_, fun b hb => ⟨hdis b hb, hav _ _ _ hrn b hb⟩, fun b hb => hav _ _ _ hre b hb, HDL.out⟩⟩
      · rw [← hns]
        exact Rw.mv (Rw.base hrn HSZ.out) hm (by decide)
      · rw [← hes]
        exact Rw.mv (Rw.base hre HSZ.out) hm (by decide)
    clear hrn hre hdis hg3 hb3 ht hm hns hes
    go_wp2_with fail
    exact bodyPost_ret (v := .tuple #[.agg #[I x.s, .slice na ns.length nc, .slice ea es.length ec], .bool true, I 0]) (by simp [results, Tryd.results21, go_sem, c7]) rfl (HPOST.out _ rfl)
  · have HHIT := hide hhit
    clear hhit
    have ht := told HRB2.out (I 0) (.slice none 0 0) (.slice none 0 0)
    have hm := ht.mv HN2.out.g HRB2.out HGS.out.size
    have c7 := ht.blk.cell
    have HT := hide ht
    have HM := hide hm
    clear ht hm
    go_wp2_with fail
    exact bodyPost_ret (v := .tuple #[.agg #[I 0, .slice none 0 0, .slice none 0 0], .bool false, I R.code]) (by simp [results, Tryd.results21, go_sem, c7]) rfl ⟨av2, gv2, gl2, HN2.out.mv HM.out (fun e he => by simp at he; rcases he with rfl | rfl | rfl | rfl <;> decide), HAO2.out.right HM.out (by decide), ⟨_, HM2.out.newer HGS.out HT.out.chg (fun b q => by rw [q]; exact Nat.le_refl _)⟩, .inl ⟨HHIT.out, rfl⟩⟩
end Go.Proofs.YtcbjcienjolceabDoor
