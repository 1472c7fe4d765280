/- GateOwn: keep, walked. -/
import Derived.Test.YtmclbnhbioficacGo2
namespace Go.Proofs.Ytmclbnhbioficac
open Go.RowKit
set_option maxRecDepth 100000 in
set_option maxHeartbeats 2000000 in
theorem keep_any (bv : Value) (va : Option Addr) (n vc : Nat) (es : List (SV × SV)) (l0 : List Int) (mark : Int) (W : World) (hb : SwK W bv es) (hv : SwI W (.slice va n vc) l0) (hn : n = l0.length) (hl : n ≤ 1000) (he : es.length ≤ 900000000) (hm : -1000000000000 ≤ mark ∧ mark ≤ 0) :
    Calls Try.prog 9 #[bv, (.slice va n vc), I mark] W fun e W' => KeepP bv (.slice va n vc) es n mark W e W' := by
  have hvf : ∃ o c, (Value.slice va n vc) = .slice o n c ∧ (n = 0 ∨ ∃ g, o = some ⟨g, 0, none⟩) := by
    refine ⟨va, vc, rfl, ?_⟩
    by_cases h0 : n = 0
    · exact .inl h0
    · obtain ⟨g, cap, e⟩ := hv.slice (by omega)
      injection e with e1
      exact .inr ⟨g, e1⟩
  have HVF := hide hvf
  have HB := hide hb
  have HV := hide hv
  have HN := hide hn
  have HL := hide hl
  have HE := hide he
  have HMK : Hid (wrap64 (mark + 1) = mark + 1) := by show _ = _; unfold wrap64; omega
  have HVK : Hid (∀ k, (Value.slice va n vc).ownBlock = some k → bv.ownBlock ≠ some k) := fun k e q => by
    obtain ⟨xs, hx⟩ := own_blk hv e
    exact hb.ne hx (by decide) q
  clear hvf hb hv hn hl he hm
  go_enter Try.func9, Try.ntmps9
  go_wp2_with fail
  go_loopw [7] (fun iv wr => ∃ i : Nat, iv = I i ∧ i ≤ n ∧ SwI wr (.slice va n vc) (rep i mark ++ l0.drop i) ∧ Chg (fun k => (Value.slice va n vc).ownBlock = some k) W wr) (fun iv _ => n - (RowKit.intOf iv).toNat)
  case atStart => exact ⟨0, rfl, Nat.zero_le _, by simpa using HV.out, Chg.refl _ _⟩
  case round =>
    obtain ⟨i, rfl, hik, hs, hch⟩ := hrel
    by_cases hil : i < n
    · obtain ⟨g, cap, e⟩ := hs.slice (by simp; have := HN.out; omega)
      injection e with e1 e2 e3
      subst e1 e3
      obtain ⟨-, rest, hbb, -⟩ := hs.open
      have hgz := hbb.frozen
      have hln : (rep i mark ++ l0.drop i).length = n := by simp; have := HN.out; omega
      obtain ⟨y, hy⟩ : ∃ y, (rep i mark ++ l0.drop i)[i]? = some y := ⟨_, List.getElem?_eq_getElem (by omega)⟩
      have x1 : wr.cell? ⟨g, i, none⟩ = some (I y) := by have := hs.at hy 0 (by decide); simpa using this
      have i1 : (i : Int) < n := Int.ofNat_lt.2 hil
      have HW : Hid (wrap64 ((i : Int) + 1) = (i : Int) + 1) := by show _ = _; have := HL.out; unfold wrap64; omega
      have hset : (rep i mark ++ l0.drop i).set i mark = rep (i + 1) mark ++ l0.drop (i + 1) := by
        have h1 : i < l0.length := by have := HN.out; omega
        rw [List.set_append_right _ _ (by simp), List.length_replicate, Nat.sub_self, ← List.getElem_cons_drop h1, List.set_cons_zero]
        show rep i mark ++ mark :: _ = _
        rw [show rep (i + 1) mark = rep i mark ++ [mark] from List.replicate_succ', List.append_assoc]
        rfl
      have HR : Hid (SwI (wr.setCell ⟨g, i, none⟩ (I mark)) (.slice (some ⟨g, 0, none⟩) n vc) (rep (i + 1) mark ++ l0.drop (i + 1)) ∧ Chg (fun k => (Value.slice (some ⟨g, 0, none⟩) n vc).ownBlock = some k) W (wr.setCell ⟨g, i, none⟩ (I mark))) := ⟨by rw [← hset]; exact hs.put i (by omega) mark, hch.trans (chg_setCell _ _ (.inl rfl))⟩
      have HIL := hide hil
      clear hik hil hs hch hbb hln hy hset e2
      go_wp2_with fail
      rw [HW.out]
      go_roundw
      case rel => exact ⟨i + 1, rfl, HIL.out, HR.out.1, HR.out.2⟩
      case measure => simp only [RowKit.intOf]; have := HIL.out; omega
    · have i1 : ¬ ((i : Int) < n) := by omega
      have e1 : i = n := by omega
      have hd : rep i mark ++ l0.drop i = rep n mark := by rw [e1, List.drop_of_length_le (by have := HN.out; omega), List.append_nil]
      rw [hd] at hs
      have H1 := hide (And.intro hs hch)
      clear hik hil hs hch e1 hd
      obtain ⟨w1, hw1⟩ : ∃ w1, w1 = wr := ⟨_, rfl⟩
      rw [← hw1] at H1 ⊢
      clear hw1
      go_wp2_with fail
      go_loopw [9, 8] (fun iv ov wr => ∃ (i : Nat) (oa : Option Addr) (oc : Nat), iv = I i ∧ ov = .slice oa i oc ∧ i ≤ n ∧ SwI wr (.slice oa i oc) (rep i mark) ∧ G w1 wr ∧ Fresh w1 (.slice oa i oc)) (fun iv _ _ => n - (RowKit.intOf iv).toNat)
      case atStart => exact ⟨0, none, 0, rfl, rfl, Nat.zero_le _, Sw.nil _ _ _, G.refl _, fun k e => by simp [Value.ownBlock] at e⟩
      case round =>
        obtain ⟨i, oa, oc, rfl, rfl, hik, hs, hg, hfr⟩ := hrel
        by_cases hil : i < n
        · have i2 : (i : Int) < n := Int.ofNat_lt.2 hil
          have HW : Hid (wrap64 ((i : Int) + 1) = (i : Int) + 1) := by show _ = _; have := HL.out; unfold wrap64; omega
          obtain ⟨v7, w7, hrun, hs7, q3⟩ := app_int hs (by simp; have := HL.out; omega) mark
          obtain ⟨hch, hob⟩ := Chg.app q3
          obtain ⟨a7, c7, e7⟩ := hs7.form
          have hl7 : (rep i mark ++ [mark]).length = i + 1 := by simp
          rw [hl7] at e7
          subst e7
          have hA := hg.alloc (.cells #[I mark] 3)
          have hls : rep i mark ++ [mark] = rep (i + 1) mark := (List.replicate_succ' (n := i) (a := mark)).symm
          rw [hls] at hs7
          have HR : Hid (SwI w7 (.slice a7 (i + 1) c7) (rep (i + 1) mark) ∧ G w1 w7 ∧ Fresh w1 (.slice a7 (i + 1) c7)) := ⟨hs7, ⟨hch.os.trans hA.os, hch.tape.trans hA.tape, hch.output.trans hA.output, Nat.le_trans hA.size hch.size, fun k hk => (hch.block k (Nat.lt_of_lt_of_le hk hA.size) (fun e => Nat.not_le.2 hk (hfr k e))).trans (hA.block k hk)⟩, fun k e => (hob k e).elim (hfr k) (fun q => Nat.le_trans hA.size q)⟩
          have HRUN := hide hrun
          have HIL := hide hil
          clear hik hil hs hg hfr hrun hs7 hch hob hl7 hA hls q3
          go_wp2_with (first | (at_builtin; refine wpList_append_run rfl _ _ 33 rfl (.slice oa i oc) (.slice (some ⟨wr.heap.size, 0, none⟩) 1 1) rfl rfl HRUN.out ?_) | fail)
          rw [HW.out]
          go_roundw
          case rel => exact ⟨i + 1, a7, c7, rfl, rfl, HIL.out, HR.out.1, HR.out.2.1, HR.out.2.2⟩
          case measure => simp only [RowKit.intOf]; have := HIL.out; omega
        · have i2 : ¬ ((i : Int) < n) := by omega
          have e1 : i = n := by omega
          subst e1
          obtain ⟨w2, hw2⟩ : ∃ w2, w2 = wr := ⟨_, rfl⟩
          rw [← hw2] at hs hg ⊢
          clear hw2
          have hb2 : SwK w2 bv es := (HB.out.chg H1.out.2 (fun k e q => HVK.out k q e)).G hg
          obtain ⟨bv1, w3, hr3, hb3, hc3, ho3⟩ := app_kept hb2 (by have := HE.out; omega) ((va, i, vc), (oa, i, oc))
          have hA3 := (G.refl w2).alloc (.cells #[sv (va, i, vc), sv (oa, i, oc)] 43)
          have hv3 : SwI w3 (.slice va i vc) (rep i mark) := ((H1.out.1.G hg).G hA3).chg hc3 (fun k e q => HVK.out k e q)
          have hw3 : SwI w3 (.slice oa i oc) (rep i mark) := (hs.G hA3).chg hc3 (fun k e q => by
            obtain ⟨xs, hx⟩ := own_blk (hb2.G hA3) q
            exact (hs.G hA3).ne hx (by decide) e)
          obtain ⟨v4, w4, hr4, hs4, hg4, hf4⟩ := app_copy hw3 (by simp) (by simp; exact HL.out)
          obtain ⟨a4, c4, e4⟩ := hs4.form
          rw [List.length_replicate] at e4
          subst e4
          have HKF : Hid (Kf w1 w3 w3 (.slice va i vc) (.slice oa i oc) i) := ⟨HVF.out, fun k e => hv3.lt e, fun k e => ⟨hw3.lt e, fun q => Nat.not_le.2 (H1.out.1.lt q) (hfr k e)⟩, Nat.le_refl _⟩
          have HKW : Hid (Kw w1 w3 w3 w4 (.slice va i vc) (.slice oa i oc) bv1 (.slice va i vc) (.slice a4 i c4) (es ++ [((va, i, vc), (oa, i, oc))]) i 0 mark) := ⟨by simpa using hv3.G hg4, by simpa using hs4, RowI.of (hv3.G hg4), RowI.of (hw3.G hg4), hb3.G hg4, hg4.chg, fun k e => .inl e, hf4, fun k e q => Nat.not_le.2 (hv3.lt e) (hf4 k q)⟩
          have HX4 : Hid (∀ k, (Value.slice a4 i c4).ownBlock = some k → k < w3.heap.size → False) := fun k e hk => Nat.not_le.2 hk (hf4 k e)
          have HC03 : Hid (Chg (fun k => (Value.slice va i vc).ownBlock = some k ∨ bv.ownBlock = some k) W w3) := (((H1.out.2.mono (fun k e => .inl e)).trans hg.chg).trans hA3.chg).trans (hc3.mono (fun k e => .inr e))
          have HO3 : Hid (∀ k, bv1.ownBlock = some k → bv.ownBlock = some k ∨ W.heap.size ≤ k) := fun k e => (ho3 k e).imp (fun q => q) (fun q => Nat.le_trans H1.out.2.size (Nat.le_trans hg.size (Nat.le_trans hA3.size q)))
          have HFW : Hid (∀ k, (Value.slice oa i oc).ownBlock = some k → W.heap.size ≤ k) := fun k e => Nat.le_trans H1.out.2.size (hfr k e)
          have HNV : Hid (∀ k, (Value.slice va i vc).ownBlock = some k → ¬ bv1.ownBlock = some k) := fun k e q => by
            obtain ⟨xs, hx⟩ := own_blk hv3 e
            exact hb3.ne hx (by decide) q
          have HNW : Hid (∀ k, (Value.slice oa i oc).ownBlock = some k → ¬ bv1.ownBlock = some k) := fun k e q => by
            obtain ⟨xs, hx⟩ := own_blk hw3 e
            exact hb3.ne hx (by decide) q
          have HR3 := hide hr3
          have HR4 := hide hr4
          have HE3 := hide hb3
          clear hik hil hs hg hfr hb2 hr3 hb3 hc3 ho3 hA3 hv3 hw3 hr4 hs4 hg4 hf4 H1 HB HV
          simp only [sv] at HR3
          go_wp2_with (first | (at_builtin; refine wpList_append_run rfl _ _ 30 rfl bv (.slice (some ⟨w2.heap.size, 0, none⟩) 1 1) rfl rfl HR3.out ?_) | (at_builtin; refine wpList_append_run rfl _ _ 33 rfl (.slice none 0 0) (.slice oa i oc) rfl rfl HR4.out ?_) | fail)
          go_loopw [12, 10, 11] (fun jv gv vv wr => ∃ (j : Nat) (ga : Option Addr) (gc : Nat) (xa : Option Addr) (xc : Nat), jv = I j ∧ gv = .slice ga (i + j) gc ∧ vv = .slice xa (i + j) xc ∧ j ≤ 64 ∧ Kw w1 w3 w3 wr (.slice va i vc) (.slice oa i oc) bv1 (.slice ga (i + j) gc) (.slice xa (i + j) xc) (es ++ [((va, i, vc), (oa, i, oc))]) i j mark ∧ (∀ k, (Value.slice xa (i + j) xc).ownBlock = some k → k < w3.heap.size → False)) (fun jv _ _ _ => 64 - (RowKit.intOf jv).toNat)
          case atStart => exact ⟨0, va, vc, a4, c4, rfl, rfl, rfl, Nat.zero_le _, HKW.out, HX4.out⟩
          case round =>
            obtain ⟨j, ga, gc, xa, xc, rfl, rfl, rfl, hjl, hkw, hx4⟩ := hrel
            by_cases hj : j < 64
            · have j1 : (j : Int) < 64 := by omega
              have HW : Hid (wrap64 ((j : Int) + 1) = (j : Int) + 1) := by show _ = _; unfold wrap64; omega
              obtain ⟨g5, w5, hr5, s1, s2, s3, s4, s5, s6, s7, s8⟩ := Kw.one HKF.out hkw (by have := HL.out; omega)
              obtain ⟨a5, c5, e5⟩ := s1.form
              have hl5 : (rep i mark ++ rep (j + 1) (mark + 1)).length = i + (j + 1) := by simp
              rw [hl5] at e5
              subst e5
              obtain ⟨x6, w6, hr6, hk6, hx6⟩ := Kw.two HKF.out s1 s2 s3 s4 s5 s6 s7 s8 hkw.xo (by have := HL.out; omega) hx4
              obtain ⟨a6, c6, e6⟩ := hk6.x.form
              rw [hl5] at e6
              subst e6
              have HR5 := hide hr5
              have HR6 := hide hr6
              have HK6 := hide hk6
              have HX6 := hide hx6
              have HJ := hide hj
              clear hjl hj hkw hx4 hr5 s1 s2 s3 s4 s5 s6 s7 s8 hl5 hr6 hk6 hx6
              have hmk := HMK.out
              go_wp2_with (first | (at_builtin; refine wpList_append_run rfl _ _ 33 rfl (.slice ga (i + j) gc) (.slice (some ⟨wr.heap.size, 0, none⟩) 1 1) rfl rfl HR5.out ?_) | (at_builtin; refine wpList_append_run rfl _ _ 33 rfl (.slice xa (i + j) xc) (.slice (some ⟨w5.heap.size, 0, none⟩) 1 1) rfl rfl HR6.out ?_) | fail)
              exact ⟨⟨j + 1, a5, c5, a6, c6, rfl, rfl, rfl, HJ.out, HK6.out, HX6.out⟩, by simp only [RowKit.intOf]; have := HJ.out; omega⟩
            · have j1 : ¬ ((j : Int) < 64) := by omega
              have e1 : j = 64 := by omega
              have HE1 := hide e1
              obtain ⟨bv2, w7, hr7, hb7, hc7, ho7⟩ := app_kept hkw.b (by rw [List.length_append]; have := HE.out; simp; omega) ((ga, i + j, gc), (xa, i + j, xc))
              have hA7 := (G.refl wr).alloc (.cells #[sv (ga, i + j, gc), sv (xa, i + j, xc)] 43)
              have hk7 := hkw.G hA7
              have hlt7 : ∀ k, k < (wr.alloc (.cells #[sv (ga, i + j, gc), sv (xa, i + j, xc)] 43)).heap.size → k < w7.heap.size := fun k h => Nat.lt_of_lt_of_le h hc7.size
              have hne : ∀ (u : Value) (l : List Int), SwI (wr.alloc (.cells #[sv (ga, i + j, gc), sv (xa, i + j, xc)] 43)) u l → ∀ k, u.ownBlock = some k → ¬ bv1.ownBlock = some k := fun u l hu k e q => by
                obtain ⟨xs, hx⟩ := own_blk hu e
                exact hk7.b.ne hx (by decide) q
              have hsz : w3.heap.size ≤ (wr.alloc (.cells #[sv (ga, i + j, gc), sv (xa, i + j, xc)] 43)).heap.size := hk7.c.size
              have hW3 : W.heap.size ≤ w3.heap.size := HC03.out.size
              have HFIN : Hid (KeepP bv (.slice va i vc) es i mark W (.returned bv2) w7) := by
                subst e1
                have hno : ∀ k, k < (wr.alloc (.cells #[sv (ga, i + 64, gc), sv (xa, i + 64, xc)] 43)).heap.size → ¬ bv1.ownBlock = some k → bv2.ownBlock ≠ some k := fun k hk hn q => (ho7 k q).elim hn (fun r => Nat.not_le.2 hk r)
                refine ⟨bv2, (va, i, vc), (oa, i, oc), (ga, i + 64, gc), (xa, i + 64, xc), rfl, hb7, hk7.l.chg hc7 (fun k e q => HNV.out k e q), hk7.w.chg hc7 (fun k e q => HNW.out k e q), RowI.of (hk7.g.chg hc7 (hne _ _ hk7.g)), RowI.of (hk7.x.chg hc7 (hne _ _ hk7.x)), ((HC03.out.trans (hk7.c.mono (fun k e => .inl e))).more hc7 (fun k hk e => (HO3.out k e).elim .inr (fun q => absurd q (Nat.not_le.2 hk)))), ?_, fun k e => ?_⟩
                · intro s hs k e
                  simp only [List.mem_cons, List.not_mem_nil, or_false] at hs
                  rcases hs with rfl | rfl | rfl | rfl
                  · exact ⟨.inl e, hlt7 k (Nat.lt_of_lt_of_le (HKF.out.v1 k e) hsz), hno k (Nat.lt_of_lt_of_le (HKF.out.v1 k e) hsz) (HNV.out k e)⟩
                  · exact ⟨.inr (HFW.out k e), hlt7 k (Nat.lt_of_lt_of_le (HKF.out.w1 k e).1 hsz), hno k (Nat.lt_of_lt_of_le (HKF.out.w1 k e).1 hsz) (HNW.out k e)⟩
                  · exact ⟨(hk7.go k e).imp (fun q => q) (fun q => Nat.le_trans hW3 q), hlt7 k (hk7.g.lt e), hno k (hk7.g.lt e) (hne _ _ hk7.g k e)⟩
                  · exact ⟨.inr (Nat.le_trans hW3 (hk7.xo k e)), hlt7 k (hk7.x.lt e), hno k (hk7.x.lt e) (hne _ _ hk7.x k e)⟩
                · rcases ho7 k e with r | r
                  · exact HO3.out k r
                  · exact .inr (Nat.le_trans hW3 (Nat.le_trans hsz r))
              have HR7 := hide hr7
              clear hjl hj hkw hx4 e1 hr7 hb7 hc7 ho7 hA7 hk7 hlt7 hne hsz hW3 HE1
              simp only [sv] at HR7
              go_wp2_with (first | (at_builtin; refine wpList_append_run rfl _ _ 30 rfl bv1 (.slice (some ⟨wr.heap.size, 0, none⟩) 1 1) rfl rfl HR7.out ?_) | fail)
              go_ret
              exact HFIN.out
end Go.Proofs.Ytmclbnhbioficac
