/- Paths: look. -/
import Derived.Test.YtemkilffagjmcaaDoorPj6
namespace Go.Proofs.YtemkilffagjmcaaDoor
open Go.RowKit

/-- What an arc counts. -/
def wei (hops : Bool) (a : Ar) : Int := if hops then 1 else a.2.2
/-- The arcs of the settled find i are followed. -/
def relaxP (hops : Bool) (s : Int) (i : Nat) : List Ar → List Fd → (Int → Option Nat) → Int × List Fd × (Int → Option Nat)
  | [], fs, bs => (0, fs, bs)
  | a :: r, fs, bs =>
    if wei hops a < 0 then (90, fs, bs)
    else if 1099511627776 - s < wei hops a then (91, fs, bs)
    else if keepB fs bs ⟨a.2.1, s + wei hops a, a.1, i⟩ then relaxP hops s i r fs bs
    else relaxP hops s i r (fs ++ [⟨a.2.1, s + wei hops a, a.1, i⟩]) (upd bs a.2.1 (some fs.length))
theorem get_app {fs : List Fd} {x : Fd} {j : Nat} (h : j < fs.length) : (fs ++ [x])[j]! = fs[j]! := by
  rw [Hp.get_of (by simp; omega), Hp.get_of h, List.getElem_append_left]
theorem get_last {fs : List Fd} {x : Fd} : (fs ++ [x])[fs.length]! = x := by simp
theorem SI.add {fs : List Fd} {bs : Int → Option Nat} {l l' : List It} {f : Fd} (k : SI fs bs l) (hr : R64 f.n) (hp : l'.Perm (((fs.length : Int), (fs.length : Int)) :: l)) (hh : Hp.HI (Hp.ah (ltF (fs ++ [f]))) l') (hb : fs.length + 1 < 17179869184) : SI (fs ++ [f]) (upd bs f.n (some fs.length)) l' := by
  refine ⟨fun n i h => ?_, fun j hj => ?_, fun j hj => ?_, fun x hx => ?_, hh, ?_, by simpa using hb, ?_, fun n hn => ?_, fun x hx => ?_⟩
  · unfold upd at h
    split at h
    · cases h; simp
    · have := k.idx n i h; simp; omega
  · simp at hj
    by_cases e : j = fs.length
    · subst e; rw [get_last]; exact ⟨_, upd_same _ _ _⟩
    · rw [get_app (by omega)]
      obtain ⟨i, hi⟩ := k.tot j (by omega)
      by_cases e2 : (fs[j]!).n = f.n
      · rw [e2]; exact ⟨_, upd_same _ _ _⟩
      · exact ⟨i, by rw [upd_other e2]; exact hi⟩
  · simp at hj
    by_cases e : j = fs.length
    · subst e; rw [get_last]; exact hr
    · rw [get_app (by omega)]; exact k.r64 j (by omega)
  · rcases List.mem_cons.1 (hp.subset hx) with rfl | q
    · simp; omega
    · have := k.dom x q; simp; omega
  · have := hp.length_eq; have := k.sz; simp at *; omega
  · rw [hp.nodup_iff, List.nodup_cons]
    exact ⟨fun q => by have := k.dom _ q; simp at this, k.nd⟩
  · rw [List.map_append]
    unfold upd at hn
    split at hn
    · rename_i e; rw [e]; simp
    · exact List.mem_append_left _ (k.keys n hn)
  · rcases List.mem_cons.1 (hp.subset hx) with rfl | q
    · rfl
    · exact k.eq x q
/-- What has come into the heap since. -/
def Came (n m : Nat) (l l' : List It) : Prop := ∀ x, x ∈ l' ↔ x ∈ l ∨ ∃ j : Nat, n ≤ j ∧ j < m ∧ x = ((j : Int), (j : Int))
theorem Came.refl (n : Nat) (l : List It) : Came n n l l := fun x => ⟨.inl, fun h => h.elim (fun q => q) (fun ⟨j, h1, h2, _⟩ => by omega)⟩
theorem Came.add {n m : Nat} {l l1 l' : List It} (h : Came n m l l1) (hn : n ≤ m) (hp : l'.Perm (((m : Int), (m : Int)) :: l1)) : Came n (m + 1) l l' := fun x => by
  rw [hp.mem_iff, List.mem_cons, h x]
  constructor
  · rintro (rfl | q | ⟨j, h1, h2, rfl⟩)
    · exact .inr ⟨m, hn, by omega, rfl⟩
    · exact .inl q
    · exact .inr ⟨j, h1, by omega, rfl⟩
  · rintro (q | ⟨j, h1, h2, rfl⟩)
    · exact .inr (.inl q)
    · by_cases e : j = m
      · subst e; exact .inl rfl
      · exact .inr (.inr ⟨j, h1, by omega, rfl⟩)
/-- What look answers, and leaves. -/
def lookP (hops : Bool) (rs : List Nr) (tail : Bool) (i : Nat) (fs : List Fd) (bs : Int → Option Nat) : Int × List Fd × (Int → Option Nat) :=
  if (netOf rs tail (fs[i]!).n).2 = 0 then relaxP hops (fs[i]!).s i (netOf rs tail (fs[i]!).n).1 fs bs else ((netOf rs tail (fs[i]!).n).2, fs, bs)
set_option maxRecDepth 100000 in
set_option maxHeartbeats 2000000 in
theorem counted_any (e t w : Int) (W : World) : Calls Tryd.prog 26 #[.agg #[I e, I t, I w]] W fun r W' => r = .returned (I (wei true (e, t, w))) ∧ G W W' := by
  go_enter Tryd.func26, Tryd.ntmps26
  go_wp2
  go_ret
  exact ⟨rfl, (G.refl W).alloc _⟩
set_option maxRecDepth 100000 in
set_option maxHeartbeats 2000000 in
theorem look_counted (Wb W : World) (sh sb B mb h : Nat) (fv v : Value) (fs : List Fd) (bs : Int → Option Nat) (l : List It) (c : Nat) (rv : Value) (rs : List Nr) (tail : Bool) (av gv : Value) (asked : List Int) (gl : List Value) (i : Nat)
    (k : SM Wb W sb B mb h (.func (.func 9) #[ptr sh] #[]) (.func (.func 26) #[] #[]) fv v fs bs l fs.length c) (si : SI fs bs l) (sn : Shn Wb W sh rv rs tail av gv asked gl) (hi : i < fs.length) (hs : 0 ≤ (fs[i]!).s ∧ (fs[i]!).s ≤ 1099511627776) (hrl : rs.length ≤ 1048576) (hal : (netOf rs tail (fs[i]!).n).1.length ≤ 1048576) (hask : asked.length ≤ 8589934592) (hbig : fs.length + 1048576 < 17179869183) :
    Calls Tryd.prog 40 #[ptr sb, I i] W fun e W' => ∃ fv' v' l' av' gv' gl', e = .returned (I (lookP true rs tail i fs bs).1) ∧ SM Wb W' sb B mb h (.func (.func 9) #[ptr sh] #[]) (.func (.func 26) #[] #[]) fv' v' (lookP true rs tail i fs bs).2.1 (lookP true rs tail i fs bs).2.2 l' (lookP true rs tail i fs bs).2.1.length c ∧ SI (lookP true rs tail i fs bs).2.1 (lookP true rs tail i fs bs).2.2 l' ∧
      Came fs.length (lookP true rs tail i fs bs).2.1.length l l' ∧ Shn Wb W' sh rv rs tail av' gv' (asked ++ [(fs[i]!).n]) gl' ∧ Mv Wb (sTs ++ shTs) (fun b => b = mb) W W' ∧ AskO W W' av av' := by
  obtain ⟨x, hx⟩ : ∃ x, fs[i]? = some x := ⟨_, List.getElem?_eq_getElem hi⟩
  have ex : fs[i]! = x := by simp [hx]
  have hr := si.r64 i hi
  obtain ⟨R, hR⟩ : ∃ R, R = lookP true rs tail i fs bs := ⟨_, rfl⟩
  rw [← hR]
  unfold lookP at hR
  rw [ex] at hs hal hr hR ⊢
  obtain ⟨g, cap, rfl, hg, x1, x2, x3, x4⟩ := fin_at k.fin hx
  have hc := k.blk.cell
  have hiI : (i : Int) < fs.length := by omega
  have HK := hide k
  have HN := hide sn
  have HSI := hide si
  clear k sn si
  go_enter Tryd.func40, Tryd.ntmps40
  go_wp2_with fail
  go_quiet (fail)
  generalize hw1 : World.drewN W _ = w1
  have HG1 : Hid (G W w1) := by rw [← hw1]; exact g_drewN _ _
  clear hw1 x1 x2 x3 x4 hc
  have HAR := hide (arcs_any Wb w1 sh rv rs tail av gv asked gl x.n (HN.out.G HG1.out) hr hrl hal hask)
  have HK1 := hide (HK.out.G HG1.out)
  have hc1 := HK1.out.blk.cell
  go_wp2_with fail
  refine HAR.out.mono ?_
  rintro e w2 ⟨lv, av2, gv2, gl2, rfl, hao, hsn2, hmv2, haso⟩
  have HK2 := hide (HK1.out.mv hmv2 (fun e he => by simp at he; rcases he with rfl | rfl | rfl | rfl | rfl <;> decide) (fun q => q))
  have HN2 := hide hsn2
  have HA2 := hide hao
  have HM2 : Hid (Mv Wb (sTs ++ shTs) (fun b => b = mb) W w2) := (Mv.of_G HK.out.g HG1.out).trans (hmv2.mono (fun e he => List.mem_append_right _ he) (fun _ q => q.elim))
  obtain ⟨la, lc, rfl⟩ : ∃ la lc, lv = .slice la (netOf rs tail x.n).1.length lc := by obtain ⟨a, c, e, _⟩ := hao.at_; exact ⟨a, c, e⟩
  have HO2 := hide (haso.left HG1.out)
  clear hao hsn2 hmv2 haso HAR HK1 hc1 HN HK
  obtain ⟨asl, has⟩ : ∃ asl, asl = (netOf rs tail x.n).1 := ⟨_, rfl⟩
  obtain ⟨code, hcd⟩ : ∃ code, code = (netOf rs tail x.n).2 := ⟨_, rfl⟩
  rw [← has, ← hcd]
  rw [← has] at HA2 hal
  rw [← has, ← hcd] at hR
  have HR := hide hR
  clear has hcd hR
  by_cases hcode : code = 0
  · subst hcode
    have HR0 : Hid (R = relaxP true x.s i asl fs bs) := by
      have := HR.out
      rw [if_pos rfl] at this
      exact this
    clear HR
    go_wp2_with fail
    go_loopw [42] (fun iv wr => ∃ (kk : Nat) (fs1 : List Fd) (bs1 : Int → Option Nat) (l1 : List It) (fv1 v1 : Value), iv = I kk ∧ kk ≤ asl.length ∧ relaxP true x.s i (asl.drop kk) fs1 bs1 = R ∧ SM Wb wr sb B mb h (.func (.func 9) #[ptr sh] #[]) (.func (.func 26) #[] #[]) fv1 v1 fs1 bs1 l1 fs1.length c ∧ SI fs1 bs1 l1 ∧ Came fs.length fs1.length l l1 ∧ fs.length ≤ fs1.length ∧ fs1.length ≤ fs.length + kk ∧ Shn Wb wr sh rv rs tail av2 gv2 (asked ++ [x.n]) gl2 ∧ ArcO wr (.slice la asl.length lc) asl ∧ Mv Wb (sTs ++ shTs) (fun b => b = mb) W wr ∧ AskO W wr av av2) (fun iv _ => asl.length - (RowKit.intOf iv).toNat)
    case atStart => exact ⟨0, fs, bs, l, _, _, rfl, Nat.zero_le _, HR0.out.symm, HK2.out, HSI.out, Came.refl _ _, Nat.le_refl _, Nat.le_refl _, HN2.out, HA2.out, HM2.out, HO2.out⟩
    case round =>
      obtain ⟨kk, fs1, bs1, l1, fv1, v1, rfl, hkk, hrel1, k1, si1, hcame, hle1, hle2, sn1, ao1, mv1, ob1⟩ := hrel
      by_cases hkl : kk < asl.length
      · have hkI : (kk : Int) < asl.length := by omega
        obtain ⟨⟨ae, at_, aw⟩, ha⟩ : ∃ a, asl[kk]? = some a := ⟨_, List.getElem?_eq_getElem hkl⟩
        have hok := ao1.ok _ (List.mem_of_getElem? ha)
        obtain ⟨-, b, rfl, y1, y2, y3, hbl⟩ := ao1.get ha
        have hdrop : asl.drop kk = (ae, at_, aw) :: asl.drop (kk + 1) := by
          rw [List.drop_eq_getElem_cons hkl]
          congr 1
          have := List.getElem?_eq_getElem hkl
          rw [ha] at this
          exact (Option.some.inj this).symm
        rw [hdrop] at hrel1
        unfold relaxP at hrel1
        have HREL := hide hrel1
        have HS5 : Hid (SM Wb (wr.alloc (.cells #[I ae, I at_, I aw] 40)) sb B mb h (.func (.func 9) #[ptr sh] #[]) (.func (.func 26) #[] #[]) fv1 v1 fs1 bs1 l1 fs1.length c) := k1.G ((G.refl _).alloc _)
        obtain ⟨ab, hab⟩ : ∃ ab, ab = wr.heap.size := ⟨_, rfl⟩
        have HX5 : Hid (Blk (wr.alloc (.cells #[I ae, I at_, I aw] 40)) ab 40 [I ae, I at_, I aw]) := by rw [hab]; exact Blk.new wr [I ae, I at_, I aw] 40
        have HG5 := hide ((G.refl wr).alloc (.cells #[I ae, I at_, I aw] 40))
        have HK1 := hide k1
        have HSI1 := hide si1
        have HCM := hide hcame
        have HN1 := hide sn1
        have HA1 := hide ao1
        have HM1 := hide mv1
        have HO1 := hide ob1
        have HLE := hide (And.intro hle1 hle2)
        have HOK := hide hok
        have HKL := hide hkl
        clear k1 si1 hcame sn1 ao1 mv1 ob1 hle1 hle2 hrel1 hok hdrop ha hkl
        go_wp2_with fail
        rw [← hab]
        generalize wr.alloc (.cells #[I ae, I at_, I aw] 40) = w5 at HS5 HX5 HG5 ⊢
        clear hab y1 y2 y3 hbl
        refine wp_region_noPanic ?_
        refine wp_region_held_drew (S := (fun V => (∀ j, V.cell? ⟨sb, j, none⟩ = ([(.func (.func 9) #[ptr sh] #[]), (.func (.func 26) #[] #[]), fv1, .map (some mb), ptr h, I c] : List Value)[j]?) ∧ (∀ j, V.cell? ⟨ab, j, none⟩ = ([I ae, I at_, I aw] : List Value)[j]?))) (by kernel_rfl) (⟨(HS5.out.G (G.drew (G.refl _))).blk.cell, (HX5.out.G (G.drew (G.refl _))).cell⟩) (fun hHeld => ?_)
        refine wpAnyH_take (i := 0) (v := ?_) rfl (by kernel_rfl) (by kernel_rfl) (by kernel_rfl) (fun _ _ _ h => h) (Or.inl ⟨by rfl, ?_⟩) hHeld ?_
        rotate_left 1
        · (intro w hSw; obtain ⟨q1, q2⟩ := hSw; go_simp; try with_reducible rfl)
        try simp only [Act.put, List.getElem_toArray, List.getElem_cons_zero, List.setIfInBounds_toArray, List.set_cons_zero, List.set_cons_succ]
        refine wpAnyH_take (i := 1) (v := ?_) rfl (by kernel_rfl) (by kernel_rfl) (by kernel_rfl) (fun _ _ _ h => h) (Or.inl ⟨by rfl, ?_⟩) hHeld ?_
        rotate_left 1
        · (intro w hSw; obtain ⟨q1, q2⟩ := hSw; go_simp; try with_reducible rfl)
        try simp only [Act.put, List.getElem_toArray, List.getElem_cons_zero, List.getElem_cons_succ, List.setIfInBounds_toArray, List.set_cons_zero, List.set_cons_succ]
        refine wpAnyH_take (i := 2) (v := ?_) rfl (by kernel_rfl) (by kernel_rfl) (by kernel_rfl) (fun _ _ _ h => h) (Or.inl ⟨by rfl, ?_⟩) hHeld ?_
        rotate_left 1
        · (intro w hSw; obtain ⟨q1, q2⟩ := hSw; go_simp; try with_reducible rfl)
        try simp only [Act.put, List.getElem_toArray, List.getElem_cons_zero, List.getElem_cons_succ, List.setIfInBounds_toArray, List.set_cons_zero, List.set_cons_succ]
        refine wpAnyH_take (i := 3) (v := ?_) rfl (by kernel_rfl) (by kernel_rfl) (by kernel_rfl) (fun _ _ _ h => h) (Or.inl ⟨by rfl, ?_⟩) hHeld ?_
        rotate_left 1
        · (intro w hSw; obtain ⟨q1, q2⟩ := hSw; go_simp; try with_reducible rfl)
        try simp only [Act.put, List.getElem_toArray, List.getElem_cons_zero, List.getElem_cons_succ, List.setIfInBounds_toArray, List.set_cons_zero, List.set_cons_succ]
        refine wpAnyH_take (i := 4) (v := ?_) rfl (by kernel_rfl) (by kernel_rfl) (by kernel_rfl) (fun _ _ _ h => h) (Or.inl ⟨by rfl, ?_⟩) hHeld ?_
        rotate_left 1
        · (intro w hSw; obtain ⟨q1, q2⟩ := hSw; go_simp; try with_reducible rfl)
        try simp only [Act.put, List.getElem_toArray, List.getElem_cons_zero, List.getElem_cons_succ, List.setIfInBounds_toArray, List.set_cons_zero, List.set_cons_succ]
        refine wpAnyH_ready (rs := [5]) (by kernel_rfl) (by simp) (AllReadyH.cons rfl (fun K hK => ?_) AllReadyH.nil)
        clear hHeld
        go_simp
        refine (counted_any ae at_ aw _).mono ?_
        rintro e w6 ⟨rfl, hg6⟩
        have HG6 := hide (G.trans (G.drew (G.refl w5)) hg6)
        clear hg6
        go_wp2_with fail
        refine hK.out _ _ (⟨(HS5.out.G HG6.out).blk.cell, (HX5.out.G HG6.out).cell⟩) (fun hHeld => ?_)
        clear hK K
        try simp only [Act.put, List.getElem_toArray, List.getElem_cons_zero, List.getElem_cons_succ, List.setIfInBounds_toArray, List.set_cons_zero, List.set_cons_succ]
        refine wpAnyH_take (i := 6) (v := ?_) rfl (by kernel_rfl) (by kernel_rfl) (by kernel_rfl) (fun _ _ _ h => h) (Or.inl ⟨by rfl, ?_⟩) hHeld ?_
        rotate_left 1
        · (intro w hSw; (try dsimp only at hSw); go_simp; try with_reducible rfl)
        try simp only [Act.put, List.getElem_toArray, List.getElem_cons_zero, List.getElem_cons_succ, List.setIfInBounds_toArray, List.set_cons_zero, List.set_cons_succ]
        refine wpAnyH_done (by kernel_rfl) ?_ _
        refine NoPanic.normal ?_
        have hc6 := (HS5.out.G HG6.out).blk.cell
        have hx6 := (HX5.out.G HG6.out).cell
        have HG6b := hide (HG5.out.trans HG6.out)
        have HN6 := hide (HN1.out.G HG6b.out)
        have HA6 := hide (HA1.out.G HG6b.out)
        have HS6 := hide (HS5.out.G HG6.out)
        have HM6 := hide (HM1.out.trans (.of_G HK1.out.g HG6b.out))
        have HO6 := hide (HO1.out.right (us := []) (mp := fun _ => False) (.of_G HK1.out.g HG6b.out) (by simp))
        obtain ⟨wt, hwt⟩ : ∃ wt, wt = wei true (ae, at_, aw) := ⟨_, rfl⟩
        have hwr : R64 wt := by rw [hwt]; unfold wei; simp; unfold R64; omega
        rw [← hwt]
        rw [← hwt] at HREL
        clear HG6 HG6b HG5 HS5 HX5 HK1 HN1 HA1 HM1 hwt
        by_cases c1 : wt < 0
        · have hr1 := HREL.out
          rw [if_pos c1] at hr1
          have HR1 := hide hr1
          clear hr1
          go_wp2_with fail
          go_ret
          rw [← HR1.out]
          first | exact ⟨_, _, l1, _, _, _, rfl, HS6.out, HSI1.out, HCM.out, HN6.out, HM6.out, HO6.out⟩ | exact ⟨rfl, _, _, l1, HS6.out, HSI1.out, HCM.out, _, ⟨⟨_, _, HN6.out⟩, HM6.out, HO6.out⟩⟩
        · have hr1 := HREL.out
          rw [if_neg c1] at hr1
          have hw2 : wrap64 (1099511627776 - x.s) = 1099511627776 - x.s := by unfold wrap64; omega
          by_cases c2 : 1099511627776 - x.s < wt
          · rw [if_pos c2] at hr1
            have c2b : wt > 1099511627776 - x.s := c2
            have HR1 := hide hr1
            clear hr1
            go_wp2_with fail
            go_ret
            rw [← HR1.out]
            first | exact ⟨_, _, l1, _, _, _, rfl, HS6.out, HSI1.out, HCM.out, HN6.out, HM6.out, HO6.out⟩ | exact ⟨rfl, _, _, l1, HS6.out, HSI1.out, HCM.out, _, ⟨⟨_, _, HN6.out⟩, HM6.out, HO6.out⟩⟩
          · rw [if_neg c2] at hr1
            have c2b : ¬ (wt > 1099511627776 - x.s) := c2
            have hw3 : wrap64 (x.s + wt) = x.s + wt := by unfold wrap64; omega
            have HAD := hide (add_any Wb w6 sb B mb h (.func (.func 9) #[ptr sh] #[]) (.func (.func 26) #[] #[]) fv1 v1 fs1 bs1 l1 c ⟨at_, x.s + wt, ae, i⟩ HS6.out HOK.out.2.1 HSI1.out.idx HSI1.out.keys HSI1.out.dom HSI1.out.sz (by have := HLE.out; omega) HSI1.out.hi)
            have HR1 := hide hr1
            clear hr1
            go_wp2_with fail
            refine HAD.out.mono ?_
            rintro e w7 ⟨rfl, hmv7, hcase⟩
            have HN7 := hide (HN6.out.mv hmv7 (fun e he => by simp at he; rcases he with rfl | rfl | rfl | rfl <;> decide))
            have HA7 := hide (HA6.out.mv hmv7 (by decide))
            have HO7 := hide (HO6.out.right hmv7 (by decide))
            have HM7 := hide (HM6.out.trans (hmv7.mono (fun e he => List.mem_append_left _ he) (fun _ q => q)))
            have HRL : Hid (∃ (k2 : Nat) (fs1 : List Fd) (bs1 : Int → Option Nat) (l1 : List It) (fv1 v1 : Value), I ((kk : Int) + 1) = I k2 ∧ k2 ≤ asl.length ∧ relaxP true x.s i (asl.drop k2) fs1 bs1 = R ∧ SM Wb w7 sb B mb h (.func (.func 9) #[ptr sh] #[]) (.func (.func 26) #[] #[]) fv1 v1 fs1 bs1 l1 fs1.length c ∧ SI fs1 bs1 l1 ∧ Came fs.length fs1.length l l1 ∧ fs.length ≤ fs1.length ∧ fs1.length ≤ fs.length + k2 ∧ Shn Wb w7 sh rv rs tail av2 gv2 (asked ++ [x.n]) gl2 ∧ ArcO w7 (.slice (some ⟨b, 0, none⟩) asl.length lc) asl ∧ Mv Wb (sTs ++ shTs) (fun b => b = mb) W w7 ∧ AskO W w7 av av2) := by
              have hr2 := HR1.out
              have hle := HLE.out
              rcases hcase with ⟨hk, k7⟩ | ⟨hk, fv', v', l', k7, hpm, hhi⟩
              · rw [if_pos hk] at hr2
                exact ⟨kk + 1, fs1, bs1, l1, _, _, by simp, HKL.out, hr2, k7, HSI1.out, HCM.out, hle.1, by omega, HN7.out, HA7.out, HM7.out, HO7.out⟩
              · rw [if_neg (by rw [hk]; simp)] at hr2
                have hlen : (fs1 ++ [(⟨at_, x.s + wt, ae, i⟩ : Fd)]).length = fs1.length + 1 := by simp
                refine ⟨kk + 1, _, _, l', fv', v', by simp, HKL.out, hr2, ?_, HSI1.out.add HOK.out.2.1 hpm hhi (by omega), ?_, by omega, by omega, HN7.out, HA7.out, HM7.out, HO7.out⟩
                · rw [hlen]; exact k7
                · rw [hlen]; exact HCM.out.add hle.1 hpm
            clear hcase hmv7 HAD HN6 HA6 HM6 HN7 HA7 HM7 HCM HSI1 HS6
            go_wp2_with fail
            go_roundw
            case rel => exact HRL.out
            case measure => simp only [RowKit.intOf]; have := HKL.out; omega
      · have hkI : ¬ ((kk : Int) < asl.length) := by omega
        have hdrop : asl.drop kk = [] := List.drop_eq_nil_of_le (by omega)
        rw [hdrop] at hrel1
        have HR1 : Hid (R = (0, fs1, bs1)) := hrel1.symm
        have HE := hide (And.intro k1 (And.intro si1 (And.intro hcame (And.intro sn1 (And.intro mv1 ob1)))))
        clear k1 si1 hcame sn1 mv1 ob1 ao1 hrel1 hdrop hle1 hle2
        go_wp2_with fail
        go_ret
        rw [HR1.out]
        first | exact ⟨_, _, l1, _, _, _, rfl, HE.out.1, HE.out.2.1, HE.out.2.2.1, HE.out.2.2.2.1, HE.out.2.2.2.2.1, HE.out.2.2.2.2.2⟩ | exact ⟨rfl, _, _, l1, HE.out.1, HE.out.2.1, HE.out.2.2.1, _, ⟨⟨_, _, HE.out.2.2.2.1⟩, HE.out.2.2.2.2.1, HE.out.2.2.2.2.2⟩⟩
  · have hcb : (code == 0) = false := beq_eq_false_iff_ne.2 hcode
    have HR1 : Hid (R = (code, fs, bs)) := by
      have := HR.out
      rw [if_neg hcode] at this
      exact this
    go_wp2_with fail
    go_ret
    rw [HR1.out]
    exact ⟨_, _, l, _, _, _, rfl, HK2.out, HSI.out, Came.refl _ _, HN2.out, HM2.out, HO2.out⟩
end Go.Proofs.YtemkilffagjmcaaDoor
