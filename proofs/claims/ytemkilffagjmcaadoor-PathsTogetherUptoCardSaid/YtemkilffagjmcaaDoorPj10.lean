/- Paths: until. -/
import Derived.Test.YtemkilffagjmcaaDoorPj9
namespace Go.Proofs.YtemkilffagjmcaaDoor
open Go.RowKit

section
variable {hops : Bool} {rs : List Nr} {tail : Bool} {aim : Option Int} {most : Int} {f : Nat} {st near : List Sn} {asked : List Int}
theorem srch_none : srch hops rs tail aim most (f + 1) st [] asked = ⟨st, asked, 0, false⟩ := by unfold srch; rw [if_pos rfl]
theorem srch_full (h : near ≠ []) (h4 : st.length = 4096) : srch hops rs tail aim most (f + 1) st near asked = ⟨st, asked, 92, false⟩ := by unfold srch; rw [if_neg h, if_pos h4]
theorem srch_hit (h : near ≠ []) (h4 : st.length ≠ 4096) (ha : aim = some (near[nextI near]!).1) : srch hops rs tail aim most (f + 1) st near asked = ⟨st ++ [near[nextI near]!], asked, 0, true⟩ := by
  unfold srch; rw [if_neg h, if_neg h4]; simp only; rw [if_pos ha]
theorem srch_err (h : near ≠ []) (h4 : st.length ≠ 4096) (ha : aim ≠ some (near[nextI near]!).1) (hm : most < 0 ∨ (near[nextI near]!).2 < most) (hc : (netOf rs tail (near[nextI near]!).1).2 ≠ 0) : srch hops rs tail aim most (f + 1) st near asked = ⟨st ++ [near[nextI near]!], asked ++ [(near[nextI near]!).1], (netOf rs tail (near[nextI near]!).1).2, false⟩ := by
  unfold srch; rw [if_neg h, if_neg h4]; simp only; rw [if_neg ha, if_pos hm, if_pos hc]
theorem srch_far (h : near ≠ []) (h4 : st.length ≠ 4096) (ha : aim ≠ some (near[nextI near]!).1) (hm : most < 0 ∨ (near[nextI near]!).2 < most) (hc : (netOf rs tail (near[nextI near]!).1).2 = 0) (hr : (relaxR hops (near[nextI near]!).2 (st ++ [near[nextI near]!]) (netOf rs tail (near[nextI near]!).1).1 (near.eraseIdx (nextI near))).1 ≠ 0) :
    srch hops rs tail aim most (f + 1) st near asked = ⟨st ++ [near[nextI near]!], asked ++ [(near[nextI near]!).1], (relaxR hops (near[nextI near]!).2 (st ++ [near[nextI near]!]) (netOf rs tail (near[nextI near]!).1).1 (near.eraseIdx (nextI near))).1, false⟩ := by
  unfold srch; rw [if_neg h, if_neg h4]; simp only; rw [if_neg ha, if_pos hm, if_neg (by simpa using hc), if_pos hr]
theorem srch_go (h : near ≠ []) (h4 : st.length ≠ 4096) (ha : aim ≠ some (near[nextI near]!).1) (hm : most < 0 ∨ (near[nextI near]!).2 < most) (hc : (netOf rs tail (near[nextI near]!).1).2 = 0) (hr : (relaxR hops (near[nextI near]!).2 (st ++ [near[nextI near]!]) (netOf rs tail (near[nextI near]!).1).1 (near.eraseIdx (nextI near))).1 = 0) :
    srch hops rs tail aim most (f + 1) st near asked = srch hops rs tail aim most f (st ++ [near[nextI near]!]) (relaxR hops (near[nextI near]!).2 (st ++ [near[nextI near]!]) (netOf rs tail (near[nextI near]!).1).1 (near.eraseIdx (nextI near))).2 (asked ++ [(near[nextI near]!).1]) := by
  conv => lhs; unfold srch
  rw [if_neg h, if_neg h4]; simp only; rw [if_neg ha, if_pos hm, if_neg (by simpa using hc), if_neg (by simpa using hr)]
theorem srch_on (h : near ≠ []) (h4 : st.length ≠ 4096) (ha : aim ≠ some (near[nextI near]!).1) (hm : ¬ (most < 0 ∨ (near[nextI near]!).2 < most)) :
    srch hops rs tail aim most (f + 1) st near asked = srch hops rs tail aim most f (st ++ [near[nextI near]!]) (near.eraseIdx (nextI near)) asked := by
  conv => lhs; unfold srch
  rw [if_neg h, if_neg h4]; simp only; rw [if_neg ha, if_neg hm]
end
/-- How many are settled, by the memory. -/
def cnt (sb : Nat) (w : World) : Nat := match w.cell? ⟨sb, 5, none⟩ with | some (.int _ n) => n.toNat | _ => 0
theorem cnt_eq {Wb W : World} {sb B mb h : Nat} {fa fw fv v : Value} {fs : List Fd} {bs : Int → Option Nat} {l : List It} {t : Int} {c : Nat} (k : SM Wb W sb B mb h fa fw fv v fs bs l t c) : cnt sb W = c := by
  have := k.blk.cell 5
  simp [cnt, this]
theorem relaxP_len (hops : Bool) (s : Int) (i : Nat) : ∀ (r : List Ar) (fs : List Fd) (bs : Int → Option Nat), (relaxP hops s i r fs bs).2.1.length ≤ fs.length + r.length
  | [], fs, bs => Nat.le_refl _
  | a :: r, fs, bs => by
    unfold relaxP
    split
    · simp
    · split
      · simp
      · split
        · have := relaxP_len hops s i r fs bs
          simp; omega
        · have := relaxP_len hops s i r (fs ++ [⟨a.2.1, s + wei hops a, a.1, i⟩]) (upd bs a.2.1 (some fs.length))
          simp at this ⊢; omega
/-- Between two settlings. -/
structure PS (st near : List Sn) (fs : List Fd) (bs : Int → Option Nat) (l : List It) (asked : List Int) : Prop where
  si : SI fs bs l
  pr : PR fs bs l st near
  c4 : st.length ≤ 4096
  fl : fs.length ≤ 1 + st.length * 1048576
  al : asked.length ≤ st.length
theorem SI.less {fs : List Fd} {bs : Int → Option Nat} {l l' : List It} (k : SI fs bs l) (hs : ∀ x ∈ l', x ∈ l) (hh : Hp.HI (Hp.ah (ltF fs)) l') (hn : l'.Nodup) (hl : l'.length ≤ l.length) : SI fs bs l' :=
  ⟨k.idx, k.tot, k.r64, fun x hx => k.dom x (hs x hx), hh, Nat.le_trans hl k.sz, k.big, hn, k.keys, fun x hx => k.eq x (hs x hx)⟩
/-- The one that is settled. -/
theorem PS.one {st near : List Sn} {fs : List Fd} {bs : Int → Option Nat} {l dead r : List It} {asked : List Int} {x : It} (k : PS st near fs bs l asked) (hp : l.Perm (dead ++ x :: r)) (hdead : ∀ y ∈ dead, Stale fs bs y) (hx : ¬ Stale fs bs x) (hr : ∀ y ∈ r, Hp.ah (ltF fs) y x = false) (hh : Hp.HI (Hp.ah (ltF fs)) r) :
    ∃ i : Nat, x.1 = i ∧ i < fs.length ∧ bs (fs[i]!).n = some i ∧ near ≠ [] ∧ near[nextI near]! = ((fs[i]!).n, (fs[i]!).s) ∧ PR fs bs r (st ++ [((fs[i]!).n, (fs[i]!).s)]) (near.eraseIdx (nextI near)) ∧ SI fs bs r ∧ (∀ p ∈ st ++ [((fs[i]!).n, (fs[i]!).s)], p.2 ≤ (fs[i]!).s) ∧ (∀ p ∈ st, p.1 ≠ (fs[i]!).n) := by
  have hxl : x ∈ l := hp.symm.subset (by simp)
  obtain ⟨h1, h2, h3, h4⟩ := k.pr.settle k.si.nd hp hdead hx hr
  have hd := k.si.dom x hxl
  have hnd := (List.nodup_append.1 (hp.nodup_iff.1 k.si.nd)).2.1
  have hlen := hp.length_eq
  refine ⟨x.1.toNat, by omega, by omega, ?_, h1, h2, h3, k.si.less (fun y hy => hp.symm.subset (by simp [hy])) hh (List.nodup_cons.1 hnd).2 (by simp at hlen; omega), fun p hp' => ?_, fun p hp' e => ?_⟩
  · unfold Stale at hx
    exact Decidable.not_not.1 hx
  · rcases List.mem_append.1 hp' with q | q
    · exact h4 p q
    · obtain rfl := List.mem_singleton.1 q
      exact Int.le_refl _
  · obtain ⟨i', h5, h6, -⟩ := k.pr.sd p hp'
    unfold Stale at hx
    rw [e, Decidable.not_not.1 hx] at h5
    cases h5
    have e1 := k.si.eq x hxl
    have e2 : ((x.1.toNat : Int), (x.1.toNat : Int)) = x := by
      rw [Int.toNat_of_nonneg hd.1]
      exact Prod.ext rfl e1
    rw [e2] at h6
    exact h6 hxl
set_option maxRecDepth 100000 in
set_option maxHeartbeats 2000000 in
theorem until_counted (X : List Fd → (Int → Option Nat) → List Sn → Prop) (Wb W : World) (sh sb B mb h : Nat) (rv : Value) (rs : List Nr) (tail : Bool) (to_ : Int) (R : Rs) (bas : List Int) (hbas : bas.length ≤ 4294967296) (av0 : Value)
    (hX : ∀ (fs : List Fd) (bs : Int → Option Nat) (l : List It) (st near : List Sn) (i : Nat), PR fs bs l (st ++ [((fs[i]!).n, (fs[i]!).s)]) near → i < fs.length → bs (fs[i]!).n = some i → (∀ p ∈ st, p.2 ≤ (fs[i]!).s ∧ p.1 ≠ (fs[i]!).n) → X fs bs st → (lookP true rs tail i fs bs).1 = 0 → X (lookP true rs tail i fs bs).2.1 (lookP true rs tail i fs bs).2.2 (st ++ [((fs[i]!).n, (fs[i]!).s)]))
    (hrl : rs.length ≤ 1048576) (hal : ∀ id, (netOf rs tail id).1.length ≤ 1048576) (h0 : ∃ (fs : List Fd) (bs : Int → Option Nat) (l : List It) (fv v : Value) (st near : List Sn) (asked : List Int) (av gv : Value) (gl : List Value), PS st near fs bs l asked ∧ SM Wb W sb B mb h (.func (.func 9) #[ptr sh] #[]) (.func (.func 26) #[] #[]) fv v fs bs l fs.length st.length ∧ Shn Wb W sh rv rs tail av gv (bas ++ asked) gl ∧ srch true rs tail (some to_) (-1) (4097 - st.length) st near asked = R ∧ X fs bs st ∧ Mv Wb (sTs ++ shTs) (fun b => b = mb) W W ∧ AskO W W av0 av) :
    Calls Tryd.prog 27 #[ptr sb, I to_] W fun e W' => ∃ (fs : List Fd) (bs : Int → Option Nat) (l : List It) (fv v : Value) (c : Nat) (av gv : Value) (gl : List Value), SM Wb W' sb B mb h (.func (.func 9) #[ptr sh] #[]) (.func (.func 26) #[] #[]) fv v fs bs l fs.length c ∧ Shn Wb W' sh rv rs tail av gv (bas ++ R.asked) gl ∧ Mv Wb (sTs ++ shTs) (fun b => b = mb) W W' ∧ AskO W W' av0 av ∧ ((R.hit = true ∧ R.code = 0 ∧ ∃ (i : Nat) (st near : List Sn), e = .returned (.tuple #[I i, .bool true, I 0]) ∧ i < fs.length ∧ (fs[i]!).n = to_ ∧ bs to_ = some i ∧ R.st = st ++ [(to_, (fs[i]!).s)] ∧ X fs bs st ∧ PR fs bs l R.st near ∧ SI fs bs l ∧ ∀ p ∈ st, p.1 ≠ to_) ∨ (R.hit = false ∧ e = .returned (.tuple #[I 0, .bool false, I R.code]))) := by
  have H0 := hide h0
  have HX := hide hX
  have HAL := hide hal
  clear h0 hX hal
  go_enter Tryd.func27, Tryd.ntmps27
  go_wp2_with fail
  go_loopw [] (fun wr => ∃ (fs : List Fd) (bs : Int → Option Nat) (l : List It) (fv v : Value) (st near : List Sn) (asked : List Int) (av gv : Value) (gl : List Value), PS st near fs bs l asked ∧ SM Wb wr sb B mb h (.func (.func 9) #[ptr sh] #[]) (.func (.func 26) #[] #[]) fv v fs bs l fs.length st.length ∧ Shn Wb wr sh rv rs tail av gv (bas ++ asked) gl ∧ srch true rs tail (some to_) (-1) (4097 - st.length) st near asked = R ∧ X fs bs st ∧ Mv Wb (sTs ++ shTs) (fun b => b = mb) W wr ∧ AskO W wr av0 av) (fun wr => 4097 - cnt sb wr)
  case atStart => exact H0.out
  case round =>
    obtain ⟨fs, bs, l, fv, v, st, near, asked, av, gv, gl, ps, k, sn, hR, hx, mv, hao⟩ := hrel
    have HSE := hide (settle_any Wb wr sb B mb h (.func (.func 9) #[ptr sh] #[]) (.func (.func 26) #[] #[]) fv v fs bs l fs.length st.length k ps.si ps.c4)
    obtain ⟨f, hf⟩ : ∃ f, 4097 - st.length = f + 1 := ⟨4096 - st.length, by have := ps.c4; omega⟩
    rw [hf] at hR
    have HR := hide hR
    have HF := hide hf
    have HPS := hide ps
    have HK := hide k
    have HN := hide sn
    have HXX := hide hx
    have HM := hide mv
    have HAO := hide hao
    clear k sn mv hx hR ps hf hao
    go_wp2_with fail
    with_reducible refine HSE.out.mono ?_
    rintro e w2 ⟨r, v2, l2, c2, rfl, hst, hk2, hhi2, hmv2⟩
    have HN2 := hide (HN.out.mv hmv2 (fun e he => by simp at he; rcases he with rfl | rfl | rfl | rfl <;> decide))
    have HM2 := hide (HM.out.trans (hmv2.mono (fun e he => List.mem_append_left _ he) (fun _ q => q)))
    have HAO2 := hide (HAO.out.right hmv2 (by decide))
    have HK2 := hide hk2
    have HH2 := hide hhi2
    clear hk2 hmv2 hhi2 HSE
    cases hst with
    | none hall =>
      have hne : near = [] := by
        rcases near with _ | ⟨p, near⟩
        · rfl
        · obtain ⟨x, hx, hs, _⟩ := HPS.out.pr.stale (p := p) (by simp)
          exact absurd (hall x hx) hs
      have hr := HR.out
      rw [hne, srch_none] at hr
      have HR2 := hide hr
      clear hr hne hall
      go_wp2_with fail
      go_ret3
      rw [← HR2.out]
      exact ⟨fs, bs, _, _, _, _, _, _, _, HK2.out, HN2.out, HM2.out, HAO2.out, .inr ⟨rfl, rfl⟩⟩
    | steps x r0 hxl hns h4 =>
      have hr := HR.out
      have hne : near ≠ [] := fun e => by have := HPS.out.pr.fresh hxl hns; rw [e] at this; simp at this
      rw [srch_full hne h4] at hr
      have HR2 := hide hr
      clear hr hne hxl hns h4
      go_wp2_with fail
      go_ret3
      rw [← HR2.out]
      exact ⟨fs, bs, _, _, _, _, _, _, _, HK2.out, HN2.out, HM2.out, HAO2.out, .inr ⟨rfl, rfl⟩⟩
    | one x dead r0 hp hdead hns hr0 h4 =>
      obtain ⟨i, hxi, hil, hbi, hne, hnx, hpr, hsi, hle, hno⟩ := HPS.out.one hp hdead hns hr0 HH2.out
      obtain ⟨y, hy⟩ : ∃ y, fs[i]? = some y := ⟨_, List.getElem?_eq_getElem hil⟩
      have ey : fs[i]! = y := by simp [hy]
      obtain ⟨g, cap, hfv, hg, y1, y2, y3, y4⟩ := fin_at HK2.out.fin hy
      have hc2 := HK2.out.blk.cell
      rw [hfv] at hc2
      have hiI : (i : Int) < fs.length := by omega
      rw [hxi]
      have hr := HR.out
      have HPR := hide hpr
      have HSI := hide hsi
      have HLE := hide hle
      have HNO := hide hno
      have HBI := hide hbi
      have HEY := hide ey
      have hnx' : near[nextI near]! = (y.n, y.s) := by rw [hnx, ey]
      clear hp hdead hns hr0 hpr hsi hle hno hxi hy hfv hnx hbi ey
      by_cases hto : y.n = to_
      · have hr' := hr
        rw [srch_hit hne h4 (by rw [hnx']; exact congrArg some hto.symm), hnx'] at hr'
        have HR2 := hide hr'
        have htb : (y.n == to_) = true := by simpa using hto
        have HTO := hide hto
        clear hr hr' hto
        go_wp2_with fail
        go_ret3
        have e1 := HEY.out
        have hpr := HPR.out
        have hbi := HBI.out
        rw [e1, HTO.out] at hpr hbi
        refine ⟨fs, bs, _, _, _, _, _, _, _, HK2.out, by rw [← HR2.out]; exact HN2.out, HM2.out, HAO2.out, .inl ⟨by rw [← HR2.out], by rw [← HR2.out], i, st, _, rfl, hil, by rw [e1]; exact HTO.out, hbi, by rw [← HR2.out, e1, HTO.out], HXX.out, by rw [← HR2.out]; simp only; rw [HTO.out]; exact hpr, HSI.out, fun p hp => by have := HNO.out p hp; rw [HEY.out, HTO.out] at this; exact this⟩⟩
      · have htb : (y.n == to_) = false := beq_eq_false_iff_ne.2 hto
        have haim : (some to_ : Option Int) ≠ some (near[nextI near]!).1 := by rw [hnx']; intro e; exact hto (Option.some.inj e).symm
        have hps := HPS.out
        have hsum := hps.pr.sum i hil
        have HLK := hide (look_counted Wb w2 sh sb B mb h fv v2 fs bs l2 (st.length + 1) rv rs tail av gv (bas ++ asked) gl i HK2.out HSI.out HN2.out hil hsum hrl (HAL.out _) (by rw [List.length_append]; have := hps.al; have := hps.c4; omega) (by have := hps.fl; have := hps.c4; omega))
        have hrx := PR.relax true y.s i (st ++ [(y.n, y.s)]) (by have := HLE.out; rw [HEY.out] at this; exact this) (by have := hsum.1; rw [HEY.out] at this; exact this) (netOf rs tail y.n).1 (fs := fs) (bs := bs) (l := l2) (near := near.eraseIdx (nextI near)) (by have := HPR.out; rw [HEY.out] at this; exact this)
        have hlp : lookP true rs tail i fs bs = if (netOf rs tail y.n).2 = 0 then relaxP true y.s i (netOf rs tail y.n).1 fs bs else ((netOf rs tail y.n).2, fs, bs) := by unfold lookP; rw [HEY.out]
        have HLP := hide hlp
        have HRX := hide hrx
        have HNX := hide hnx'
        have HNE := hide hne
        have HAI := hide haim
        have H4 := hide h4
        have HSU := hide hsum
        have HIL := hide hil
        have hst4 : st.length < 4096 := by have := hps.c4; omega
        have HS4 := hide hst4
        have HRR := hide hr
        obtain ⟨code, hcode⟩ : ∃ code, code = (lookP true rs tail i fs bs).1 := ⟨_, rfl⟩
        rw [← hcode] at HLK
        have HCD := hide hcode
        clear hr hlp hrx hnx' hne haim h4 hsum hps hst4 hcode hto
        go_wp2_with fail
        with_reducible refine HLK.out.mono ?_
        rintro e w3 ⟨fv3, v3, l3, av3, gv3, gl3, rfl, hk3, hsi3, hcm3, hsn3, hmv3, hao3⟩
        rw [HEY.out, List.append_assoc] at hsn3
        have HAO3 := hide (HAO2.out.trans hao3 HM2.out.size)
        have HM3 := hide (HM2.out.trans hmv3)
        have HK3 := hide hk3
        have HSI3 := hide hsi3
        have HCM3 := hide hcm3
        have HSN3 := hide hsn3
        clear hk3 hsi3 hcm3 hsn3 hmv3 hao3 HLK
        by_cases hc0 : code = 0
        · have hlp0 : (lookP true rs tail i fs bs).1 = 0 := by rw [← HCD.out]; exact hc0
          have hn0 : (netOf rs tail y.n).2 = 0 := by
            by_cases q : (netOf rs tail y.n).2 = 0
            · exact q
            · rw [HLP.out, if_neg q] at hlp0
              exact absurd hlp0 q
          have hlq : lookP true rs tail i fs bs = relaxP true y.s i (netOf rs tail y.n).1 fs bs := by rw [HLP.out, if_pos hn0]
          obtain ⟨q1, q2, q3, q4⟩ := HRX.out
          rw [← hlq] at q1 q2 q3 q4
          have hrz := q1.trans hlp0
          have hr := HRR.out
          rw [srch_go HNE.out H4.out HAI.out (.inl (by decide)) (by rw [HNX.out]; exact hn0) (by rw [HNX.out]; exact hrz), HNX.out] at hr
          have hfl := relaxP_len true y.s i (netOf rs tail y.n).1 fs bs
          rw [← hlq] at hfl
          have HREL : Hid (∃ (fs : List Fd) (bs : Int → Option Nat) (l : List It) (fv v : Value) (st near : List Sn) (asked : List Int) (av gv : Value) (gl : List Value), PS st near fs bs l asked ∧ SM Wb w3 sb B mb h (.func (.func 9) #[ptr sh] #[]) (.func (.func 26) #[] #[]) fv v fs bs l fs.length st.length ∧ Shn Wb w3 sh rv rs tail av gv (bas ++ asked) gl ∧ srch true rs tail (some to_) (-1) (4097 - st.length) st near asked = R ∧ X fs bs st ∧ Mv Wb (sTs ++ shTs) (fun b => b = mb) W w3 ∧ AskO W w3 av0 av) := by
            have hps := HPS.out
            have hal := HAL.out y.n
            have hs4 := HS4.out
            have hlen : (st ++ [(y.n, y.s)]).length = st.length + 1 := by simp
            refine ⟨_, _, l3, fv3, v3, st ++ [(y.n, y.s)], _, asked ++ [y.n], av3, gv3, gl3, ⟨HSI3.out, q4 l3 HCM3.out, by omega, ?_, by have := hps.al; simp; omega⟩, by rw [hlen]; exact HK3.out, HSN3.out, ?_, ?_, HM3.out, HAO3.out⟩
            · have := hps.fl
              rw [hlen]
              omega
            · rw [← hr, hlen]
              congr 1
              have := HF.out
              omega
            · have := HX.out fs bs l2 st _ i HPR.out hil HBI.out (fun p hp => ⟨HLE.out p (by simp [hp]), HNO.out p hp⟩) HXX.out hlp0
              rw [HEY.out] at this
              exact this
          have HMS : Hid (4097 - cnt sb w3 < 4097 - cnt sb wr) := by
            show _ < _
            rw [cnt_eq HK3.out, cnt_eq HK.out]
            have := HS4.out
            omega
          subst hc0
          clear hr hlq q1 q2 q3 q4 hrz hn0 hlp0 hfl
          go_wp2_with fail
          go_roundw
          case rel => exact HREL.out
          case measure => exact HMS.out
        · have hcb : (code == 0) = false := beq_eq_false_iff_ne.2 hc0
          have HRE : Hid (R = ⟨st ++ [(y.n, y.s)], asked ++ [y.n], code, false⟩) := by
            have hr := HRR.out
            have hcd := HCD.out
            show R = _
            by_cases q : (netOf rs tail y.n).2 = 0
            · rw [HLP.out, if_pos q, ← HRX.out.1] at hcd
              rw [srch_far HNE.out H4.out HAI.out (.inl (by decide)) (by rw [HNX.out]; exact q) (by rw [HNX.out]; simp only; rw [← hcd]; exact hc0), HNX.out] at hr
              rw [← hr, hcd]
            · rw [HLP.out, if_neg q] at hcd
              rw [srch_err HNE.out H4.out HAI.out (.inl (by decide)) (by rw [HNX.out]; exact q), HNX.out] at hr
              rw [← hr, hcd]
          clear hc0
          go_wp2_with fail
          go_ret3
          refine ⟨_, _, _, _, _, _, av3, gv3, gl3, HK3.out, ?_, HM3.out, HAO3.out, .inr ⟨?_, ?_⟩⟩
          · rw [HRE.out]; exact HSN3.out
          · rw [HRE.out]
          · rw [HRE.out]; rfl
end Go.Proofs.YtemkilffagjmcaaDoor
