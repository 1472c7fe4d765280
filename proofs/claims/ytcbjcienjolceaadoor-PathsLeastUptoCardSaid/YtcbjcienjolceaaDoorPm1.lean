/- Paths: within. -/
import Derived.Test.YtcbjcienjolceaaDoorPj10
namespace Go.Proofs.YtcbjcienjolceaaDoor
open Go.RowKit

/-- Another list of ids turns. -/
theorem Shn.ids {Wb W W' : World} {sh : Nat} {rv : Value} {rs : List Nr} {tail : Bool} {av gv : Value} {asked : List Int} {gl : List Value} (k : Shn Wb W sh rv rs tail av gv asked gl) {lo n : Nat} {nv : Value} {xs : List Value} (hn : Rw lo 2 1 W nv n xs) (hlo : Wb.heap.size ≤ lo) (c : Chg (fun q => nv.ownBlock = some q) W W') (hd : ∀ b, nv.ownBlock = some b → av.ownBlock ≠ some b) : Shn Wb W' sh rv rs tail av gv asked gl := by
  have m : Mv Wb [2] (fun _ => False) W W' := hn.of_chg k.g hlo c (by simp)
  exact ⟨m.G k.g, k.blk.mv m (by decide), k.ask.chg c (fun b hb q => hd b q hb), k.giv.mv m (by decide), k.len, fun i id v h1 h2 => (k.all i id v h1 h2).mv m (by decide), k.rows, k.lo, k.mark⟩
/-- A list that has come since turns. -/
theorem AskO.new {W w2 wa w3 : World} {av0 av nv : Value} {n : Nat} {xs : List Value} (h : AskO W w2 av0 av) (ga : Go.Proofs.YtcbjcienjolceaaDoor.G w2 wa) (hn : Rw W.heap.size 2 1 wa nv n xs) (c : Chg (fun q => nv.ownBlock = some q) wa w3) : AskO W w3 av0 av :=
  ⟨fun b ys hb hq => by
    have h2 := hb.keep (h.1 b ys hb hq)
    rw [c.block b (Nat.lt_of_lt_of_le h2.lt ga.size) (fun e => by have := (Rw.own hn e).1; have := hb.lt; omega), ga.block b h2.lt]
    exact h.1 b ys hb hq, h.2⟩
theorem sight_le {m : Int} {l : List Sn} {id s : Int} (h : ∀ p ∈ l, p.2 ≤ m) (hs : s ≤ m) : ∀ p ∈ sightL l id s, p.2 ≤ m := by
  induction l with
  | nil => intro p hp; simp [sightL] at hp; subst hp; exact hs
  | cons x r ih =>
    intro p hp
    unfold sightL at hp
    split at hp
    · split at hp
      · rcases List.mem_cons.1 hp with rfl | q
        · exact hs
        · exact h p (by simp [q])
      · exact h p hp
    · rcases List.mem_cons.1 hp with rfl | q
      · exact h _ (by simp)
      · exact ih (fun p hp => h p (by simp [hp])) p q
theorem relax_le {m s : Int} (st : List Sn) (hs : s + 1 ≤ m) : ∀ (l : List Ar) (near : List Sn), (∀ p ∈ near, p.2 ≤ m) → ∀ p ∈ (relaxR true s st l near).2, p.2 ≤ m
  | [], near, h => h
  | a :: r, near, h => by
    unfold relaxR
    split
    · exact h
    · split
      · exact h
      · split
        · exact relax_le st hs r near h
        · exact relax_le st hs r _ (sight_le h (by simpa [wei] using hs))
set_option maxRecDepth 100000 in
set_option maxHeartbeats 2000000 in
theorem within_any (Wb W : World) (sh sb B mb h : Nat) (rv : Value) (rs : List Nr) (tail : Bool) (most : Int) (av0 : Value) (R : Rs) (bas : List Int) (hbas : bas.length ≤ 4294967296) (hm0 : 0 ≤ most) (hGb : G Wb W)
    (hrl : rs.length ≤ 1048576) (hal : ∀ id, (netOf rs tail id).1.length ≤ 1048576) (h0 : ∃ (fs : List Fd) (bs : Int → Option Nat) (l : List It) (fv v : Value) (st near : List Sn) (asked : List Int) (av gv : Value) (gl : List Value), PS st near fs bs l asked ∧ SM Wb W sb B mb h (.func (.func 12) #[ptr sh] #[]) (.func (.func 28) #[] #[]) fv v fs bs l fs.length st.length ∧ Shn Wb W sh rv rs tail av gv (bas ++ asked) gl ∧ srch true rs tail none most (4097 - st.length) st near asked = R ∧ Mv Wb (sTs ++ shTs) (fun b => b = mb) W W ∧ Rw W.heap.size 2 1 W (.slice none 0 0) st.length ((st.map (·.1)).map I) ∧ (∀ b, Value.ownBlock (.slice none 0 0) = some b → av.ownBlock ≠ some b) ∧ (∀ p ∈ near, p.2 ≤ most) ∧ AskO W W av0 av) :
    Calls Tryd.prog 29 #[ptr sb, I most] W fun e W' => ∃ (av gv : Value) (gl : List Value) (nv : Value), e = .returned (.tuple #[nv, I R.code]) ∧ (R.code = 0 → Rw W.heap.size 2 1 W' nv R.st.length ((R.st.map (·.1)).map I)) ∧ (R.code ≠ 0 → nv = .slice none 0 0) ∧ Shn Wb W' sh rv rs tail av gv (bas ++ R.asked) gl ∧ Mv Wb (sTs ++ shTs) (fun b => b = mb) W W' ∧ (∀ b, nv.ownBlock = some b → av.ownBlock ≠ some b) ∧ AskO W W' av0 av := by
  have H0 := hide h0
  have HGB := hide hGb
  have HAL := hide hal
  clear h0 hal
  go_enter Tryd.func29, Tryd.ntmps29
  go_wp2_with fail
  go_loopw [6] (fun nv wr => ∃ (fs : List Fd) (bs : Int → Option Nat) (l : List It) (fv v : Value) (st near : List Sn) (asked : List Int) (av gv : Value) (gl : List Value), PS st near fs bs l asked ∧ SM Wb wr sb B mb h (.func (.func 12) #[ptr sh] #[]) (.func (.func 28) #[] #[]) fv v fs bs l fs.length st.length ∧ Shn Wb wr sh rv rs tail av gv (bas ++ asked) gl ∧ srch true rs tail none most (4097 - st.length) st near asked = R ∧ Mv Wb (sTs ++ shTs) (fun b => b = mb) W wr ∧ Rw W.heap.size 2 1 wr nv st.length ((st.map (·.1)).map I) ∧ (∀ b, Value.ownBlock nv = some b → av.ownBlock ≠ some b) ∧ (∀ p ∈ near, p.2 ≤ most) ∧ AskO W wr av0 av) (fun _ wr => 4097 - cnt sb wr)
  case atStart => exact H0.out
  case round =>
    obtain ⟨fs, bs, l, fv, v, st, near, asked, av, gv, gl, ps, k, sn, hR, mv, nrow, ndis, hnm, hao⟩ := hrel
    obtain ⟨na, nc, rfl⟩ := Rw.form nrow
    have HSE := hide (settle_any Wb wr sb B mb h (.func (.func 12) #[ptr sh] #[]) (.func (.func 28) #[] #[]) fv v fs bs l fs.length st.length k ps.si ps.c4)
    obtain ⟨f, hf⟩ : ∃ f, 4097 - st.length = f + 1 := ⟨4096 - st.length, by have := ps.c4; omega⟩
    rw [hf] at hR
    have HR := hide hR
    have HF := hide hf
    have HPS := hide ps
    have HK := hide k
    have HN := hide sn
    have HM := hide mv
    have HRW := hide nrow
    have HND := hide ndis
    have HNM := hide hnm
    have HAO := hide hao
    clear k sn mv hR ps hf nrow ndis hnm hao
    go_wp2_with fail
    with_reducible refine HSE.out.mono ?_
    rintro e w2 ⟨r, v2, l2, c2, rfl, hst, hk2, hhi2, hmv2⟩
    have HN2 := hide (HN.out.mv hmv2 (fun e he => by simp at he; rcases he with rfl | rfl | rfl | rfl <;> decide))
    have HM2 := hide (HM.out.trans (hmv2.mono (fun e he => List.mem_append_left _ he) (fun _ q => q)))
    have HRW2 := hide (Rw.mv HRW.out hmv2 (by decide))
    have HAO2 := hide (HAO.out.right hmv2 (by decide))
    have HK2 := hide hk2
    have HH2 := hide hhi2
    clear hk2 hmv2 hhi2 HSE
    cases hst with
    | none hall =>
      have hne : near = [] := by
        rcases near with _ | ⟨p, near⟩
        · rfl
        · obtain ⟨x, hx, hs, _⟩ := HPS.out.pr.stale (p := p) (by simp)
          exact absurd (hall x hx) hs
      have hr := HR.out
      rw [hne, srch_none] at hr
      have HR2 := hide hr
      clear hr hne hall
      go_wp2_with fail
      go_ret2
      rw [← HR2.out]
      exact ⟨_, _, _, _, rfl, fun _ => HRW2.out, fun q => absurd rfl q, HN2.out, HM2.out, HND.out, HAO2.out⟩
    | steps x r0 hxl hns h4 =>
      have hr := HR.out
      have hne : near ≠ [] := fun e => by have := HPS.out.pr.fresh hxl hns; rw [e] at this; simp at this
      rw [srch_full hne h4] at hr
      have HR2 := hide hr
      clear hr hne hxl hns h4
      go_wp2_with fail
      go_ret2
      rw [← HR2.out]
      exact ⟨_, _, _, .slice none 0 0, rfl, fun q => absurd q (by simp), fun _ => rfl, HN2.out, HM2.out, fun b hb => by simp [Value.ownBlock] at hb, HAO2.out⟩
    | one x dead r0 hp hdead hns hr0 h4 =>
      obtain ⟨i, hxi, hil, hbi, hne, hnx, hpr, hsi, hle⟩ := HPS.out.one hp hdead hns hr0 HH2.out
      obtain ⟨y, hy⟩ : ∃ y, fs[i]? = some y := ⟨_, List.getElem?_eq_getElem hil⟩
      have ey : fs[i]! = y := by simp [hy]
      obtain ⟨g, cap, hfv, hg, y1, y2, y3, y4⟩ := fin_at HK2.out.fin hy
      have hc2 := HK2.out.blk.cell
      rw [hfv] at hc2
      have hiI : (i : Int) < fs.length := by omega
      rw [hxi]
      have hnx' : near[nextI near]! = (y.n, y.s) := by rw [hnx, ey]
      have hym : y.s ≤ most := by
        obtain ⟨hk, -⟩ := nextI_ok hne
        have := HNM.out near[nextI near]! (by rw [Hp.get_of hk]; exact List.getElem_mem _)
        rw [hnx'] at this
        exact this
      have HPR := hide hpr
      have HSI := hide hsi
      have HLE := hide hle
      have HBI := hide hbi
      have HEY := hide ey
      have HFV := hide hfv
      have HY := hide hy
      have HNE := hide hne
      have H4 := hide h4
      have HNX := hide hnx'
      have hst4 : st.length < 4096 := by have := HPS.out.c4; omega
      have HS4 := hide hst4
      clear hp hdead hns hr0 hpr hsi hle hxi hy hfv hnx hbi ey hne h4 hnx' hst4
      -- one more node
      have gA : G w2 (w2.alloc (.cells #[I y.n] 2)) := (G.refl w2).alloc _
      obtain ⟨nv3, w3, q1, q2, q3, q4⟩ := app_I (w2.alloc (.cells #[I y.n] 2)) W.heap.size (.slice na st.length nc) st.length ((st.map (·.1)).map I) (HRW2.out.G gA) ⟨w2.heap.size, 0, none⟩ 1 1 [I y.n] rfl (fun j u hj => by rw [Addr.add_mid, Nat.zero_add, (Blk.new w2 [I y.n] 2).cell]; exact hj) (fun u hu => by simp at hu; subst hu; rfl) (by have := HS4.out; omega) (Nat.le_trans HM2.out.size gA.size)
      have q2' : Rw W.heap.size 2 1 w3 nv3 (st ++ [(y.n, y.s)]).length (((st ++ [(y.n, y.s)]).map (·.1)).map I) := by
        rw [List.length_append, List.map_append, List.map_append]
        exact q2
      have hWb : Wb.heap.size ≤ W.heap.size := HGB.out.size
      have mA : Mv Wb [2] (fun _ => False) w2 w3 := (Mv.of_G HK2.out.g gA).trans ((HRW2.out.G gA).of_chg (HK2.out.g.trans gA) hWb q3 (by simp))
      have HK3 := hide (HK2.out.mv mA (fun e he => by simp at he; rcases he with rfl | rfl | rfl | rfl | rfl <;> decide) (fun q => q))
      have HN3 := hide ((HN2.out.G gA).ids (HRW2.out.G gA) hWb q3 HND.out)
      have HM3 := hide (HM2.out.trans (mA.mono (fun e he => by simp at he; subst he; decide) (fun _ q => q.elim)))
      have HRW3 := hide q2'
      have HND3 : Hid (∀ b, nv3.ownBlock = some b → av.ownBlock ≠ some b) := fun b hb e => by
        rcases q4 with q | q
        · exact HND.out b (by rw [← q]; exact hb) e
        · rw [q] at hb
          cases hb
          have := (HN2.out.ask.own e).2.1
          rw [World.size_alloc] at this
          omega
      have HAO3 : Hid (AskO W w3 av0 av) := HAO2.out.new gA (HRW2.out.G gA) q3
      have HRUN := hide q1
      have hc3 := HK3.out.blk.cell
      rw [HFV.out] at hc3
      obtain ⟨g3, cap3, hfv3, hg3, z1, z2, z3, z4⟩ := fin_at HK3.out.fin HY.out
      obtain ⟨rfl, rfl⟩ : g = g3 ∧ cap = cap3 := by have := HFV.out.symm.trans hfv3; simp at this; exact this
      have hlen : (st ++ [(y.n, y.s)]).length = st.length + 1 := by simp
      have HLN := hide hlen
      clear q1 q2 q2' q3 q4 gA mA hWb hfv3 hlen
      by_cases hsm : y.s = most
      · have hsb : (y.s == most) = true := by simpa using hsm
        have HREL : Hid (∃ (fs : List Fd) (bs : Int → Option Nat) (l : List It) (fv v : Value) (st near : List Sn) (asked : List Int) (av gv : Value) (gl : List Value), PS st near fs bs l asked ∧ SM Wb w3 sb B mb h (.func (.func 12) #[ptr sh] #[]) (.func (.func 28) #[] #[]) fv v fs bs l fs.length st.length ∧ Shn Wb w3 sh rv rs tail av gv (bas ++ asked) gl ∧ srch true rs tail none most (4097 - st.length) st near asked = R ∧ Mv Wb (sTs ++ shTs) (fun b => b = mb) W w3 ∧ Rw W.heap.size 2 1 w3 nv3 st.length ((st.map (·.1)).map I) ∧ (∀ b, Value.ownBlock nv3 = some b → av.ownBlock ≠ some b) ∧ (∀ p ∈ near, p.2 ≤ most) ∧ AskO W w3 av0 av) := by
          have hps := HPS.out
          have hpr := HPR.out
          rw [HEY.out] at hpr
          have hr := HR.out
          rw [srch_on (aim := none) (most := most) HNE.out H4.out (fun q => nomatch q) (by rw [HNX.out]; simp only; omega), HNX.out] at hr
          refine ⟨fs, bs, l2, fv, v2, st ++ [(y.n, y.s)], near.eraseIdx (nextI near), asked, av, gv, gl, ⟨HSI.out, hpr, ?_, ?_, ?_⟩, ?_, HN3.out, ?_, HM3.out, ?_, HND3.out, fun p hp => HNM.out p (List.mem_of_mem_eraseIdx hp), HAO3.out⟩
          · rw [HLN.out]; have := HS4.out; omega
          · rw [HLN.out]; exact Nat.le_trans hps.fl (Nat.add_le_add_left (Nat.mul_le_mul_right _ (Nat.le_succ _)) _)
          · rw [HLN.out]; have := hps.al; omega
          · rw [HLN.out]; exact HK3.out
          · rw [← hr, HLN.out]
            congr 1
            have := HF.out
            omega
          · have := HRW3.out
            rw [HLN.out] at this ⊢
            exact this
        have HMS : Hid (4097 - cnt sb w3 < 4097 - cnt sb wr) := by
          show _ < _
          rw [cnt_eq HK3.out, cnt_eq HK.out]
          have := HS4.out
          omega
        clear hsm
        go_wp2_with (first | (at_builtin; refine wpList_append_run rfl _ _ 26 rfl (.slice na st.length nc) (.slice (some ⟨w2.heap.size, 0, none⟩) 1 1) rfl rfl HRUN.out ?_) | fail)
        go_roundw
        case rel => exact HREL.out
        case measure => exact HMS.out
      · have hsb : (y.s == most) = false := beq_eq_false_iff_ne.2 hsm
        have hlt : y.s < most := by omega
        have hps := HPS.out
        have hsum := hps.pr.sum i hil
        have HLK := hide (look_counted Wb w3 sh sb B mb h fv v2 fs bs l2 (st.length + 1) rv rs tail av gv (bas ++ asked) gl i HK3.out HSI.out HN3.out hil hsum hrl (HAL.out _) (by rw [List.length_append]; have := hps.al; have := hps.c4; omega) (by have := hps.fl; have := hps.c4; omega))
        have HRX := hide (PR.relax true y.s i (st ++ [(y.n, y.s)]) (by have := HLE.out; rw [HEY.out] at this; exact this) (by have := hsum.1; rw [HEY.out] at this; exact this) (netOf rs tail y.n).1 (fs := fs) (bs := bs) (l := l2) (near := near.eraseIdx (nextI near)) (by have := HPR.out; rw [HEY.out] at this; exact this))
        have HLP : Hid (lookP true rs tail i fs bs = if (netOf rs tail y.n).2 = 0 then relaxP true y.s i (netOf rs tail y.n).1 fs bs else ((netOf rs tail y.n).2, fs, bs)) := by show _ = _; unfold lookP; rw [HEY.out]
        have HLT := hide hlt
        obtain ⟨code, hcode⟩ : ∃ code, code = (lookP true rs tail i fs bs).1 := ⟨_, rfl⟩
        rw [← hcode] at HLK
        have HCD := hide hcode
        clear hcode hsm hlt hsum hps hym
        go_wp2_with (first | (at_builtin; refine wpList_append_run rfl _ _ 26 rfl (.slice na st.length nc) (.slice (some ⟨w2.heap.size, 0, none⟩) 1 1) rfl rfl HRUN.out ?_) | fail)
        with_reducible refine HLK.out.mono ?_
        rintro e w4 ⟨fv4, v4, l4, av4, gv4, gl4, rfl, hk4, hsi4, hcm4, hsn4, hmv4, hao4⟩
        rw [HEY.out, List.append_assoc] at hsn4
        have HM4 := hide (HM3.out.trans hmv4)
        have HK4 := hide hk4
        have HSI4 := hide hsi4
        have HCM4 := hide hcm4
        have HSN4 := hide hsn4
        have HRW4 : Hid (Rw W.heap.size 2 1 w4 nv3 (st ++ [(y.n, y.s)]).length (((st ++ [(y.n, y.s)]).map (·.1)).map I)) := HRW3.out.keep (fun b hb => by
          obtain ⟨_, _, ys, hy⟩ := Rw.own HRW3.out hb
          exact hao4.1 b ys hy (HND3.out b hb))
        have HND4 : Hid (∀ b, nv3.ownBlock = some b → av4.ownBlock ≠ some b) := fun b hb e => by
          rcases hao4.2 b e with q | q
          · exact HND3.out b hb q
          · have := (Rw.own HRW3.out hb).2.1
            omega
        have HAO4 := hide (HAO3.out.trans hao4 HM3.out.size)
        clear hk4 hsi4 hcm4 hsn4 hmv4 hao4 HLK hc3 z1 z2 z3 z4
        by_cases hc0 : code = 0
        · have HREL : Hid (∃ (fs : List Fd) (bs : Int → Option Nat) (l : List It) (fv v : Value) (st near : List Sn) (asked : List Int) (av gv : Value) (gl : List Value), PS st near fs bs l asked ∧ SM Wb w4 sb B mb h (.func (.func 12) #[ptr sh] #[]) (.func (.func 28) #[] #[]) fv v fs bs l fs.length st.length ∧ Shn Wb w4 sh rv rs tail av gv (bas ++ asked) gl ∧ srch true rs tail none most (4097 - st.length) st near asked = R ∧ Mv Wb (sTs ++ shTs) (fun b => b = mb) W w4 ∧ Rw W.heap.size 2 1 w4 nv3 st.length ((st.map (·.1)).map I) ∧ (∀ b, Value.ownBlock nv3 = some b → av.ownBlock ≠ some b) ∧ (∀ p ∈ near, p.2 ≤ most) ∧ AskO W w4 av0 av) := by
            have hlp0 : (lookP true rs tail i fs bs).1 = 0 := by rw [← HCD.out]; exact hc0
            have hn0 : (netOf rs tail y.n).2 = 0 := by
              by_cases q : (netOf rs tail y.n).2 = 0
              · exact q
              · rw [HLP.out, if_neg q] at hlp0
                exact absurd hlp0 q
            have hlq : lookP true rs tail i fs bs = relaxP true y.s i (netOf rs tail y.n).1 fs bs := by rw [HLP.out, if_pos hn0]
            obtain ⟨q1, q2, q3, q4⟩ := HRX.out
            rw [← hlq] at q1 q2 q3 q4
            have hrz := q1.trans hlp0
            have hr := HR.out
            rw [srch_go (aim := none) (most := most) HNE.out H4.out (fun q => nomatch q) (.inr (by rw [HNX.out]; exact HLT.out)) (by rw [HNX.out]; exact hn0) (by rw [HNX.out]; exact hrz), HNX.out] at hr
            have hfl := relaxP_len true y.s i (netOf rs tail y.n).1 fs bs
            rw [← hlq] at hfl
            have hps := HPS.out
            have hal := HAL.out y.n
            have hs4 := HS4.out
            refine ⟨_, _, l4, fv4, v4, st ++ [(y.n, y.s)], _, asked ++ [y.n], av4, gv4, gl4, ⟨HSI4.out, q4 l4 HCM4.out, ?_, ?_, ?_⟩, ?_, HSN4.out, ?_, HM4.out, ?_, HND4.out, ?_, HAO4.out⟩
            · rw [HLN.out]; omega
            · rw [HLN.out]; have := hps.fl; omega
            · rw [HLN.out, List.length_append]; have := hps.al; simp; omega
            · rw [HLN.out]; exact HK4.out
            · rw [← hr, HLN.out]
              congr 1
              have := HF.out
              omega
            · have := HRW4.out
              rw [HLN.out] at this ⊢
              exact this
            · exact relax_le _ (by have := HLT.out; omega) _ _ (fun p hp => HNM.out p (List.mem_of_mem_eraseIdx hp))
          have HMS : Hid (4097 - cnt sb w4 < 4097 - cnt sb wr) := by
            show _ < _
            rw [cnt_eq HK4.out, cnt_eq HK.out]
            have := HS4.out
            omega
          subst hc0
          go_wp2_with fail
          go_roundw
          case rel => exact HREL.out
          case measure => exact HMS.out
        · have hcb : (code == 0) = false := beq_eq_false_iff_ne.2 hc0
          have HRE : Hid (R = ⟨st ++ [(y.n, y.s)], asked ++ [y.n], code, false⟩) := by
            have hr := HR.out
            have hcd := HCD.out
            show R = _
            by_cases q : (netOf rs tail y.n).2 = 0
            · rw [HLP.out, if_pos q, ← HRX.out.1] at hcd
              rw [srch_far (aim := none) (most := most) HNE.out H4.out (fun q => nomatch q) (.inr (by rw [HNX.out]; exact HLT.out)) (by rw [HNX.out]; exact q) (by rw [HNX.out]; simp only; rw [← hcd]; exact hc0), HNX.out] at hr
              rw [← hr, hcd]
            · rw [HLP.out, if_neg q] at hcd
              rw [srch_err (aim := none) (most := most) HNE.out H4.out (fun q => nomatch q) (.inr (by rw [HNX.out]; exact HLT.out)) (by rw [HNX.out]; exact q), HNX.out] at hr
              rw [← hr, hcd]
          have HC0 := hide hc0
          clear hc0
          go_wp2_with fail
          go_ret2
          refine ⟨av4, gv4, gl4, .slice none 0 0, ?_, fun q => ?_, fun _ => rfl, ?_, HM4.out, fun b hb => by simp [Value.ownBlock] at hb, HAO4.out⟩
          · rw [HRE.out]; rfl
          · rw [HRE.out] at q; exact absurd q HC0.out
          · rw [HRE.out]; exact HSN4.out
end Go.Proofs.YtcbjcienjolceaaDoor
