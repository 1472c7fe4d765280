/- Locks: serve, where something is held behind it. -/
import Derived.Test.YtkbgifhhnnfgoaaGreatDoorLk21
import Derived.Test.YtkbgifhhnnfgoaaGreatDoorLk18
namespace Go.Proofs.YtkbgifhhnnfgoaaGreatDoor
section
open Go.RowKit

set_option maxRecDepth 100000 in
set_option maxHeartbeats 1000000 in
theorem Ask_any (t : Nat) (s : Gs) (x m : Int) (r : Rs) (p : Pt) (w : World) (h : TT w t s) (ht : Tb w) (hx : R64 x) (hr : r.ok) (hres : ResP r) (hm : modeB m = true) (hm0 : m ≠ 0) (hj : joinI 0 m = m) (hp : s.lv x = some p) (hgo : p.goal = 0) (hh : p.hf r = 0) (R : Int → Value → World → Prop)
    (KA : ∀ w1, G w w1 → Calls Tryz.prog 34 #[ptr t, r.v, .agg #[I x, I m]] w1 fun e w' => ∃ k u, e = .returned (.tuple #[I k, u]) ∧ R k u w') :
    Calls Tryz.prog 17 #[ptr t, I x, r.v, I m] w fun e w' => ∃ k u, e = .returned (.tuple #[I k, u, I 0]) ∧ R k u w' := by
  have g1 : G w (w.alloc (.cells #[I r.lv, .string r.lb, I r.id] 24)) := (G.refl w).alloc _
  have g2 : G w ((w.alloc (.cells #[I r.lv, .string r.lb, I r.id] 24)).alloc (.cells #[I r.lv, .string r.lb, I r.id] 24)) := g1.alloc _
  have KP := hide (partyOf_any t s x _ (h.G g1) hx)
  rw [hp] at KP
  simp only [ptv, Option.isSome_some, if_true] at KP
  have KR := hide (isRes_any r (w.alloc (.cells #[I r.lv, .string r.lb, I r.id] 24)))
  rw [(resB_iff r).2 hres] at KR
  have KM := hide (isMode_any m ((w.alloc (.cells #[I r.lv, .string r.lb, I r.id] 24)).alloc (.cells #[I r.lv, .string r.lb, I r.id] 24)))
  rw [hm] at KM
  have KJ : Hid (∀ W, G w W → Calls Tryz.prog 33 #[I 0, I m] W fun e w' => e = .returned (I m) ∧ w' = W) := fun W g => by
    have := joins_any 0 m W (ht.G g)
    rw [hj] at this
    exact this
  have hpo := h.pt x p hp
  have hcell := (hpo.blk.G g2).cell
  have hl := (hpo.hm.G g2).lookN kyR Tryz.underlying64 Tryz.zeroValue3 (kyR_ok.2 hr)
  simp only [nz_get, hh] at hl
  simp only [Pt.cells, hgo] at hcell
  have hrc := ((Blk.new w [I r.lv, .string r.lb, I r.id] 24).G ((G.refl _).alloc (.cells #[I r.lv, .string r.lb, I r.id] 24)))
  have hrc' := hrc.cell
  have HRC := hide hrc
  have HG := hide g2
  have HKA := hide KA
  have hne : ¬ m = 0 := hm0
  clear hpo g1 g2 hp h hrc KA ht hx hr hres hm hj hgo hh hm0
  simp only [Rs.v] at hl HKA ⊢
  go_enter Tryz.func17, Tryz.ntmps17
  go_wp2_with (first | (go_at_call 29; refine KP.out.mono ?_; rintro e w' ⟨rfl, rfl⟩) | (go_at_call 31; refine KR.out.mono ?_; rintro e w' ⟨rfl, rfl⟩) | (go_at_call 32; refine KM.out.mono ?_; rintro e w' ⟨rfl, rfl⟩) | fail)
  go_quiet (fail)
  go_wp2_with (first | (go_at_call 33; refine (KJ.out _ (HG.out.drewN _)).mono ?_; rintro e w' ⟨rfl, rfl⟩) | (go_at_call 34; refine (HKA.out _ (HG.out.drewN _)).mono ?_; rintro e w' ⟨k, u, rfl, hR⟩) | fail)
  go_ret3
  exact ⟨k, u, rfl, hR⟩
end
open Go.RowKit

/-- A queue has turned in its block. -/
theorem TT.queueS {w w6 : World} {t : Nat} {s : Gs} {r : Rs} {q : Pl} {v' : Value} {qs' : List (Int × Int)} (h : TT w t s) (hq : s.pl r = some q) (hQ : QSl w6 v' qs') (hC : Chg (fun k => q.q.ownBlock = some k) w w6) (e : v'.ownBlock = q.q.ownBlock) :
    TT (w6.setCell ⟨q.blk, 1, none⟩ v') t (s.setPl r { q with q := v', qs := qs' }) ∧ Ext w (w6.setCell ⟨q.blk, 1, none⟩ v') s (s.setPl r { q with q := v', qs := qs' }) := by
  have ho := h.pl r q hq
  have hc2 := chgk w6 q.blk 1 v'
  have hc : Chg (fun k => s.own k = some (.pl r) ∨ s.own k = some (.lh r) ∨ s.own k = some (.qu r)) w (w6.setCell ⟨q.blk, 1, none⟩ v') := (hC.mono (fun k e => .inr (.inr (ho.t3 k e)))).trans (hc2.mono (fun k e => by rw [e]; exact .inl ho.t1))
  have hqlt : ∀ b, v'.ownBlock = some b → b < w6.heap.size := fun b hb => by
    rcases hQ with ⟨e, -⟩ | ⟨g, cap, rest, e, hg, -⟩
    · rw [e] at hb; simp [Value.ownBlock] at hb
    · rw [e] at hb
      have e3 : g = b := by simpa [Value.ownBlock] using hb
      rw [← e3]; exact hg.lt
  have hb6 : Blk (w6.setCell ⟨q.blk, 1, none⟩ v') q.blk 105 [.map (some q.hb), v'] := (ho.blk.chg hC (fun e => (ho.ne.2 _ e).1 rfl)).set 1 v'
  have hm6 : Mp (fun n : Int => I n) 3 (w6.setCell ⟨q.blk, 1, none⟩ v') q.hb (fun x => nz (q.hf x)) := (ho.hm.chg hC (fun e => (ho.ne.2 _ e).2 rfl)).chg hc2 (Ne.symm ho.ne.1)
  have hQ6 : QSl (w6.setCell ⟨q.blk, 1, none⟩ v') v' qs' := hQ.keep (fun b e2 => hc2.block b (hqlt b e2) (fun e3 => (ho.ne.2 b (by rw [← e]; exact e2)).1 e3))
  exact h.setPl (q' := { q with q := v', qs := qs' }) hq rfl hc ⟨hb6, hm6, hQ6, ho.t1, ho.t2, fun b hb => ho.t3 b (by rw [← e]; exact hb)⟩
theorem qc_at (qs : List (Int × Int)) (rest : List Value) : ∀ (a : Nat) (y g : Int), qs[a]? = some (y, g) → (qc qs ++ rest)[a * 2]? = some (I y) ∧ (qc qs ++ rest)[a * 2 + 1]? = some (I g) := by
  induction qs with
  | nil => intro a y g h; simp at h
  | cons q qs ih =>
    intro a y g h
    have e : qc (q :: qs) ++ rest = I q.1 :: I q.2 :: (qc qs ++ rest) := by simp [qc]
    rw [e]
    cases a with
    | zero =>
      simp at h
      subst h
      simp
    | succ a =>
      have e2 : (a + 1) * 2 = a * 2 + 1 + 1 := by omega
      rw [e2, List.getElem?_cons_succ, List.getElem?_cons_succ, List.getElem?_cons_succ, List.getElem?_cons_succ]
      exact ih a y g (by simpa using h)
theorem del_step {w4 : World} {t : Nat} {s' : Gs} {r : Rs} {q : Pl} {a gb cap : Nat} (hT : TT w4 t s') (hq : s'.pl r = some q) (hEQ : q.q = .slice (some ⟨gb, 0, none⟩) q.qs.length cap) (ha : a < q.qs.length) (hn : q.qs.length < 4100000000000) (hwr : wrap64 ((a : Int) + 1) = (a : Int) + 1) :
    Calls Tryz.prog 61 #[.slice (some ⟨gb, 0, none⟩) q.qs.length cap, I a, I (wrap64 ((a : Int) + 1))] w4 fun e w5 => ∃ n5 cap5, e = .returned (.slice (some ⟨gb, 0, none⟩) n5 cap5) ∧ (∀ o, w5.cell? ⟨q.blk, o, none⟩ = ([.map (some q.hb), .slice (some ⟨gb, 0, none⟩) q.qs.length cap] : List Value)[o]?) ∧ (∀ o, w5.frozen? ⟨q.blk, o, none⟩ = false) ∧
      TT (w5.setCell ⟨q.blk, 1, none⟩ (.slice (some ⟨gb, 0, none⟩) n5 cap5)) t (s'.setPl r { q with q := .slice (some ⟨gb, 0, none⟩) n5 cap5, qs := cutQ q.qs a }) ∧ Ext w4 (w5.setCell ⟨q.blk, 1, none⟩ (.slice (some ⟨gb, 0, none⟩) n5 cap5)) s' (s'.setPl r { q with q := .slice (some ⟨gb, 0, none⟩) n5 cap5, qs := cutQ q.qs a }) := by
  have ho := hT.pl r q hq
  have hq4 := ho.q
  rw [hEQ] at hq4
  have KD := delete_any q.qs _ a w4 hq4 ha (by omega)
  rw [← hwr] at KD
  refine KD.mono ?_
  rintro e w5 ⟨v5, rfl, hQ5, hC5, hob⟩
  have hob' : v5.ownBlock = some gb := hob
  obtain ⟨n5, cap5, rfl⟩ : ∃ n c, v5 = .slice (some ⟨gb, 0, none⟩) n c := by
    rcases hQ5 with ⟨e, -⟩ | ⟨g', cap', rest, e, -⟩
    · rw [e] at hob'; simp [Value.ownBlock] at hob'
    · rw [e] at hob'
      have e3 : g' = gb := by simpa [Value.ownBlock] using hob'
      rw [e3] at e
      exact ⟨_, _, e⟩
  have hC : Chg (fun k => q.q.ownBlock = some k) w4 w5 := by rw [hEQ]; exact hC5
  have hb5 := ho.blk.chg hC (fun e => (ho.ne.2 _ e).1 rfl)
  have hc5 := hb5.cell
  rw [hEQ] at hc5
  obtain ⟨T6, E6⟩ := hT.queueS hq hQ5 hC (by rw [hEQ]; rfl)
  exact ⟨n5, cap5, rfl, hc5, hb5.frozen, T6, E6⟩
theorem app_one (w7 : World) (lo : Nat) (u : Value) (out : List Int) (y : Int) (hu : w7.ownsRow lo 3 1 u out.length (out.map fun z => I z)) (hl : out.length < 4099999999999) (hlo : lo ≤ w7.heap.size) :
    ∃ v' w9, (Builtin.append_ #[46, 46] 46 #[u, .slice (some ⟨w7.heap.size, 0, none⟩) 1 1]).run Tryz.prog (w7.alloc (.cells #[I y] 3)) = .ok v' w9 ∧ w9.ownsRow lo 3 1 v' (out ++ [y]).length ((out ++ [y]).map fun z => I z) ∧ (w7.alloc (.cells #[I y] 3)).grownBy w9 u.ownBlock := by
  obtain ⟨i0, hi, hz0, hz1, hz2⟩ := info_parts (show (Tryz.prog.info? 3).map (fun i => (i.zero, i.size, i.bytes)) = some (some (.int .i64 0), 1, 8) from by kernel_rfl)
  have gA : G w7 (w7.alloc (.cells #[I y] 3)) := (G.refl w7).alloc _
  have hmx : (4100000000000 : Nat) ≤ maxLen := of_decide_eq_true (by kernel_rfl)
  obtain ⟨v', w9, q1, q2, q3, -, -⟩ := run_append_own_at (P := Tryz.prog) (w := w7.alloc (.cells #[I y] 3)) lo 46 46 3 i0 _ 1 8 Tryz.underlying46 hi hz0 hz1 hz2 rfl (by decide) u out.length (out.map fun z => I z) (own_G hu gA) ⟨w7.heap.size, 0, none⟩ 1 1 [I y] rfl (fun j u hj => by
    have e : j = 0 := by
      have := (List.getElem?_eq_some_iff.1 hj).1
      simp at this
      omega
    subst e
    have := (Blk.new w7 [I y] 3).cell 0
    rw [hj] at this
    simpa [Addr.add] using this) (by simp [Value.oneCell']) (by omega) (by omega) (Nat.le_trans hlo gA.size)
  exact ⟨v', w9, q1, by rw [List.length_append, List.map_append]; exact q2, q3⟩
theorem QSl.len {w : World} {x : Option Addr} {n c : Nat} {qs : List (Int × Int)} (h : QSl w (.slice x n c) qs) : n = qs.length := by
  rcases h with ⟨e, e2⟩ | ⟨g, cap, rest, e, -⟩
  · cases e; rw [e2]; rfl
  · cases e; rfl
theorem Tb.ext {w w' : World} {s s' : Gs} (h : Tb w) (E : Ext w w' s s') (hgl : s.own 1 = none ∧ s.own 0 = none) : Tb w' := h.keep (E.chg.block _ h.lf (fun e => e hgl.1)) (E.chg.block _ h.lj (fun e => e hgl.2)) E.chg.size
/-- How many requests a place's queue holds. -/
def qLen (w : World) (B : Nat) : Nat := match w.cell? ⟨B, 1, none⟩ with | some (.slice _ n _) => n | _ => 0
theorem qLen_of {w : World} {B n c : Nat} {x : Option Addr} (h : w.cell? ⟨B, 1, none⟩ = some (.slice x n c)) : qLen w B = n := by unfold qLen; rw [h]
/-- What serve keeps between two rounds, and what comes of a round. -/
def SrvOk (Inv : Gs → Nat → List Int → Prop) (s : Gs) (r : Rs) (B : Nat) (L : List Int) (LR : List Rs) : Prop := ∀ s' a out, Inv s' a out → s'.own = s.own ∧ out.length < 4099999999999 ∧ ∃ q, s'.pl r = some q ∧ q.blk = B ∧ (∀ z, q.hf z ≠ 0 → z ∈ L ∧ R64 z) ∧ q.qs.length < 4100000000000 ∧ a ≤ q.qs.length ∧ (a = q.qs.length → ∃ z, q.hf z ≠ 0) ∧
  ∀ y g, q.qs[a]? = some (y, g) → R64 y ∧ g ≠ 0 ∧ ∃ p, s'.lv y = some p ∧ (∀ z, p.hf z ≠ 0 → z ∈ LR) ∧ (blkB q y g a = true → Inv s' (a + 1) out) ∧ (blkB q y g a = false → ∀ v', Inv (((s'.setPl r { q with q := v', qs := cutQ q.qs a }).setPl r (({ q with q := v', qs := cutQ q.qs a } : Pl).hold y g)).setPt y (p.hold r g).rest) a (out ++ [y]))
set_option maxRecDepth 100000 in
set_option maxHeartbeats 1000000 in
theorem serve_any (t : Nat) (s : Gs) (r : Rs) (q0 : Pl) (w : World) (Inv : Gs → Nat → List Int → Prop) (L : List Int) (LR : List Rs) (h : TT w t s) (ht : Tb w) (hgl : s.own 1 = none ∧ s.own 0 = none) (hr : r.ok) (hq0 : s.pl r = some q0) (h0 : Inv s 0 []) (hI : SrvOk Inv s r q0.blk L LR) (hl : L.length < maxLen) (hlr : LR.length < maxLen) :
    Calls Tryz.prog 37 #[ptr t, r.v] w fun e w' => ∃ u s' a out q, e = .returned u ∧ Inv s' a out ∧ s'.pl r = some q ∧ a = q.qs.length ∧ w'.ownsRow w.heap.size 3 1 u out.length (out.map fun z => I z) ∧ TT w' t s' ∧ Ext w w' s s' := by
  have g1 := (G.refl w).alloc (.cells #[I r.lv, .string r.lb, I r.id] 24)
  have hb := Blk.new w [I r.lv, .string r.lb, I r.id] 24
  have hbc := hb.cell
  have hc := (h.tb.G g1).cell
  have hlk := (h.pm.G g1).lookN kyR Tryz.underlying59 Tryz.zeroValue76 (kyR_ok.2 hr)
  rw [hq0] at hlk
  simp only [Option.map_some, Option.getD_some] at hlk
  have HT := hide h; have HTB := hide ht; have HGL := hide hgl; have HRO := hide hr; have HQ0 := hide hq0; have H0 := hide h0; have HI := hide hI; have HL := hide hl; have HLR := hide hlr; have HG1 := hide g1; have HB := hide hb
  clear h ht hgl hr hq0 h0 hI hl hlr g1 hb
  simp only [Rs.v] at hlk ⊢
  go_enter Tryz.func37, Tryz.ntmps37
  go_wp2
  go_quiet (fail)
  have HSZ : Hid (((w.alloc (.cells #[I r.lv, .string r.lb, I r.id] 24)).drewN nq).heap.size = w.heap.size + 1) := by
    show ((w.alloc (.cells #[I r.lv, .string r.lb, I r.id] 24)).drewN nq).heap.size = _
    rw [drewN_heap, World.size_alloc]
  have HGQ := hide (HG1.out.drewN nq)
  have HBQ := hide (HB.out.drewN nq)
  clear hlk hc hbc HG1 HB
  go_wp2
  generalize (w.alloc (.cells #[I r.lv, .string r.lb, I r.id] 24)).drewN nq = W1 at HGQ HSZ HBQ ⊢
  go_loopw [6, 7] (fun u i wr => ∃ (a : Nat) (s' : Gs) (out : List Int), i = I a ∧ Inv s' a out ∧ wr.ownsRow w.heap.size 3 1 u out.length (out.map fun z => I z) ∧ TT wr t s' ∧ Ext w wr s s' ∧ Blk wr w.heap.size 24 [I r.lv, .string r.lb, I r.id] ∧ Tb wr ∧ w.heap.size < wr.heap.size) (fun _ i wr => qLen wr q0.blk - (RowKit.intOf i).toNat)
  case atStart =>
    exact ⟨0, s, [], rfl, H0.out, ⟨rfl, .inl ⟨rfl, rfl⟩⟩, HT.out.G HGQ.out, HGQ.out.ext s, HBQ.out, HTB.out.G HGQ.out, by rw [HSZ.out]; omega⟩
  case round =>
    obtain ⟨a, s', out, rfl, hinv, hown, hT, hE, hB, hTb, hsz⟩ := hrel
    obtain ⟨hso, hol, q, hq, hqb, hLz, hqn, haq, hend, hstep⟩ := HI.out s' a out hinv
    have hq0b : ∃ B, B = q0.blk := ⟨_, rfl⟩
    obtain ⟨B, hB0⟩ := hq0b
    rw [← hB0] at hqb HI ⊢
    clear hB0
    subst hqb
    have hpl := hT.pl r q hq
    have hcq := hpl.blk.cell
    by_cases hlt : a < q.qs.length
    · obtain ⟨⟨y, g⟩, hya⟩ : ∃ z, q.qs[a]? = some z := ⟨_, List.getElem?_eq_getElem hlt⟩
      obtain ⟨hy64, hg0, p, hp, hLRp, hyes, hno⟩ := hstep y g hya
      rcases id hpl.q with ⟨e, e2⟩ | ⟨gb, cap, rest, e, hgb, hcap, hmx⟩
      · rw [e2] at hlt; simp at hlt
      have hqc := qc_at q.qs rest a y g hya
      have hc1 := hgb.cell (a * 2)
      have hc2 := hgb.cell (a * 2 + 1)
      rw [hqc.1] at hc1
      rw [hqc.2] at hc2
      rw [e] at hcq
      have haI : (a : Int) < (q.qs.length : Int) := by omega
      have hbn := Blk.new wr [I y, I g] 74
      have hbc := hbn.cell
      have HINV := hide hinv; have HOWN := hide hown; have HTT := hide hT; have HE := hide hE; have HBB := hide hB; have HTBW := hide hTb; have HSW := hide hsz; have HSO := hide hso; have HOL := hide hol; have HQ := hide hq; have HLZ := hide hLz; have HQN := hide hqn; have HY64 := hide hy64; have HG0 := hide hg0; have HP := hide hp; have HLRP := hide hLRp; have HYES := hide hyes; have HNO := hide hno; have HPL := hide hpl; have HEQ := hide e; have HYA := hide hya; have HBN := hide hbn
      clear hinv hown hT hE hB hTb hsz hso hol hq hLz hqn hy64 hg0 hp hLRp hyes hno hpl e hya hbn hqc hgb hcap hmx hend hstep haq hlt
      have gN : G wr (wr.alloc (.cells #[I y, I g] 74)) := (G.refl _).alloc _
      have hTN := HTT.out.G gN
      have hplN := hTN.pl r q HQ.out
      have hmx : (4100000000000 : Nat) ≤ maxLen := of_decide_eq_true (by kernel_rfl)
      have KB := hide (blocks_any q y g a L (wr.alloc (.cells #[I y, I g] 74)) (by omega) (fun z hz => (HLZ.out z hz).1) (fun z hz => (HLZ.out z hz).2) (by have := HQN.out; omega) (HTBW.out.G gN) hplN.blk hplN.hm hplN.q)
      have HGN := hide gN
      have HQL := hide (qLen_of (hcq 1))
      have hwr : wrap64 ((a : Int) + 1) = (a : Int) + 1 := by
        have := HQN.out
        unfold wrap64
        omega
      have HWR := hide hwr
      clear gN hTN hplN hmx hwr
      cases hbk : blkB q y g a with
      | true =>
        rw [hbk] at KB
        have HBK := hide (HYES.out hbk)
        clear hbk
        go_wp2_with (first | (go_at_call 53; with_reducible refine (KB.out).mono ?_; rintro e w4 ⟨rfl, hg4⟩) | fail)
        have gg := HGN.out.trans hg4
        go_roundw
        case rel =>
          exact ⟨a + 1, s', out, by rw [HWR.out]; rfl, HBK.out, own_G HOWN.out gg, HTT.out.G gg, HE.out.G gg, HBB.out.G gg, HTBW.out.G gg, by have := gg.size; have := HSW.out; omega⟩
        case measure =>
          have h4 := (HPL.out.blk.G gg).cell
          rw [HEQ.out] at h4
          rw [HWR.out, qLen_of (h4 1), HQL.out]
          simp [RowKit.intOf]
          omega
      | false =>
        rw [hbk] at KB
        have HBK := hide (HNO.out hbk)
        clear hbk
        have KB2 := hide (KB.out.mono (fun e w4 h4 => show e = .returned (.bool false) ∧ Hid (G wr w4) ∧ Hid (G (wr.alloc (.cells #[I y, I g] 74)) w4) ∧ (∀ o, w4.cell? ⟨q.blk, o, none⟩ = ([.map (some q.hb), .slice (some ⟨gb, 0, none⟩) q.qs.length cap] : List Value)[o]?) from by
          obtain ⟨rfl, hg4⟩ := h4
          have gg := HGN.out.trans hg4
          have h4 := (HPL.out.blk.G gg).cell
          rw [HEQ.out] at h4
          exact ⟨rfl, gg, hg4, h4⟩))
        have KD : Hid (∀ w4, G wr w4 → Calls Tryz.prog 61 #[.slice (some ⟨gb, 0, none⟩) q.qs.length cap, I a, I (wrap64 ((a : Int) + 1))] w4 fun e w5 => ∃ n5 cap5, e = .returned (.slice (some ⟨gb, 0, none⟩) n5 cap5) ∧ (∀ o, w5.cell? ⟨q.blk, o, none⟩ = ([.map (some q.hb), .slice (some ⟨gb, 0, none⟩) q.qs.length cap] : List Value)[o]?) ∧ (∀ o, w5.frozen? ⟨q.blk, o, none⟩ = false) ∧
            Hid (TT (w5.setCell ⟨q.blk, 1, none⟩ (.slice (some ⟨gb, 0, none⟩) n5 cap5)) t (s'.setPl r { q with q := .slice (some ⟨gb, 0, none⟩) n5 cap5, qs := cutQ q.qs a })) ∧ Hid (Ext w4 (w5.setCell ⟨q.blk, 1, none⟩ (.slice (some ⟨gb, 0, none⟩) n5 cap5)) s' (s'.setPl r { q with q := .slice (some ⟨gb, 0, none⟩) n5 cap5, qs := cutQ q.qs a }))) := fun w4 gg => by
          have := del_step (a := a) (HTT.out.G gg) HQ.out HEQ.out (by omega) HQN.out HWR.out
          exact this
        have KG : Hid (∀ w6 v5, TT w6 t (s'.setPl r { q with q := v5, qs := cutQ q.qs a }) → Calls Tryz.prog 54 #[ptr t, .agg #[I r.lv, .string r.lb, I r.id], .agg #[I y, I g]] w6 fun e w7 => e = .returned (.tuple #[]) ∧ Hid (TT w7 t (((s'.setPl r { q with q := v5, qs := cutQ q.qs a }).setPl r (({ q with q := v5, qs := cutQ q.qs a } : Pl).hold y g)).setPt y (p.hold r g).rest)) ∧ Hid (Ext w6 w7 (s'.setPl r { q with q := v5, qs := cutQ q.qs a }) (((s'.setPl r { q with q := v5, qs := cutQ q.qs a }).setPl r (({ q with q := v5, qs := cutQ q.qs a } : Pl).hold y g)).setPt y (p.hold r g).rest))) := fun w6 v5 hT6 =>
          grant_any t _ y g r p { q with q := v5, qs := cutQ q.qs a } w6 hT6 HY64.out HRO.out HG0.out HP.out (by simp [Gs.setPl]) L (fun z hz => (HLZ.out z hz).1) HL.out LR HLRP.out HLR.out
        have HFR : Hid (∀ b, w.heap.size ≤ b → ¬ s'.own b ≠ none) := fun b hb hn => by
          rw [HSO.out] at hn
          cases e : s.own b with
          | none => exact hn e
          | some tg => have := HT.out.lt b tg e; omega
        clear KB
        go_wp2_with (first
          | (go_at_call 53; with_reducible refine (KB2.out).mono ?_; rintro e w4 ⟨rfl, HGG, HG84, h4⟩; clear hcq hbc hc1 hc2)
          | (go_at_call 61; with_reducible refine (KD.out _ HGG.out).mono ?_; rintro e w5 ⟨n5, cap5, rfl, h5, hf5, HT6, HE6⟩; have c36 := ((HBB.out.G HGG.out).chg HE6.out.chg (HFR.out _ (Nat.le_refl _))).cell; have c86 := ((HBN.out.G HG84.out).chg HE6.out.chg (HFR.out _ (Nat.le_of_lt HSW.out))).cell)
          | (go_at_call 54
             with_reducible refine (KG.out _ _ HT6.out).mono ?_
             rintro e w7 ⟨rfl, HT7, HE7⟩
             have c87 := (((HBN.out.G HG84.out).chg HE6.out.chg (HFR.out _ (Nat.le_of_lt HSW.out))).chg HE7.out.chg (HFR.out _ (Nat.le_of_lt HSW.out))).cell
             have hfu : ∀ b, u6.ownBlock = some b → s'.own b = none := fun b hb => by
               have h1 := (World.ownsRow.lt HOWN.out b hb).1
               cases e : s'.own b with
               | none => rfl
               | some tg => exact absurd (by rw [e]; simp) (HFR.out b h1)
             have z1 := HGG.out.size
             have z2 := HE6.out.chg.size
             have z3 := HE7.out.chg.size
             have z0 := HSW.out
             obtain ⟨v9, w9, r1, r2, r3⟩ := app_one w7 w.heap.size u6 out y (own_ext (own_ext (own_G HOWN.out HGG.out) HE6.out hfu) HE7.out hfu) HOL.out (by omega)
             have HFU := hide hfu; have HR1 := hide r1; have HR2 := hide r2; have HR3 := hide r3
             have HZ : Hid (wr.heap.size ≤ w7.heap.size) := Nat.le_trans z1 (Nat.le_trans z2 z3)
             clear c36 c86 h5 hf5 h4 hfu r1 r2 r3 z0 z1 z2 z3)
          | (at_builtin; refine wpList_append_run rfl _ _ 46 rfl _ _ rfl rfl HR1.out ?_)
          | fail)
        have gA : G w7 (w7.alloc (.cells #[I y] 3)) := (G.refl w7).alloc _
        have hcg : Chg (fun k => u6.ownBlock = some k) (w7.alloc (.cells #[I y] 3)) w9 := ⟨HR3.out.os, HR3.out.tape, HR3.out.output, HR3.out.size, fun k hk hn => HR3.out.block k hk (fun e => hn e.symm)⟩
        have hT9 := (HT7.out.G gA).chg hcg HFU.out
        have hE7 : Ext w w7 s _ := ((HE.out.G HGG.out).trans HE6.out).trans HE7.out
        have hlo : ∀ b, u6.ownBlock = some b → w.heap.size ≤ b := fun b hb => (World.ownsRow.lt HOWN.out b hb).1
        have hE8 := hE7.G gA
        have hE9 : Ext w w9 s _ := ⟨⟨hcg.os.trans hE8.chg.os, hcg.tape.trans hE8.chg.tape, hcg.output.trans hE8.chg.output, Nat.le_trans hE8.chg.size hcg.size, fun b hb hn => (hcg.block b (Nat.lt_of_lt_of_le hb hE8.chg.size) (fun e => by have := hlo b e; omega)).trans (hE8.chg.block b hb hn)⟩, hE8.old, hE8.new⟩
        have hne : ¬ u6.ownBlock = some w.heap.size := fun e => by
          rcases HOWN.out.2 with ⟨e2, -⟩ | ⟨g2, cap2, cur2, e2, -, hgc, -⟩
          · rw [e2] at e; simp [Value.ownBlock] at e
          · rw [e2] at e
            have e3 : g2 = w.heap.size := by simpa [Value.ownBlock] using e
            rw [e3, HBB.out.h] at hgc
            cases hgc
        have hB9 := (((((HBB.out.G HGG.out).chg HE6.out.chg (HFR.out _ (Nat.le_refl _))).chg HE7.out.chg (HFR.out _ (Nat.le_refl _))).G gA).chg hcg hne)
        have hz9 : w.heap.size < w9.heap.size := by
          have h1 := HZ.out
          have h2 := gA.size
          have h3 := hcg.size
          have h4 := HSW.out
          omega
        have hpl9 := hT9.pl r (({ q with q := .slice (some ⟨gb, 0, none⟩) n5 cap5, qs := cutQ q.qs a } : Pl).hold y g) (by simp [Gs.setPl, Gs.setPt])
        have hq9 : qLen w9 q.blk = q.qs.length - 1 := by
          have h1 := hpl9.blk.cell 1
          have h2 := QSl.len hpl9.q
          have h3 : a < q.qs.length := by omega
          have h4 : n5 = (cutQ q.qs a).length := h2
          rw [cutQ_len h3] at h4
          rw [← h4]
          exact qLen_of h1
        go_roundw
        case rel =>
          exact ⟨a, _, out ++ [y], rfl, HBK.out _, HR2.out, hT9, hE9, hB9, HTB.out.ext hE9 HGL.out, hz9⟩
        case measure =>
          rw [hq9, HQL.out]
          simp [RowKit.intOf]
          omega
    · obtain ⟨z, hz⟩ := hend (by omega)
      obtain ⟨n, hlen, hn⟩ := hpl.hm.len kyI Tryz.underlying103 3
      have hn0 : 0 < n := Nat.pos_of_ne_zero (fun e => by
        have := hn.1 e z (kyI_ok.2 (hLz z hz).2)
        simp [nz, hz] at this)
      obtain ⟨qa, qcap, hqv⟩ : ∃ a c, q.q = .slice a q.qs.length c := by
        rcases hpl.q with ⟨e, e2⟩ | ⟨g, cap, rest, e, -⟩
        · rw [e2]; exact ⟨_, _, e⟩
        · exact ⟨_, _, e⟩
      rw [hqv] at hcq
      have haI : ¬ (a : Int) < (q.qs.length : Int) := by omega
      have HFIN : Hid (∃ s' a out q, Inv s' a out ∧ s'.pl r = some q ∧ a = q.qs.length ∧ wr.ownsRow w.heap.size 3 1 u6 out.length (out.map fun z => I z) ∧ TT wr t s' ∧ Ext w wr s s') := ⟨s', a, out, q, hinv, hq, by omega, hown, hT, hE⟩
      clear hz hn hqv hinv hq hown hT hE hB hTb hsz hso hol hLz hqn haq hend hstep hpl hlt
      go_wp2
      go_ret
      obtain ⟨s'', a', out', q', f1, f2, f3, f4, f5, f6⟩ := HFIN.out
      refine ⟨u6, rfl, ?_⟩
      first
        | exact ⟨s'', a', out', q', f1, f2, f3, f4, f5, f6⟩
        | exact ⟨s'', a', out', f1, q', f2, f3, f4, f5, f6⟩
        | fail
end Go.Proofs.YtkbgifhhnnfgoaaGreatDoor
