/- Locks: End of one that holds on one resource, and waits for nothing. -/
import Derived.Test.YtfeiocahlhklaaaDoorLk25
namespace Go.Proofs.YtfeiocahlhklaaaDoor
open Go.RowKit

def Gs.delPt (s : Gs) (x : Int) : Gs := { s with lv := upd s.lv x none }
theorem TT.delPt {w w' : World} {t : Nat} {s : Gs} {x : Int} (h : TT w t s) (hm : Mp (fun n : Int => I n) 3 w' s.lb (upd (fun x => (s.lv x).map fun p => ptr p.blk) x none)) (hc : Chg (fun k => k = s.lb) w w') : TT w' t (s.delPt x) ∧ Ext w w' s (s.delPt x) := by
  have hk : ∀ b tg, s.own b = some tg → tg ≠ .lv → w'.heap[b]? = w.heap[b]? := fun b tg o n => hc.block b (h.lt b tg o) (fun e => by
    rw [e, h.o2] at o
    exact n (Option.some.inj o).symm)
  refine ⟨⟨h.tb.keep (hk _ _ h.o1 (by simp)), hm.congr (fun z => ?_), h.pm.keep (hk _ _ h.o3 (by simp)), fun z p hz => ?_, fun z p hz => ?_, h.o1, h.o2, h.o3, fun b tg o => Nat.lt_of_lt_of_le (h.lt b tg o) hc.size⟩, ⟨hc.mono (fun b e => by rw [e, h.o2]; simp), fun _ _ o => o, fun _ _ o => .inl o⟩⟩
  · by_cases e : z = x
    · subst e; simp [Gs.delPt, upd_same]
    · simp [Gs.delPt, upd_other e]
  · by_cases e : z = x
    · subst e; simp [Gs.delPt, upd_same] at hz
    · replace hz : upd s.lv x none z = some p := hz
      rw [upd_other e] at hz
      exact (h.pt z p hz).keep (fun b o => by rcases o with o | o | o <;> exact hk _ _ o (by simp))
  · exact (h.pl z p hz).keep (fun b o => by rcases o with o | o | o <;> exact hk _ _ o (by simp))
set_option maxRecDepth 100000 in
set_option maxHeartbeats 1000000 in
theorem End_one (t : Nat) (s : Gs) (x : Int) (r : Rs) (p : Pt) (q : Pl) (w : World) (RS : Gs → List Int → Prop) (h : TT w t s) (ht : Tb w) (hgl : s.own 0 = none ∧ s.own 1 = none) (hx : R64 x) (hp : s.lv x = some p) (hr : r.ok) (hgo : p.goal = 0) (hf : p.hf r ≠ 0) (hone : ∀ a, p.hf a ≠ 0 → a = r) (hq : s.pl r = some q) (hno : ∀ o ∈ q.qs, o.1 ≠ x) (hlen : q.qs.length ≤ maxLen)
    (KS : ∀ w3, TT w3 t ((s.delPt x).setPl r (q.hold x 0)) → Tb w3 → Calls Tryd.prog 19 #[ptr t, (.agg #[I r.lv, .string r.lb, I r.id])] w3 fun e w' => ∃ u out s', e = .returned u ∧ out.length < 1099511627776 ∧ w'.ownsRow w3.heap.size 3 1 u out.length (out.map fun z => I z) ∧ TT w' t s' ∧ Ext w3 w' ((s.delPt x).setPl r (q.hold x 0)) s' ∧ RS s' out) :
    Calls Tryd.prog 8 #[ptr t, I x] w fun e w' => ∃ u out s', e = .returned (.tuple #[u, .slice none 0 0, I 0]) ∧ w'.ownsRow w.heap.size 3 1 u out.length (out.map fun z => I z) ∧ TT w' t s' ∧ Ext w w' s s' ∧ RS s' out := by
  have KP := hide (partyOf_any t s x w h hx)
  rw [hp] at KP
  simp only [ptv, Option.isSome_some, if_true] at KP
  obtain ⟨w1, hrun1, hm1, hc1, hs1⟩ := h.lm.del kyI Tryd.underlying39 (kyI_ok.2 hx) 0
  obtain ⟨hT1, hE1⟩ := h.delPt hm1 hc1
  have hpo := h.pt x p hp
  have hK1 := places_one p r w1 (hpo.blk.keep (hc1.block _ hpo.blk.lt (fun e => h.ne hpo.t1 h.o2 (by simp) e))) (hpo.hm.keep (hc1.block _ (h.lt _ _ hpo.t2) (fun e => h.ne hpo.t2 h.o2 (by simp) e))) hr hgo hf hone
  have hct := h.tb.cell
  have KPl := hide hK1; have HT := hide h; have HTB := hide ht; have HGL := hide hgl; have HX := hide hx; have HRO := hide hr; have HQ := hide hq; have HNO := hide hno; have HLEN := hide hlen; have HKS := hide KS; have HT1 := hide hT1; have HE1 := hide hE1
  clear h ht hgl hx hp hr hgo hf hone hq hno hlen KS hT1 hE1 hpo hK1 hm1 hc1 hs1
  go_enter Tryd.func8, Tryd.ntmps8
  go_wp2_with (first | (go_at_call 12; refine KP.out.mono ?_; rintro e w' ⟨rfl, hw'⟩; have hw2 := hw'.symm; subst hw2; clear hw') | (go_at_call 17; refine KPl.out.mono ?_; rintro e W ⟨gp, cap, rfl, hrow, hgW⟩) | fail)
  have HROW := hide hrow
  have HGW := hide hgW
  clear hrow hgW hct hrun1
  go_loopw [9, 29] (fun g i wr => (i = I 0 ∧ g = .slice none 0 0 ∧ wr = W) ∨ (i = I 1 ∧ ∃ out s', wr.ownsRow w.heap.size 3 1 g out.length (out.map fun z => I z) ∧ TT wr t s' ∧ Ext w wr s s' ∧ RS s' out)) (fun _ i _ => 1 - (RowKit.intOf i).toNat)
  case atStart => exact .inl ⟨rfl, rfl, rfl⟩
  case round =>
    rcases hrel with ⟨rfl, rfl, rfl⟩ | ⟨rfl, out, s', hrow, hT, hE, hR⟩
    · have hz := HROW.out.cellAt
      have hr0 := hz 0 (by omega)
      have hr1 := hz 1 (by omega)
      have hr2 := hz 2 (by omega)
      clear hz
      have gA : G w1 (wr.alloc (.cells #[I r.lv, .string r.lb, I r.id] 23)) := HGW.out.alloc _
      have hTA := HT1.out.G gA.drew
      have hlk := hTA.pm.look kyR Tryd.underlying40 (Tryd.zeroValue58 _) (kyR_ok.2 HRO.out)
      have hqd : (s.delPt x).pl r = some q := HQ.out
      rw [hqd] at hlk
      have hS9 : (fun V => (∀ o, V.cell? ⟨t, o, none⟩ = ([.map (some s.lb), .map (some s.pb)] : List Value)[o]?) ∧ (∀ o, V.cell? ⟨wr.heap.size, o, none⟩ = ([I r.lv, .string r.lb, I r.id] : List Value)[o]?) ∧ (Instr.lookup 40 (.map (some s.pb)) (.agg #[I r.lv, .string r.lb, I r.id]) false).run Tryd.prog V = .ok (ptr q.blk) V) (wr.alloc (.cells #[I r.lv, .string r.lb, I r.id] 23)).drew := ⟨hTA.tb.cell, ((Blk.new wr [I r.lv, .string r.lb, I r.id] 23).drew).cell, hlk⟩
      have HS9 := hide hS9
      have KL := hide (leave_none t (s.delPt x) x r q _ hTA HX.out HQ.out HNO.out HLEN.out)
      have HTA := hide hTA
      have HA := hide gA
      have HBX := hide ((Blk.new wr [I r.lv, .string r.lb, I r.id] 23).drew)
      have HWZ : Hid (w.heap.size ≤ wr.heap.size) := by
        show w.heap.size ≤ wr.heap.size
        have h1 := HE1.out.chg.size
        have h2 := HGW.out.size
        omega
      clear gA hTA hlk hqd hS9
      go_wp2_with fail
      refine wp_region_noPanic ?_
      refine wp_region_held_drew (S := (fun V => (∀ o, V.cell? ⟨t, o, none⟩ = ([.map (some s.lb), .map (some s.pb)] : List Value)[o]?) ∧ (∀ o, V.cell? ⟨wr.heap.size, o, none⟩ = ([I r.lv, .string r.lb, I r.id] : List Value)[o]?) ∧ (Instr.lookup 40 (.map (some s.pb)) (.agg #[I r.lv, .string r.lb, I r.id]) false).run Tryd.prog V = .ok (ptr q.blk) V)) (by kernel_rfl) (HS9.out) (fun hHeld => ?_)
      refine wpAnyH_take (i := 0) (v := ?_) rfl (by kernel_rfl) (by kernel_rfl) (by kernel_rfl) (fun _ _ _ h => h) (Or.inl ⟨by rfl, ?_⟩) hHeld ?_
      rotate_left 1
      · (intro w hSw; obtain ⟨q1, q2, q3⟩ := hSw; go_simp; try with_reducible rfl)
      try simp only [Act.put, List.getElem_toArray, List.getElem_cons_zero, List.setIfInBounds_toArray, List.set_cons_zero, List.set_cons_succ]
      refine wpAnyH_take (i := 1) (v := ?_) rfl (by kernel_rfl) (by kernel_rfl) (by kernel_rfl) (fun _ _ _ h => h) (Or.inl ⟨by rfl, ?_⟩) hHeld ?_
      rotate_left 1
      · (intro w hSw; obtain ⟨q1, q2, q3⟩ := hSw; go_simp; try with_reducible rfl)
      try simp only [Act.put, List.getElem_toArray, List.getElem_cons_zero, List.getElem_cons_succ, List.setIfInBounds_toArray, List.set_cons_zero, List.set_cons_succ]
      refine wpAnyH_take (i := 2) (v := ?_) rfl (by kernel_rfl) (by kernel_rfl) (by kernel_rfl) (fun _ _ _ h => h) (Or.inl ⟨by rfl, ?_⟩) hHeld ?_
      rotate_left 1
      · (intro w hSw; obtain ⟨q1, q2, q3⟩ := hSw; go_simp; try with_reducible rfl)
      try simp only [Act.put, List.getElem_toArray, List.getElem_cons_zero, List.getElem_cons_succ, List.setIfInBounds_toArray, List.set_cons_zero, List.set_cons_succ]
      refine wpAnyH_take (i := 3) (v := ?_) rfl (by kernel_rfl) (by kernel_rfl) (by kernel_rfl) (fun _ _ _ h => h) (Or.inl ⟨by rfl, ?_⟩) hHeld ?_
      rotate_left 1
      · (intro w hSw; obtain ⟨q1, q2, q3⟩ := hSw; go_simp; try with_reducible rfl)
      try simp only [Act.put, List.getElem_toArray, List.getElem_cons_zero, List.getElem_cons_succ, List.setIfInBounds_toArray, List.set_cons_zero, List.set_cons_succ]
      refine wpAnyH_take (i := 4) (v := ?_) rfl (by kernel_rfl) (by kernel_rfl) (by kernel_rfl) (fun _ _ _ h => h) (Or.inl ⟨by rfl, ?_⟩) hHeld ?_
      rotate_left 1
      · (intro w hSw; obtain ⟨q1, q2, q3⟩ := hSw; go_simp; try with_reducible rfl)
      try simp only [Act.put, List.getElem_toArray, List.getElem_cons_zero, List.getElem_cons_succ, List.setIfInBounds_toArray, List.set_cons_zero, List.set_cons_succ]
      refine wpAnyH_take (i := 5) (v := ?_) rfl (by kernel_rfl) (by kernel_rfl) (by kernel_rfl) (fun _ _ _ h => h) (Or.inl ⟨by rfl, ?_⟩) hHeld ?_
      rotate_left 1
      · (intro w hSw; obtain ⟨q1, q2, q3⟩ := hSw; go_simp; try with_reducible rfl)
      try simp only [Act.put, List.getElem_toArray, List.getElem_cons_zero, List.getElem_cons_succ, List.setIfInBounds_toArray, List.set_cons_zero, List.set_cons_succ]
      refine wpAnyH_take (i := 6) (v := ?_) rfl (by kernel_rfl) (by kernel_rfl) (by kernel_rfl) (fun _ _ _ h => h) (Or.inl ⟨by rfl, ?_⟩) hHeld ?_
      rotate_left 1
      · (intro w hSw; obtain ⟨q1, q2, q3⟩ := hSw; go_simp; try with_reducible rfl)
      try simp only [Act.put, List.getElem_toArray, List.getElem_cons_zero, List.getElem_cons_succ, List.setIfInBounds_toArray, List.set_cons_zero, List.set_cons_succ]
      refine wpAnyH_ready (rs := [7]) (by kernel_rfl) (by simp) (AllReadyH.cons rfl (fun K hK => ?_) AllReadyH.nil)
      clear hHeld
      go_simp
      with_reducible refine (KL.out).mono ?_
      rintro e w5 ⟨rfl, hT5, hE5⟩
      have hz3 : ¬ ((s.delPt x).own wr.heap.size ≠ none) := fun hn => by
        cases e : s.own wr.heap.size with
        | none => exact hn e
        | some tg =>
          have h1 := HT.out.lt _ _ e
          have h2 := HWZ.out
          omega
      have HC5 := hide (HBX.out.chg hE5.chg hz3).cell
      have hl5 := hT5.pm.look kyR Tryd.underlying40 (Tryd.zeroValue58 _) (kyR_ok.2 HRO.out)
      have hq5 : ((s.delPt x).setPl r (q.hold x 0)).pl r = some (q.hold x 0) := by simp [Gs.setPl]
      rw [hq5] at hl5
      have HL5 := hide hl5
      have HT5 := hide hT5
      have HE5 := hide hE5
      clear hz3 hl5 hq5 hT5 hE5
      go_wp2_with fail
      refine hK.out _ _ (⟨HT5.out.tb.cell, HC5.out, HL5.out⟩) (fun hHeld => ?_)
      clear hK K
      try simp only [Act.put, List.getElem_toArray, List.getElem_cons_zero, List.getElem_cons_succ, List.setIfInBounds_toArray, List.set_cons_zero, List.set_cons_succ]
      refine wpAnyH_done (by kernel_rfl) ?_ _
      refine NoPanic.normal ?_
      have hT5 := HT5.out
      have hE5 := HE5.out
      have hE5' : Ext w w5 s ((s.delPt x).setPl r (q.hold x 0)) := ((HE1.out.G HA.out.drew).trans hE5)
      have hTb5 := HTB.out.ext hE5' HGL.out
      have c5 := HC5.out
      have KS5 := hide ((HKS.out w5 hT5 hTb5).mono (fun e w6 h6 => show ∃ u out s' v7 w7, e = .returned u ∧ Hid ((Builtin.append_ #[29, 29] 29 #[.slice none 0 0, u]).run Tryd.prog w6 = .ok v7 w7) ∧ Hid (w7.ownsRow w.heap.size 3 1 v7 out.length (out.map fun z => I z)) ∧ Hid (TT w7 t s') ∧ Hid (Ext w w7 s s') ∧ Hid (RS s' out) from by
        obtain ⟨u, out, s', rfl, hol, hrow6, hT6, hE6, hR6⟩ := h6
        have hE6' := hE5'.trans hE6
        obtain ⟨v7, w7, r1, r2, r3⟩ := app_rows w6 w.heap.size w5.heap.size (.slice none 0 0) u out ⟨rfl, .inl ⟨rfl, rfl⟩⟩ hrow6 hol hE6'.chg.size
        have g7 : G w6 w7 := ⟨r3.os, r3.tape, r3.output, r3.size, fun k hk => r3.block k hk (by simp [Value.ownBlock])⟩
        exact ⟨u, out, s', v7, w7, rfl, r1, r2, hT6.G g7, hE6'.G g7, hR6⟩))
      clear hE5' hTb5 hT5 hE5 hr0 hr1 hr2
      go_wp2_with (first | (go_at_call 19; with_reducible refine (KS5.out).mono ?_; rintro e w6 ⟨u, out, s', v7, w7, rfl, HR1, HR2, HT7, HE7, HR7⟩) | (at_builtin; refine wpList_append_run rfl _ _ 29 rfl _ _ rfl rfl HR1.out ?_) | fail)
      go_roundw
      case rel => exact .inr ⟨rfl, out, s', HR2.out, HT7.out, HE7.out, HR7.out⟩
      case measure => simp [RowKit.intOf]
    · have HROW2 := hide hrow; have HT2 := hide hT; have HE2 := hide hE; have HR2 := hide hR
      clear hrow hT hE hR
      go_wp2
      go_ret3
      exact ⟨u9, out, s', rfl, HROW2.out, HT2.out, HE2.out, HR2.out⟩
end Go.Proofs.YtfeiocahlhklaaaDoor
