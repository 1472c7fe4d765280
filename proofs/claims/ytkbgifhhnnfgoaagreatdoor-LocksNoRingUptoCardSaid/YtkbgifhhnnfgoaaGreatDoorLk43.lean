/- Locks: End, in general. -/
import Derived.Test.YtkbgifhhnnfgoaaGreatDoorLk42
namespace Go.Proofs.YtkbgifhhnnfgoaaGreatDoor
open Go.RowKit

def Gs.delPt (s : Gs) (x : Int) : Gs := { s with lv := upd s.lv x none }
theorem TT.delPt {w w' : World} {t : Nat} {s : Gs} {x : Int} (h : TT w t s) (hm : Mp (fun n : Int => I n) 3 w' s.lb (upd (fun x => (s.lv x).map fun p => ptr p.blk) x none)) (hc : Chg (fun k => k = s.lb) w w') : TT w' t (s.delPt x) ∧ Ext w w' s (s.delPt x) := by
  have hk : ∀ b tg, s.own b = some tg → tg ≠ .lv → w'.heap[b]? = w.heap[b]? := fun b tg o n => hc.block b (h.lt b tg o) (fun e => by
    rw [e, h.o2] at o
    exact n (Option.some.inj o).symm)
  refine ⟨⟨h.tb.keep (hk _ _ h.o1 (by simp)), hm.congr (fun z => ?_), h.pm.keep (hk _ _ h.o3 (by simp)), fun z p hz => ?_, fun z p hz => ?_, h.o1, h.o2, h.o3, fun b tg o => Nat.lt_of_lt_of_le (h.lt b tg o) hc.size⟩, ⟨hc.mono (fun b e => by rw [e, h.o2]; simp), fun _ _ o => o, fun _ _ o => .inl o⟩⟩
  · by_cases e : z = x
    · subst e; simp [Gs.delPt, upd_same]
    · simp [Gs.delPt, upd_other e]
  · by_cases e : z = x
    · subst e; simp [Gs.delPt, upd_same] at hz
    · replace hz : upd s.lv x none z = some p := hz
      rw [upd_other e] at hz
      exact (h.pt z p hz).keep (fun b o => by rcases o with o | o | o <;> exact hk _ _ o (by simp))
  · exact (h.pl z p hz).keep (fun b o => by rcases o with o | o | o <;> exact hk _ _ o (by simp))
theorem app_rows3 (w : World) (lo lo2 : Nat) (u v : Value) (ys zs : List Int) (hu : w.ownsRow lo 3 1 u ys.length (ys.map fun z => I z)) (hv : w.ownsRow lo2 3 1 v zs.length (zs.map fun z => I z)) (hl : ys.length + zs.length < 4100000000000) (hlo : lo ≤ w.heap.size) :
    ∃ v' w', (Builtin.append_ #[46, 46] 46 #[u, v]).run Tryz.prog w = .ok v' w' ∧ w'.ownsRow lo 3 1 v' (ys ++ zs).length ((ys ++ zs).map fun z => I z) ∧ w.grownBy w' u.ownBlock ∧ (v'.ownBlock = u.ownBlock ∨ v'.ownBlock = some w.heap.size) := by
  obtain ⟨i0, hi, hz0, hz1, hz2⟩ := info_parts (show (Tryz.prog.info? 3).map (fun i => (i.zero, i.size, i.bytes)) = some (some (.int .i64 0), 1, 8) from by kernel_rfl)
  have hmx : (4100000000000 : Nat) ≤ maxLen := of_decide_eq_true (by kernel_rfl)
  rcases hv.2 with ⟨rfl, h0⟩ | ⟨g, cap, cur, rfl, -⟩
  · have hz : zs = [] := List.eq_nil_of_length_eq_zero h0
    subst hz
    rw [List.append_nil]
    exact ⟨u, w, run_append_owned_none w lo 46 46 3 i0 1 Tryz.underlying46 hi u _ _ hu, hu, ⟨rfl, rfl, rfl, Nat.le_refl _, fun _ _ _ => rfl⟩, .inl rfl⟩
  · obtain ⟨v', w9, q1, q2, q3, -, q5⟩ := run_append_own_at (P := Tryz.prog) (w := w) lo 46 46 3 i0 _ 1 8 Tryz.underlying46 hi hz0 hz1 hz2 rfl (by decide) u _ _ hu ⟨g, 0, none⟩ zs.length cap (zs.map fun z => I z) (by simp) (fun j u hj => by
      have hjl : j < zs.length := by
        have := (List.getElem?_eq_some_iff.1 hj).1
        simpa using this
      have := hv.cellAt j (by omega)
      rw [hj] at this
      rw [Addr.add_mid, Nat.zero_add]; exact this) (fun u hu => by
      obtain ⟨z, -, e⟩ := List.mem_map.1 hu
      rw [← e]; rfl) (by omega) (by omega) hlo
    refine ⟨v', w9, q1, ?_, q3, q5⟩
    rw [List.length_append, List.map_append]
    exact q2
theorem ms_end {N n : Nat} (h : n < N) : N - ((n : Int) + 1).toNat < N - (n : Int).toNat := by omega
theorem own_apart {w : World} {a b k k' m n : Nat} {u v : Value} {xs ys : List Value} {e e' : TypeId} (hu : w.ownsRow a e k u m xs) (hv : w.ownsRow b e' k' v n ys) (hne : e ≠ e') : ∀ c, u.ownBlock = some c → ¬ v.ownBlock = some c := fun c h1 h2 => by
  rcases hu.2 with ⟨rfl, -⟩ | ⟨g, cap, cur, rfl, -, hg, -⟩
  · cases h1
  rcases hv.2 with ⟨rfl, -⟩ | ⟨g', cap', cur', rfl, -, hg', -⟩
  · cases h2
  have e1 : g = c := by simpa [Value.ownBlock] using h1
  have e2 : g' = c := by simpa [Value.ownBlock] using h2
  rw [e1] at hg
  rw [e2, hg] at hg'
  cases hg'
  exact hne rfl
theorem row_form {w : World} {lo e k n : Nat} {v : Value} {xs : List Value} (h : w.ownsRow lo e k v n xs) : ∃ a c, v = .slice a n c := by
  rcases h.2 with ⟨rfl, rfl⟩ | ⟨g, cap, cur, rfl, -⟩
  · exact ⟨_, _, rfl⟩
  · exact ⟨_, _, rfl⟩
/-- What must be known of an End ahead of it: what is left when the places are gone through, one by one. -/
def EndOk (t : Nat) (x : Int) (s0 : Gs) (rs : List Rs) (RS : Gs → List Int → Prop) : Prop := ∃ Inv : Nat → Gs → List Int → Prop, Inv 0 s0 [] ∧ (∀ s' out, Inv rs.length s' out → RS s' out) ∧
  ∀ n r s' out, rs[n]? = some r → Inv n s' out → r.ok ∧ ∃ (q : Pl) (LS : Gs → Prop), s'.pl r = some q ∧
    (∀ W, TT W t s' → Calls Tryz.prog 36 #[ptr q.blk, I x] W fun e w' => e = .returned (.tuple #[]) ∧ ∃ s5, LS s5 ∧ s5.lb = s'.lb ∧ s5.pb = s'.pb ∧ (∃ q5, s5.pl r = some q5 ∧ q5.blk = q.blk) ∧ TT w' t s5 ∧ Ext W w' s' s5) ∧
    ∀ s5, LS s5 → ∀ w3, TT w3 t s5 → Tb w3 → Calls Tryz.prog 37 #[ptr t, r.v] w3 fun e w' => ∃ u zs s6, e = .returned u ∧ out.length + zs.length < 4100000000000 ∧ w'.ownsRow w3.heap.size 3 1 u zs.length (zs.map fun z => I z) ∧ TT w' t s6 ∧ Ext w3 w' s5 s6 ∧ Inv (n + 1) s6 (out ++ zs)
set_option maxRecDepth 100000 in
set_option maxHeartbeats 1000000 in
theorem End_gen (t : Nat) (s : Gs) (x : Int) (p : Pt) (w : World) (RS : Gs → List Int → Prop) (h : TT w t s) (ht : Tb w) (hgl : s.own 1 = none ∧ s.own 0 = none) (hx : R64 x) (hp : s.lv x = some p) (L : List Rs) (hL : ∀ r, p.hf r ≠ 0 → r ∈ L ∧ r.ok) (hl : L.length < 4099999999999) (hat : p.at_.ok)
    (KI : ∀ rs : List Rs, rs.Nodup → (∀ r, r ∈ rs ↔ p.hf r ≠ 0 ∨ (p.goal ≠ 0 ∧ r = p.at_)) → rs.Pairwise rLt → EndOk t x (s.delPt x) rs RS) :
    Calls Tryz.prog 19 #[ptr t, I x] w fun e w' => ∃ u out s', e = .returned (.tuple #[u, .slice none 0 0, I 0]) ∧ w'.ownsRow w.heap.size 3 1 u out.length (out.map fun z => I z) ∧ TT w' t s' ∧ Ext w w' s s' ∧ RS s' out := by
  have KP := hide (partyOf_any t s x w h hx)
  rw [hp] at KP
  simp only [ptv, Option.isSome_some, if_true] at KP
  obtain ⟨w1, hrun1, hm1, hc1, hs1⟩ := h.lm.del kyI Tryz.underlying58 (kyI_ok.2 hx) 0
  obtain ⟨hT1, hE1⟩ := h.delPt hm1 hc1
  have hpo := h.pt x p hp
  have hK1 := places_any p w1 (hpo.blk.keep (hc1.block _ hpo.blk.lt (fun e => h.ne hpo.t1 h.o2 (by simp) e))) (hpo.hm.keep (hc1.block _ (h.lt _ _ hpo.t2) (fun e => h.ne hpo.t2 h.o2 (by simp) e))) L hL hl hat
  have hct := h.tb.cell
  have KPl := hide hK1; have HT := hide h; have HTB := hide ht; have HGL := hide hgl; have HX := hide hx; have HKI := hide KI; have HT1 := hide hT1; have HE1 := hide hE1
  have HLL := hide hl
  have HLp := hide hL
  clear h ht hgl hx hp KI hT1 hE1 hpo hK1 hm1 hc1 hs1 hL hl hat
  go_enter Tryz.func19, Tryz.ntmps19
  go_wp2_with (first | (go_at_call 29; refine KP.out.mono ?_; rintro e w' ⟨rfl, hw'⟩; have hw2 := hw'.symm; subst hw2; clear hw') | (go_at_call 35; refine KPl.out.mono ?_; rintro e W ⟨vp, rs, rfl, hrow, hnd, hmem, hpw, hgW⟩; obtain ⟨va, vc, hvp⟩ := row_form hrow; subst hvp) | fail)
  obtain ⟨Inv, h0, hfin, hstep⟩ := HKI.out rs hnd hmem hpw
  have HLEN : Hid (rs.length < 4100000000001) := by
    have h1 := nodup_len rs (p.at_ :: L) hnd (fun a ha => by
      rcases (hmem a).1 ha with hh | hh
      · exact List.mem_cons_of_mem _ (HLp.out a hh).1
      · rw [hh.2]; exact List.mem_cons_self ..)
    have h2 := HLL.out
    simp only [List.length_cons] at h1
    show rs.length < _
    omega
  obtain ⟨vp, hvp⟩ : ∃ vp, vp = Value.slice va rs.length vc := ⟨_, rfl⟩
  have HVP := hide hvp
  rw [← hvp] at hrow
  have HROW := hide hrow
  have HGW := hide hgW
  have HI0 := hide h0
  have HFIN := hide hfin
  have HST := hide hstep
  clear hrow hgW hct hrun1 h0 hfin hstep hnd hmem hpw hvp
  go_loopw [9, 29, 11] (fun g i _ wr => ∃ (n : Nat) (s' : Gs) (out : List Int), n ≤ rs.length ∧ i = I (n : Int) ∧ Inv n s' out ∧ wr.ownsRow w.heap.size 3 1 g out.length (out.map fun z => I z) ∧ (∀ b, g.ownBlock = some b → s'.own b = none) ∧ wr.ownsRow w1.heap.size 24 3 vp rs.length (rc rs) ∧ (∀ b, vp.ownBlock = some b → s'.own b = none) ∧ TT wr t s' ∧ Ext w wr s s') (fun _ i _ _ => rs.length - (RowKit.intOf i).toNat)
  case atStart =>
    refine ⟨0, s.delPt x, [], Nat.zero_le _, rfl, HI0.out, ⟨rfl, .inl ⟨rfl, rfl⟩⟩, (fun b hb => by cases hb), HROW.out, (fun b hb => ?_), HT1.out.G HGW.out, HE1.out.G HGW.out⟩
    have h1 := World.ownsRow.lt HROW.out b hb
    cases e : (s.delPt x).own b with
    | none => rfl
    | some tg => have := HT1.out.lt b tg e; omega
  case round =>
    obtain ⟨n, s', out, hnr, rfl, hinv, hg, hgo, hvr, hvo, hT, hE⟩ := hrel
    by_cases hlt : n < rs.length
    · obtain ⟨r, hr⟩ : ∃ r, rs[n]? = some r := ⟨_, List.getElem?_eq_getElem hlt⟩
      obtain ⟨hro, q, LS, hq, hle, hse⟩ := HST.out n r s' out hr hinv
      have hnI : (n : Int) < (rs.length : Int) := by omega
      have hwn : wrap64 ((n : Int) + 1) = (n : Int) + 1 := by have := HLEN.out; unfold wrap64; omega
      have HWN := hide hwn
      have hcel : ∃ ga, va = some ⟨ga, 0, none⟩ ∧ wr.cell? ⟨ga, n * 3, none⟩ = some (I r.lv) ∧ wr.cell? ⟨ga, n * 3 + 1, none⟩ = some (.string r.lb) ∧ wr.cell? ⟨ga, n * 3 + 2, none⟩ = some (I r.id) := by
        have h2 := hvr
        rw [HVP.out] at h2
        rcases h2.2 with ⟨e, e2⟩ | ⟨ga, cap, cur, e, -⟩
        · omega
        · have e3 : va = some ⟨ga, 0, none⟩ := by cases e; rfl
          rw [e] at h2
          refine ⟨ga, e3, ?_, ?_, ?_⟩
          · rw [h2.cellAt _ (by omega)]; exact rc_at rs n r hr 0 _ rfl
          · rw [h2.cellAt _ (by omega)]; exact rc_at rs n r hr 1 _ rfl
          · rw [h2.cellAt _ (by omega)]; exact rc_at rs n r hr 2 _ rfl
      obtain ⟨ga, hva, hr0, hr1, hr2⟩ := hcel
      subst hva
      have gA : G wr (wr.alloc (.cells #[I r.lv, .string r.lb, I r.id] 24)) := (G.refl wr).alloc _
      have hTA := hT.G gA.drew
      have hlk := hTA.pm.look kyR Tryz.underlying59 (Tryz.zeroValue76 _) (kyR_ok.2 hro)
      rw [hq] at hlk
      have hS9 : (fun V => (∀ o, V.cell? ⟨t, o, none⟩ = ([.map (some s'.lb), .map (some s'.pb)] : List Value)[o]?) ∧ (∀ o, V.cell? ⟨wr.heap.size, o, none⟩ = ([I r.lv, .string r.lb, I r.id] : List Value)[o]?) ∧ (Instr.lookup 59 (.map (some s'.pb)) (.agg #[I r.lv, .string r.lb, I r.id]) false).run Tryz.prog V = .ok (ptr q.blk) V) (wr.alloc (.cells #[I r.lv, .string r.lb, I r.id] 24)).drew := ⟨hTA.tb.cell, ((Blk.new wr [I r.lv, .string r.lb, I r.id] 24).drew).cell, hlk⟩
      have HS9 := hide hS9
      have KL := hide (hle _ hTA)
      have HA := hide gA
      have HBX := hide ((Blk.new wr [I r.lv, .string r.lb, I r.id] 24).drew)
      have HZ3 : Hid (¬ (s'.own wr.heap.size ≠ none)) := fun hn => by
        cases e : s'.own wr.heap.size with
        | none => exact hn e
        | some tg => have := hT.lt _ _ e; omega
      have HRO := hide hro; have HR := hide hr; have HG := hide hg; have HGO := hide hgo; have HVR := hide hvr; have HVO := hide hvo; have HTT := hide hT; have HE := hide hE; have HSE := hide hse; have HLT := hide hlt
      clear gA hTA hlk hS9 hro hr hg hgo hvr hvo hT hE hse hle hinv hq hlt hnr hwn
      go_wp2_with fail
      refine wp_region_noPanic ?_
      refine wp_region_held_drew (S := (fun V => (∀ o, V.cell? ⟨t, o, none⟩ = ([.map (some s'.lb), .map (some s'.pb)] : List Value)[o]?) ∧ (∀ o, V.cell? ⟨wr.heap.size, o, none⟩ = ([I r.lv, .string r.lb, I r.id] : List Value)[o]?) ∧ (Instr.lookup 59 (.map (some s'.pb)) (.agg #[I r.lv, .string r.lb, I r.id]) false).run Tryz.prog V = .ok (ptr q.blk) V)) (by kernel_rfl) (HS9.out) (fun hHeld => ?_)
      refine wpAnyH_take (i := 0) (v := ?_) rfl (by kernel_rfl) (by kernel_rfl) (by kernel_rfl) (fun _ _ _ h => h) (Or.inl ⟨by rfl, ?_⟩) hHeld ?_
      rotate_left 1
      · (intro w hSw; obtain ⟨q1, q2, q3⟩ := hSw; go_simp; try with_reducible rfl)
      try simp only [Act.put, List.getElem_toArray, List.getElem_cons_zero, List.setIfInBounds_toArray, List.set_cons_zero, List.set_cons_succ]
      refine wpAnyH_take (i := 1) (v := ?_) rfl (by kernel_rfl) (by kernel_rfl) (by kernel_rfl) (fun _ _ _ h => h) (Or.inl ⟨by rfl, ?_⟩) hHeld ?_
      rotate_left 1
      · (intro w hSw; obtain ⟨q1, q2, q3⟩ := hSw; go_simp; try with_reducible rfl)
      try simp only [Act.put, List.getElem_toArray, List.getElem_cons_zero, List.getElem_cons_succ, List.setIfInBounds_toArray, List.set_cons_zero, List.set_cons_succ]
      refine wpAnyH_take (i := 2) (v := ?_) rfl (by kernel_rfl) (by kernel_rfl) (by kernel_rfl) (fun _ _ _ h => h) (Or.inl ⟨by rfl, ?_⟩) hHeld ?_
      rotate_left 1
      · (intro w hSw; obtain ⟨q1, q2, q3⟩ := hSw; go_simp; try with_reducible rfl)
      try simp only [Act.put, List.getElem_toArray, List.getElem_cons_zero, List.getElem_cons_succ, List.setIfInBounds_toArray, List.set_cons_zero, List.set_cons_succ]
      refine wpAnyH_take (i := 3) (v := ?_) rfl (by kernel_rfl) (by kernel_rfl) (by kernel_rfl) (fun _ _ _ h => h) (Or.inl ⟨by rfl, ?_⟩) hHeld ?_
      rotate_left 1
      · (intro w hSw; obtain ⟨q1, q2, q3⟩ := hSw; go_simp; try with_reducible rfl)
      try simp only [Act.put, List.getElem_toArray, List.getElem_cons_zero, List.getElem_cons_succ, List.setIfInBounds_toArray, List.set_cons_zero, List.set_cons_succ]
      refine wpAnyH_take (i := 4) (v := ?_) rfl (by kernel_rfl) (by kernel_rfl) (by kernel_rfl) (fun _ _ _ h => h) (Or.inl ⟨by rfl, ?_⟩) hHeld ?_
      rotate_left 1
      · (intro w hSw; obtain ⟨q1, q2, q3⟩ := hSw; go_simp; try with_reducible rfl)
      try simp only [Act.put, List.getElem_toArray, List.getElem_cons_zero, List.getElem_cons_succ, List.setIfInBounds_toArray, List.set_cons_zero, List.set_cons_succ]
      refine wpAnyH_take (i := 5) (v := ?_) rfl (by kernel_rfl) (by kernel_rfl) (by kernel_rfl) (fun _ _ _ h => h) (Or.inl ⟨by rfl, ?_⟩) hHeld ?_
      rotate_left 1
      · (intro w hSw; obtain ⟨q1, q2, q3⟩ := hSw; go_simp; try with_reducible rfl)
      try simp only [Act.put, List.getElem_toArray, List.getElem_cons_zero, List.getElem_cons_succ, List.setIfInBounds_toArray, List.set_cons_zero, List.set_cons_succ]
      refine wpAnyH_take (i := 6) (v := ?_) rfl (by kernel_rfl) (by kernel_rfl) (by kernel_rfl) (fun _ _ _ h => h) (Or.inl ⟨by rfl, ?_⟩) hHeld ?_
      rotate_left 1
      · (intro w hSw; obtain ⟨q1, q2, q3⟩ := hSw; go_simp; try with_reducible rfl)
      try simp only [Act.put, List.getElem_toArray, List.getElem_cons_zero, List.getElem_cons_succ, List.setIfInBounds_toArray, List.set_cons_zero, List.set_cons_succ]
      refine wpAnyH_ready (rs := [7]) (by kernel_rfl) (by simp) (AllReadyH.cons rfl (fun K hK => ?_) AllReadyH.nil)
      clear hHeld
      go_simp
      with_reducible refine (KL.out).mono ?_
      rintro e w5 ⟨rfl, s5, hls, hbb, hsb, hpq, hT5, hE5⟩
      have HC5 := hide (HBX.out.chg hE5.chg HZ3.out).cell
      have hl5 := hT5.pm.look kyR Tryz.underlying59 (Tryz.zeroValue76 _) (kyR_ok.2 HRO.out)
      obtain ⟨q5, hq5, hq5b⟩ := hpq
      rw [hq5] at hl5
      simp only [Option.map_some, Option.getD_some] at hl5
      rw [hq5b] at hl5
      have htb5 := hT5.tb.cell
      rw [hbb, hsb] at htb5
      rw [hsb] at hl5
      have HTC5 := hide htb5
      have HL5 := hide hl5
      have HT5 := hide hT5
      have HE5 := hide hE5
      have HLS := hide hls
      clear hl5 hq5 hq5b hT5 hE5 hls hbb hsb htb5
      go_wp2_with fail
      refine hK.out _ _ (⟨HTC5.out, HC5.out, HL5.out⟩) (fun hHeld => ?_)
      clear hK K
      try simp only [Act.put, List.getElem_toArray, List.getElem_cons_zero, List.getElem_cons_succ, List.setIfInBounds_toArray, List.set_cons_zero, List.set_cons_succ]
      refine wpAnyH_done (by kernel_rfl) ?_ _
      refine NoPanic.normal ?_
      have hE5' : Ext w w5 s s5 := (HE.out.G HA.out.drew).trans HE5.out
      have hTb5 := HTB.out.ext hE5' HGL.out
      have c5 := HC5.out
      have KS5 := hide ((HSE.out s5 HLS.out w5 HT5.out hTb5).mono (fun e w6 h6 => show ∃ u zs s6 v7 w7, e = .returned u ∧ Hid ((Builtin.append_ #[46, 46] 46 #[u9, u]).run Tryz.prog w6 = .ok v7 w7) ∧ Hid (w7.ownsRow w.heap.size 3 1 v7 (out ++ zs).length ((out ++ zs).map fun z => I z)) ∧ Hid (∀ b, v7.ownBlock = some b → s6.own b = none) ∧ Hid (w7.ownsRow w1.heap.size 24 3 vp rs.length (rc rs)) ∧ Hid (∀ b, vp.ownBlock = some b → s6.own b = none) ∧ Hid (TT w7 t s6) ∧ Hid (Ext w w7 s s6) ∧ Hid (Inv (n + 1) s6 (out ++ zs)) from by
        obtain ⟨u, zs, s6, rfl, hol, hrow6, hT6, hE6, hI6⟩ := h6
        have hE6' := hE5'.trans hE6
        have hEE := HE5.out.trans hE6
        have hgl9 := HA.out.drew
        have f1 : ∀ b, u9.ownBlock = some b → s6.own b = none := fun b hb => hEE.free (Nat.lt_of_lt_of_le (World.ownsRow.lt HG.out b hb).2 hgl9.size) (HGO.out b hb)
        have f2 : ∀ b, vp.ownBlock = some b → s6.own b = none := fun b hb => hEE.free (Nat.lt_of_lt_of_le (World.ownsRow.lt HVR.out b hb).2 hgl9.size) (HVO.out b hb)
        have hg6 := own_ext (own_G HG.out hgl9) hEE HGO.out
        have hv6 := own_ext (own_G HVR.out hgl9) hEE HVO.out
        obtain ⟨v7, w7, r1, r2, r3, r4⟩ := app_rows3 w6 w.heap.size w5.heap.size u9 u out zs hg6 hrow6 hol hE6'.chg.size
        have hcg : Chg (fun k => u9.ownBlock = some k) w6 w7 := ⟨r3.os, r3.tape, r3.output, r3.size, fun k hk hn => r3.block k hk (fun e => hn e.symm)⟩
        refine ⟨u, zs, s6, v7, w7, rfl, r1, r2, fun b hb => ?_, own_chg hv6 hcg (fun b hb e => own_apart hg6 hv6 (by decide) b e hb), f2, hT6.chg hcg f1, ?_, hI6⟩
        · rcases r4 with e | e
          · exact f1 b (by rw [← e]; exact hb)
          · have e2 : b = w6.heap.size := by rw [hb] at e; exact Option.some.inj e
            cases e3 : s6.own b with
            | none => rfl
            | some tg => have := hT6.lt b tg e3; omega
        · exact ⟨⟨hcg.os.trans hE6'.chg.os, hcg.tape.trans hE6'.chg.tape, hcg.output.trans hE6'.chg.output, Nat.le_trans hE6'.chg.size hcg.size, fun b hb hn => (hcg.block b (Nat.lt_of_lt_of_le hb hE6'.chg.size) (fun e => by have := (World.ownsRow.lt HG.out b e).1; omega)).trans (hE6'.chg.block b hb hn)⟩, hE6'.old, hE6'.new⟩))
      simp only [Rs.v] at KS5
      clear hE5' hTb5 hr0 hr1 hr2
      go_wp2_with (first | (go_at_call 37; with_reducible refine (KS5.out).mono ?_; rintro e w6 ⟨u, zs, s6, v7, w7, rfl, HR1, HR2, HF7, HV7, HW7, HT7, HE7, HI7⟩) | (at_builtin; refine wpList_append_run rfl _ _ 46 rfl _ _ rfl rfl HR1.out ?_) | fail)
      exact ⟨⟨n + 1, s6, out ++ zs, HLT.out, by rw [HWN.out]; exact rl1 n, HI7.out, HR2.out, HF7.out, HV7.out, HW7.out, HT7.out, HE7.out⟩, by rw [HWN.out]; exact ms_end HLT.out⟩
    · have hne : n = rs.length := by omega
      subst hne
      have HROW2 := hide hg; have HT2 := hide hT; have HE2 := hide hE; have HR2 := hide (HFIN.out s' out hinv)
      have hnI : ¬ ((rs.length : Int) < (rs.length : Int)) := by omega
      clear hg hT hE hinv hgo hvr hvo hnr hlt
      go_wp2
      go_ret3
      first
        | exact ⟨u9, out, s', rfl, HROW2.out, HT2.out, HE2.out, HR2.out⟩
        | exact ⟨u9, rfl, out, HROW2.out, s', HT2.out, HE2.out, HR2.out⟩
        | exact ⟨u9, rfl, out, s', HROW2.out, HT2.out, HE2.out, HR2.out⟩
        | fail
end Go.Proofs.YtkbgifhhnnfgoaaGreatDoor
