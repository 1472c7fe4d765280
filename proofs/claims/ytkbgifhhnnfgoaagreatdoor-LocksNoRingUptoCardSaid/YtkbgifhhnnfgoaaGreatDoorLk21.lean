/- Locks: ask, where the asker holds nothing there. -/
import Derived.Test.YtkbgifhhnnfgoaaGreatDoorLk20
namespace Go.Proofs.YtkbgifhhnnfgoaaGreatDoor
open Go.RowKit

theorem hitsL_nil (s : Gs) (qm : Int) (p : Pt) : hitsL s qm p [] = p := rfl
theorem outL_nil (s : Gs) (qm x : Int) (p : Pt) : outL s qm x p [] = [] := by simp [outL]
theorem own_nil_form {w : World} {lo : Nat} {u : Value} (h : w.ownsRow lo 3 1 u ([] : List Int).length (([] : List Int).map fun z => I z)) : ∃ a c, u = .slice a 0 c := by
  rcases h.2 with ⟨e, -⟩ | ⟨g, cap, cur, e, -⟩
  · exact ⟨_, _, e⟩
  · exact ⟨_, _, e⟩
theorem Gs.setPt_same {s : Gs} {x : Int} {p : Pt} (h : s.lv x = some p) : s.setPt x p = s := by
  have e : upd s.lv x (some p) = s.lv := funext fun z => by
    unfold upd
    split
    · rename_i e; rw [e, h]
    · rfl
  unfold Gs.setPt
  rw [e]
/-- A place has turned, and owns more. -/
theorem TT.setPlM {w w' : World} {t : Nat} {s : Gs} {r : Rs} {q q' : Pl} {own' : Nat → Option Tg} (h : TT w t s) (hq : s.pl r = some q) (eb : q'.blk = q.blk) (ho : ∀ b tg, s.own b = some tg → own' b = some tg) (hn : ∀ b tg, own' b = some tg → s.own b = some tg ∨ (w.heap.size ≤ b ∧ b < w'.heap.size)) (hc : Chg (fun k => s.own k = some (.pl r) ∨ s.own k = some (.lh r) ∨ s.own k = some (.qu r)) w w') (hok : PlOk w' own' r q') :
    TT w' t { s with pl := upd s.pl r (some q'), own := own' } ∧ Ext w w' s { s with pl := upd s.pl r (some q'), own := own' } := by
  have hk : ∀ b tg, s.own b = some tg → tg ≠ .pl r → tg ≠ .lh r → tg ≠ .qu r → w'.heap[b]? = w.heap[b]? := fun b tg o n1 n2 n3 => hc.block b (h.lt b tg o) (fun f => by
    rcases f with f | f | f <;> rw [o] at f <;> cases f
    · exact n1 rfl
    · exact n2 rfl
    · exact n3 rfl)
  refine ⟨⟨h.tb.keep (hk _ _ h.o1 (by simp) (by simp) (by simp)), h.lm.keep (hk _ _ h.o2 (by simp) (by simp) (by simp)), (h.pm.keep (hk _ _ h.o3 (by simp) (by simp) (by simp))).congr (fun z => ?_), fun z p hz => ?_, fun z p hz => ?_, ho _ _ h.o1, ho _ _ h.o2, ho _ _ h.o3, fun b tg o => ?_⟩, ⟨hc.mono (fun b e => by rcases e with e | e | e <;> rw [e] <;> simp), ho, fun b tg o => (hn b tg o).imp_right (·.1)⟩⟩
  · by_cases e : z = r
    · subst e; simp [upd_same, hq, eb]
    · simp [upd_other e]
  · exact ((h.pt z p hz).keep (fun b o => by rcases o with o | o | o <;> exact hk _ _ o (by simp) (by simp) (by simp))).more ho
  · by_cases e : z = r
    · subst e
      simp only [upd_same, Option.some.injEq] at hz
      subst hz
      exact hok
    · replace hz : upd s.pl r _ z = some p := hz
      rw [upd_other e] at hz
      exact ((h.pl z p hz).keep (fun b o => by rcases o with o | o | o <;> exact hk _ _ o (by simp [e]) (by simp [e]) (by simp [e]))).more ho
  · rcases hn b tg o with o | o
    · exact Nat.lt_of_lt_of_le (h.lt b tg o) hc.size
    · exact o.2
/-- A queue has turned, in its block or into a new one. -/
theorem TT.queue {w w6 : World} {t : Nat} {s : Gs} {r : Rs} {q : Pl} {v' : Value} {qs' : List (Int × Int)} (h : TT w t s) (hq : s.pl r = some q) (hQ : QSl w6 v' qs') (hC : Chg (fun k => q.q.ownBlock = some k) w w6) (hob : v'.ownBlock = q.q.ownBlock ∨ v'.ownBlock = some w.heap.size) :
    ∃ s', s'.lv = s.lv ∧ s'.pl = upd s.pl r (some { q with q := v', qs := qs' }) ∧ TT (w6.setCell ⟨q.blk, 1, none⟩ v') t s' ∧ Ext w (w6.setCell ⟨q.blk, 1, none⟩ v') s s' := by
  have ho := h.pl r q hq
  have hltb := h.lt _ _ ho.t1
  have hc2 := chgk w6 q.blk 1 v'
  have hc : Chg (fun k => s.own k = some (.pl r) ∨ s.own k = some (.lh r) ∨ s.own k = some (.qu r)) w (w6.setCell ⟨q.blk, 1, none⟩ v') := (hC.mono (fun k e => .inr (.inr (ho.t3 k e)))).trans (hc2.mono (fun k e => by rw [e]; exact .inl ho.t1))
  have hqlt : ∀ b, v'.ownBlock = some b → b < w6.heap.size := fun b hb => by
    rcases hQ with ⟨e, -⟩ | ⟨g, cap, rest, e, hg, -⟩
    · rw [e] at hb; simp [Value.ownBlock] at hb
    · rw [e] at hb
      have e3 : g = b := by simpa [Value.ownBlock] using hb
      rw [← e3]; exact hg.lt
  have hsz : (w6.setCell ⟨q.blk, 1, none⟩ v').heap.size = w6.heap.size := World.size_setCell _ _ _
  have hb6 : Blk (w6.setCell ⟨q.blk, 1, none⟩ v') q.blk 105 [.map (some q.hb), v'] := (ho.blk.chg hC (fun e => (ho.ne.2 _ e).1 rfl)).set 1 v'
  have hm6 : Mp (fun n : Int => I n) 3 (w6.setCell ⟨q.blk, 1, none⟩ v') q.hb (fun x => nz (q.hf x)) := (ho.hm.chg hC (fun e => (ho.ne.2 _ e).2 rfl)).chg hc2 (Ne.symm ho.ne.1)
  have hQ6 : v'.ownBlock ≠ some q.blk → QSl (w6.setCell ⟨q.blk, 1, none⟩ v') v' qs' := fun hn => hQ.keep (fun b e => hc2.block b (hqlt b e) (fun e2 => hn (by rw [e, e2])))
  rcases hob with e | e
  · obtain ⟨T, E⟩ := h.setPlM (q' := { q with q := v', qs := qs' }) (own' := s.own) hq rfl (fun _ _ o => o) (fun _ _ o => .inl o) hc ⟨hb6, hm6, hQ6 (by rw [e]; exact fun e => (ho.ne.2 _ e).1 rfl), ho.t1, ho.t2, fun b hb => ho.t3 b (by rw [← e]; exact hb)⟩
    refine ⟨_, ?_, ?_, T, E⟩ <;> rfl
  · have hnew : s.own w.heap.size = none := by
      cases e2 : s.own w.heap.size with
      | none => rfl
      | some tg => have := h.lt _ _ e2; omega
    have hkeep : ∀ b tg, s.own b = some tg → upd s.own w.heap.size (some (Tg.qu r)) b = some tg := fun b tg o => by
      rw [upd_other (fun e2 => by rw [e2, hnew] at o; cases o)]; exact o
    obtain ⟨T, E⟩ := h.setPlM (q' := { q with q := v', qs := qs' }) (own' := upd s.own w.heap.size (some (.qu r))) hq rfl hkeep (fun b tg o => by
      by_cases e2 : b = w.heap.size
      · refine .inr ⟨by omega, ?_⟩
        rw [hsz, e2]
        exact hqlt _ e
      · rw [upd_other e2] at o; exact .inl o) hc ⟨hb6, hm6, hQ6 (by rw [e]; intro e2; have := Option.some.inj e2; omega), hkeep _ _ ho.t1, hkeep _ _ ho.t2, fun b hb => by
        have e3 : w.heap.size = b := by
          have hb' : v'.ownBlock = some b := hb
          rw [e] at hb'
          exact Option.some.inj hb'
        rw [← e3, upd_same]⟩
    refine ⟨_, ?_, ?_, T, E⟩ <;> rfl
theorem Ext.free {w w' : World} {s s' : Gs} {b : Nat} (h : Ext w w' s s') (hb : b < w.heap.size) (hn : s.own b = none) : s'.own b = none := by
  cases e : s'.own b with
  | none => rfl
  | some tg =>
    rcases h.new b tg e with e2 | e2
    · rw [hn] at e2; cases e2
    · omega
theorem inW_snoc {hf : Int → Int} {qs : List (Int × Int)} {l : List (Int × Int)} {x m y : Int} : inW hf (qs ++ l) x m qs.length y ↔ inW hf qs x m qs.length y := by
  unfold inW inW2
  constructor
  · rintro (h | ⟨i, g, hi, h, h2⟩)
    · exact .inl h
    · exact .inr ⟨i, g, hi, by rw [List.getElem?_append_left hi] at h; exact h, h2⟩
  · rintro (h | ⟨i, g, hi, h, h2⟩)
    · exact .inl h
    · exact .inr ⟨i, g, hi, by rw [List.getElem?_append_left hi]; exact h, h2⟩
/-- What comes of those in the way of an asker that waits. -/
def WbD (x : Int) (p : Pt) (s : Gs) (Iw : Int → Prop) (zs : List Int) (s4 : Gs) : Prop := (p.hurt = true ∧ zs = [] ∧ s4 = s) ∨ (p.hurt = false ∧ ∃ xs : List Int, (∀ y, y ∈ xs ↔ Iw y) ∧ zs = srt (wbL x p.stamp s xs).2 ∧ s4 = (wbL x p.stamp s xs).1)
theorem wba_post {w w' : World} {t : Nat} {s : Gs} {x : Int} {p : Pt} {Iw : Int → Prop} {N : Nat} {e : Ending} (hT : TT w t s) (hTb : Tb w) (h : (p.hurt = true ∧ e = .returned (.slice none 0 0) ∧ G w w') ∨ (p.hurt = false ∧ ∃ (xs : List Int) (v : Value), (∀ y, y ∈ xs ↔ Iw y) ∧ xs.length ≤ N ∧ e = .returned v ∧ w'.ownsRow w.heap.size 3 1 v (wbL x p.stamp s xs).2.length ((srt (wbL x p.stamp s xs).2).map fun z => I z) ∧ TT w' t (wbL x p.stamp s xs).1 ∧ Ext w w' s (wbL x p.stamp s xs).1 ∧ Tb w')) :
    ∃ v zs s4, e = .returned v ∧ zs.length ≤ N ∧ w'.ownsRow w.heap.size 3 1 v zs.length (zs.map fun z => I z) ∧ TT w' t s4 ∧ Ext w w' s s4 ∧ Tb w' ∧ WbD x p s Iw zs s4 := by
  rcases h with ⟨h1, h2, h3⟩ | ⟨h1, xs, v, h2, hN, h3, h4, h5, h6, h7⟩
  · exact ⟨_, [], s, h2, Nat.zero_le _, ⟨rfl, .inl ⟨rfl, rfl⟩⟩, hT.G h3, G.ext s h3, hTb.G h3, .inl ⟨h1, rfl, rfl⟩⟩
  · exact ⟨v, _, _, h3, by rw [srt_len]; exact Nat.le_trans (wbL_len x p.stamp s xs) hN, by rw [srt_len]; exact h4, h5, h6, h7, .inr ⟨h1, xs, h2, rfl, rfl⟩⟩
theorem own_ext {w w' : World} {s s' : Gs} {b e k n : Nat} {v : Value} {xs : List Value} (h : w.ownsRow b e k v n xs) (hE : Ext w w' s s') (hn : ∀ g, v.ownBlock = some g → s.own g = none) : w'.ownsRow b e k v n xs := own_chg h hE.chg (fun g hg f => f (hn g hg))
theorem app_rows (w : World) (lo lo2 : Nat) (u v : Value) (zs : List Int) (hu : w.ownsRow lo 3 1 u ([] : List Int).length (([] : List Int).map fun z => I z)) (hv : w.ownsRow lo2 3 1 v zs.length (zs.map fun z => I z)) (hl : zs.length < 4100000000000) (hlo : lo ≤ w.heap.size) :
    ∃ v' w', (Builtin.append_ #[46, 46] 46 #[u, v]).run Tryz.prog w = .ok v' w' ∧ w'.ownsRow lo 3 1 v' zs.length (zs.map fun z => I z) ∧ w.grownBy w' u.ownBlock := by
  obtain ⟨i0, hi, hz0, hz1, hz2⟩ := info_parts (show (Tryz.prog.info? 3).map (fun i => (i.zero, i.size, i.bytes)) = some (some (.int .i64 0), 1, 8) from by kernel_rfl)
  have hmx : (4100000000000 : Nat) ≤ maxLen := of_decide_eq_true (by kernel_rfl)
  rcases hv.2 with ⟨rfl, h0⟩ | ⟨g, cap, cur, rfl, -⟩
  · have hz : zs = [] := List.eq_nil_of_length_eq_zero h0
    subst hz
    exact ⟨u, w, run_append_owned_none w lo 46 46 3 i0 1 Tryz.underlying46 hi u _ _ hu, hu, ⟨rfl, rfl, rfl, Nat.le_refl _, fun _ _ _ => rfl⟩⟩
  · obtain ⟨v', w9, q1, q2, q3, -, -⟩ := run_append_own_at (P := Tryz.prog) (w := w) lo 46 46 3 i0 _ 1 8 Tryz.underlying46 hi hz0 hz1 hz2 rfl (by decide) u _ _ hu ⟨g, 0, none⟩ zs.length cap (zs.map fun z => I z) (by simp) (fun j u hj => by
      have hjl : j < zs.length := by
        have := (List.getElem?_eq_some_iff.1 hj).1
        simpa using this
      have := hv.cellAt j (by omega)
      rw [hj] at this
      by_cases hj0 : j = 0
      · subst hj0; simpa [Addr.add] using this
      · simpa [Addr.add, hj0] using this) (fun u hu => by
      obtain ⟨z, -, e⟩ := List.mem_map.1 hu
      rw [← e]; rfl) (by simp; omega) (by simp; omega) hlo
    refine ⟨v', w9, q1, ?_, q3⟩
    have e1 : ([] : List Int).length + zs.length = zs.length := by simp
    rw [e1] at q2
    exact q2
set_option maxRecDepth 100000 in
set_option maxHeartbeats 1000000 in
theorem ask_any (t : Nat) (s : Gs) (x m : Int) (r : Rs) (p : Pt) (w : World) (PP : Gs → Pl → Prop) (h : TT w t s) (ht : Tb w) (hgl : s.own 1 = none ∧ s.own 0 = none) (hx : R64 x) (hp : s.lv x = some p) (hwR : ∀ y, p.wd y = true → R64 y)
    (KP : ∀ wA, TT wA t s → Calls Tryz.prog 50 #[ptr t, r.v] wA fun e w' => ∃ s1 q, e = .returned (ptr q.blk) ∧ TT w' t s1 ∧ s1.pl r = some q ∧ s1.lv = s.lv ∧ Ext wA w' s s1 ∧ PP s1 q)
    (LW : List Int) (hLW : ∀ y, p.wd y = true → y ∈ LW) (hlw : LW.length < maxLen) (Lh : List Int) (hLh : ∀ s1 q, PP s1 q → ∀ z, q.hf z ≠ 0 → z ∈ Lh ∧ R64 z) (hlh : Lh.length < maxLen) (hQL : ∀ s1 q, PP s1 q → q.qs.length < 4100000000000) (LWa : List Int) (hWY : ∀ s1 q, PP s1 q → ∀ y, inW q.hf q.qs x m q.qs.length y → y ≠ x ∧ R64 y ∧ ∃ b, s.lv y = some b ∧ ∀ z, b.wd z = true → R64 z ∧ z ∈ LWa) (hxw : x ∈ LWa) (hlwa : LWa.length < maxLen) (hbig : ∀ s1 q, PP s1 q → Lh.length + q.qs.length + 1 < 4100000000000) (LR : List Rs) (hLR : ∀ z, p.hf z ≠ 0 → z ∈ LR) (hlr : LR.length < maxLen) (hr : r.ok) (hm0 : m ≠ 0)
    (hPP : ∀ s1 q, PP s1 q → q.hf x = 0 ∧ (∀ o ∈ q.qs, R64 o.1) ∧ q.qs.length ≤ maxLen) :
    Calls Tryz.prog 34 #[ptr t, r.v, .agg #[I x, I m]] w fun e w' => ∃ s1 q u, PP s1 q ∧ ((blkB q x m q.qs.length = false ∧ e = .returned (.tuple #[I 1, u]) ∧ (∃ a c, u = .slice a 0 c) ∧ TT w' t ((s1.setPl r (q.hold x m)).setPt x (p.hold r m).rest) ∧ Ext w w' s ((s1.setPl r (q.hold x m)).setPt x (p.hold r m).rest)) ∨ (blkB q x m q.qs.length = true ∧ ∃ (s2 : Gs) (q2 : Pl) (s4 : Gs) (zs : List Int), e = .returned (.tuple #[I 2, u]) ∧ w'.ownsRow w.heap.size 3 1 u zs.length (zs.map fun z => I z) ∧ s2.lv = s.lv ∧ s2.pl = upd s1.pl r (some q2) ∧ q2.hf = q.hf ∧ q2.qs = q.qs ++ [(x, m)] ∧ WbD x { p with at_ := r, goal := m } (s2.setPt x { p with at_ := r, goal := m }) (inW q.hf q.qs x m q.qs.length) zs s4 ∧ TT w' t s4 ∧ Ext w w' s s4)) := by
  have gA : G w ((w.alloc (.cells #[I r.lv, .string r.lb, I r.id] 24)).alloc (.cells #[I x, I m] 74)) := ((G.refl w).alloc _).alloc _
  have k4 := (Blk.new w [I r.lv, .string r.lb, I r.id] 24).G ((G.refl _).alloc (.cells #[I x, I m] 74))
  have k5 := Blk.new (w.alloc (.cells #[I r.lv, .string r.lb, I r.id] 24)) [I x, I m] 74
  rw [World.size_alloc] at k5
  have c4 := k4.cell
  have HK := hide (KP _ (h.G gA))
  have HGA := hide gA
  have HK4 := hide k4
  have HK5 := hide k5
  have HT := hide h; have HTB := hide ht; have HGL := hide hgl; have HX := hide hx; have HP := hide hp; have HWR := hide hwR; have HPP := hide hPP; have HQL := hide hQL; have HWY := hide hWY; have HXW := hide hxw; have HLWA := hide hlwa; have HBIG := hide hbig; have HLW := hide hLW; have HLWL := hide hlw; have HLH := hide hLh; have HLHL := hide hlh; have HLR := hide hLR; have HLRL := hide hlr; have HRO := hide hr; have HM0 := hide hm0
  have HNO : Hid (∀ b, w.heap.size ≤ b → ¬ s.own b ≠ none) := fun b hb hn => by
    cases e : s.own b with
    | none => exact hn e
    | some tg => have := h.lt b tg e; omega
  clear gA k4 k5 h ht hgl hx hp hwR hPP hQL hWY hxw hlwa hbig KP hLW hlw hLh hlh hLR hlr hr hm0
  simp only [Rs.v] at HK ⊢
  go_enter Tryz.func34, Tryz.ntmps34
  go_wp2_with fail
  generalize (w.alloc (.cells #[I r.lv, .string r.lb, I r.id] 24)).alloc (.cells #[I x, I m] 74) = wA at *
  go_wp2_with (first
    | (go_at_call 50
       with_reducible refine (HK.out).mono ?_
       rintro e w1 ⟨s1, q, rfl, hT1, hq1, hl1, hE1, hPq⟩
       have HE1 := hide hE1
       have HB4 := hide (HK4.out.chg hE1.chg (HNO.out w.heap.size (Nat.le_refl _)))
       have HB5 := hide (HK5.out.chg hE1.chg (HNO.out (w.heap.size + 1) (by omega)))
       have c5 := HB5.out.cell
       obtain ⟨h0, hq64, hlq⟩ := HPP.out s1 q hPq
       have hpl := hT1.pl r q hq1
       have KT := hide (turn_any q x w1 HX.out hq64 hlq hpl.blk hpl.hm hpl.q)
       have etu : turnN q x = q.qs.length := by unfold turnN; rw [if_pos h0]
       rw [etu] at KT
       have HT1 := hide hT1; have HQ1 := hide hq1; have HL1 := hide hl1; have HPq := hide hPq; have HH0 := hide h0; have HQ64 := hide hq64; have HLQ := hide hlq; have HPL := hide hpl
       clear hT1 hq1 hl1 hPq h0 hq64 hlq hpl hE1 etu c4 HK)
    | (go_at_call 51; with_reducible refine (KT.out).mono ?_; rintro e w2 ⟨rfl, hg2⟩)
    | fail)
  obtain ⟨qa, qcap, hqv, hqn⟩ : ∃ a c, q.q = .slice a q.qs.length c ∧ (a = none → c = 0 ∧ q.qs = []) ∧ q.qs.length ≤ c := by
    rcases HPL.out.q with ⟨e, e2⟩ | ⟨g, cap, rest, e, -, hl, -⟩
    · rw [e2]; exact ⟨none, 0, e, (fun _ => ⟨rfl, rfl⟩), Nat.le_refl _⟩
    · exact ⟨_, cap, e, (fun e => by cases e), by omega⟩
  have HG2 := hide hg2
  have HS3 : Hid ((fun V => (∀ o, V.cell? ⟨w.heap.size + 1, o, none⟩ = ([I x, I m] : List Value)[o]?) ∧ (∀ o, V.cell? ⟨q.blk, o, none⟩ = ([.map (some q.hb), .slice qa q.qs.length qcap] : List Value)[o]?)) w2.drew) := ⟨(HB5.out.G hg2.drew).cell, by
    have := (HPL.out.blk.G hg2.drew).cell
    rw [hqv] at this
    exact this⟩
  clear hg2 c5
  have hqc := hqn.2
  have HQV := hide hqv
  have hp1 : s1.lv x = some p := by rw [HL1.out]; exact HP.out
  have HP1 := hide hp1
  have HNO1 : Hid (∀ b, w.heap.size ≤ b → b < wA.heap.size → ¬ s1.own b ≠ none) := fun b hb hlt hn => by
    cases e : s1.own b with
    | none => exact hn e
    | some tg =>
      rcases HE1.out.new b tg e with e2 | e2
      · exact HNO.out b hb (by rw [e2]; simp)
      · omega
  have hgl1 : s1.own 1 = none ∧ s1.own 0 = none := by
    have hlf := (HTB.out.G HGA.out).lf
    have hlj := (HTB.out.G HGA.out).lj
    constructor
    · cases e : s1.own 1 with
      | none => rfl
      | some tg =>
        rcases HE1.out.new _ tg e with e2 | e2
        · rw [HGL.out.1] at e2; cases e2
        · omega
    · cases e : s1.own 0 with
      | none => rfl
      | some tg =>
        rcases HE1.out.new _ tg e with e2 | e2
        · rw [HGL.out.2] at e2; cases e2
        · omega
  have HTB1 : Hid (Tb w1) := by
    have hA := HTB.out.G HGA.out
    exact hA.keep (HE1.out.chg.block _ hA.lf (fun e => e HGL.out.1)) (HE1.out.chg.block _ hA.lj (fun e => e HGL.out.2)) HE1.out.chg.size
  have HGL1 := hide hgl1
  obtain ⟨ba, hba⟩ : ∃ ba, ba = (if qcap = q.qs.length then qa else Option.map (fun x => x.add (q.qs.length * 2)) qa) := ⟨_, rfl⟩
  have HBA := hide hba
  clear hba
  have KW := hide (wa_any t s1 x m p (.slice ba 0 (qcap - q.qs.length)) [] w2.drew (HT1.out.G HG2.out.drew) (HTB1.out.G HG2.out.drew) hp1 hgl1 HX.out ⟨_, _, rfl, .inl rfl⟩ (Nat.zero_le _) (fun _ h => by cases h) HWR.out LW HLW.out (fun _ h => by cases h) HLWL.out)
  clear hqv hp1 hgl1 hqn
  refine wp_region_noPanic ?_
  refine wp_region_held_drew (S := (fun V => (∀ o, V.cell? ⟨w.heap.size + 1, o, none⟩ = ([I x, I m] : List Value)[o]?) ∧ (∀ o, V.cell? ⟨q.blk, o, none⟩ = ([.map (some q.hb), .slice qa q.qs.length qcap] : List Value)[o]?))) (by kernel_rfl) (HS3.out) (fun hHeld => ?_)
  refine wpAnyH_take (i := 0) (v := ?_) rfl (by kernel_rfl) (by kernel_rfl) (by kernel_rfl) (fun _ _ _ h => h) (Or.inl ⟨by rfl, ?_⟩) hHeld ?_
  rotate_left 1
  · (intro w hSw; obtain ⟨q1, q2⟩ := hSw; go_simp; try with_reducible rfl)
  try simp only [Act.put, List.getElem_toArray, List.getElem_cons_zero, List.setIfInBounds_toArray, List.set_cons_zero, List.set_cons_succ]
  refine wpAnyH_take (i := 1) (v := ?_) rfl (by kernel_rfl) (by kernel_rfl) (by kernel_rfl) (fun _ _ _ h => h) (Or.inl ⟨by rfl, ?_⟩) hHeld ?_
  rotate_left 1
  · (intro w hSw; obtain ⟨q1, q2⟩ := hSw; go_simp; try with_reducible rfl)
  try simp only [Act.put, List.getElem_toArray, List.getElem_cons_zero, List.getElem_cons_succ, List.setIfInBounds_toArray, List.set_cons_zero, List.set_cons_succ]
  refine wpAnyH_take (i := 2) (v := ?_) rfl (by kernel_rfl) (by kernel_rfl) (by kernel_rfl) (fun _ _ _ h => h) (Or.inl ⟨by rfl, ?_⟩) hHeld ?_
  rotate_left 1
  · (intro w hSw; obtain ⟨q1, q2⟩ := hSw; go_simp; try with_reducible rfl)
  try simp only [Act.put, List.getElem_toArray, List.getElem_cons_zero, List.getElem_cons_succ, List.setIfInBounds_toArray, List.set_cons_zero, List.set_cons_succ]
  refine wpAnyH_take (i := 3) (v := ?_) rfl (by kernel_rfl) (by kernel_rfl) (by kernel_rfl) (fun _ _ _ h => h) (Or.inl ⟨by rfl, ?_⟩) hHeld ?_
  rotate_left 1
  · (intro w hSw; obtain ⟨q1, q2⟩ := hSw; go_simp; try with_reducible rfl)
  try simp only [Act.put, List.getElem_toArray, List.getElem_cons_zero, List.getElem_cons_succ, List.setIfInBounds_toArray, List.set_cons_zero, List.set_cons_succ]
  refine wpAnyH_take (i := 4) (v := ?_) rfl (by kernel_rfl) (by kernel_rfl) (by kernel_rfl) (fun _ _ _ h => h) (Or.inl ⟨by rfl, ?_⟩) hHeld ?_
  rotate_left 1
  · (intro w hSw; obtain ⟨q1, q2⟩ := hSw; go_simp; try with_reducible rfl)
  try simp only [Act.put, List.getElem_toArray, List.getElem_cons_zero, List.getElem_cons_succ, List.setIfInBounds_toArray, List.set_cons_zero, List.set_cons_succ]
  refine wpAnyH_take (i := 5) (v := ?_) rfl (by kernel_rfl) (by kernel_rfl) (by kernel_rfl) (fun _ _ _ h => h) (Or.inl ⟨by rfl, ?_⟩) hHeld ?_
  rotate_left 1
  · (intro w hSw; obtain ⟨q1, q2⟩ := hSw; go_simp; try with_reducible rfl)
  try simp only [Act.put, List.getElem_toArray, List.getElem_cons_zero, List.getElem_cons_succ, List.setIfInBounds_toArray, List.set_cons_zero, List.set_cons_succ]
  refine wpAnyH_take (i := 6) (v := ?_) rfl (by kernel_rfl) (by kernel_rfl) (by kernel_rfl) (fun _ _ _ h => h) (Or.inl ⟨by rfl, ?_⟩) hHeld ?_
  rotate_left 1
  · (intro w hSw; obtain ⟨q1, q2⟩ := hSw; go_simp; try with_reducible rfl)
  try simp only [Act.put, List.getElem_toArray, List.getElem_cons_zero, List.getElem_cons_succ, List.setIfInBounds_toArray, List.set_cons_zero, List.set_cons_succ]
  refine wpAnyH_take (i := 7) (v := (.slice ba 0 (qcap - q.qs.length))) rfl (by kernel_rfl) (by kernel_rfl) (by kernel_rfl) (fun _ _ _ h => h) (Or.inl ⟨by rfl, ?_⟩) hHeld ?_
  · (intro w hSw; obtain ⟨q1, q2⟩ := hSw; go_simp; rw [HBA.out])
  try simp only [Act.put, List.getElem_toArray, List.getElem_cons_zero, List.getElem_cons_succ, List.setIfInBounds_toArray, List.set_cons_zero, List.set_cons_succ]
  refine wpAnyH_ready (rs := [8]) (by kernel_rfl) (by simp) (AllReadyH.cons rfl (fun K hK => ?_) AllReadyH.nil)
  clear hHeld
  go_simp
  with_reducible refine (KW.out).mono ?_
  rintro e w3 ⟨u, rfl, hu, hT3, hE3, hC3⟩
  rw [hitsL_nil, Gs.setPt_same HP1.out] at hT3 hE3
  rw [outL_nil] at hu
  have HU := hide hu
  have HT3 := hide hT3
  have HE3 := hide hE3
  have HB43 := hide ((HB4.out.G HG2.out.drew).chg hE3.chg (HNO1.out w.heap.size (Nat.le_refl _) HK4.out.lt))
  have HB53 := hide ((HB5.out.G HG2.out.drew).chg hE3.chg (HNO1.out (w.heap.size + 1) (by omega) HK5.out.lt))
  clear hu hT3 hE3 hC3
  go_wp2_with fail
  refine hK.out _ _ (⟨HB53.out.cell, by have := (HT3.out.pl r q HQ1.out).blk.cell; rw [HQV.out] at this; exact this⟩) (fun hHeld => ?_)
  clear hK K
  try simp only [Act.put, List.getElem_toArray, List.getElem_cons_zero, List.getElem_cons_succ, List.setIfInBounds_toArray, List.set_cons_zero, List.set_cons_succ]
  refine wpAnyH_take (i := 9) (v := ?_) rfl (by kernel_rfl) (by kernel_rfl) (by kernel_rfl) (fun _ _ _ h => h) (Or.inl ⟨by rfl, ?_⟩) hHeld ?_
  rotate_left 1
  · (intro w hSw; obtain ⟨q1, q2⟩ := hSw; go_simp; try with_reducible rfl)
  try simp only [Act.put, List.getElem_toArray, List.getElem_cons_zero, List.getElem_cons_succ, List.setIfInBounds_toArray, List.set_cons_zero, List.set_cons_succ]
  refine wpAnyH_done (by kernel_rfl) ?_ _
  refine NoPanic.normal ?_
  have HTB3 : Hid (Tb w3) := by
    have hA := HTB1.out.G HG2.out.drew
    exact hA.keep (HE3.out.chg.block _ hA.lf (fun e => e HGL1.out.1)) (HE3.out.chg.block _ hA.lj (fun e => e HGL1.out.2)) HE3.out.chg.size
  have hpl3 := HT3.out.pl r q HQ1.out
  have KB := hide (blocks_any q x m q.qs.length Lh w3 (Nat.le_refl _) (fun z hz => (HLH.out s1 q HPq.out z hz).1) (fun z hz => (HLH.out s1 q HPq.out z hz).2) HLQ.out HTB3.out hpl3.blk hpl3.hm hpl3.q)
  have c53 := HB53.out.cell
  clear hpl3 hqc
  cases hbk : blkB q x m q.qs.length with
  | true =>
    rw [hbk] at KB
    have HBK := hide hbk
    clear hbk
    go_wp2_with (first
      | (go_at_call 53
         with_reducible refine (KB.out).mono ?_
         rintro e w4 ⟨rfl, hg4⟩
         have HG4 := hide hg4
         clear hg4 c53)
      | fail)
    have HS7 : Hid ((fun V => (∀ o, V.cell? ⟨w.heap.size + 1, o, none⟩ = ([I x, I m] : List Value)[o]?) ∧ (∀ o, V.cell? ⟨q.blk, o, none⟩ = ([.map (some q.hb), .slice qa q.qs.length qcap] : List Value)[o]?)) w4.drew) := ⟨(HB53.out.G HG4.out.drew).cell, by
      have := ((HT3.out.pl r q HQ1.out).blk.G HG4.out.drew).cell
      rw [HQV.out] at this
      exact this⟩
    have hA5 : G w4 ((w4.alloc (.cells #[I x, I m] 74)).drew) := ((G.refl w4).alloc _).drew
    have hb5 : Blk ((w4.alloc (.cells #[I x, I m] 74)).drew) w4.heap.size 74 [I x, I m] := (Blk.new w4 [I x, I m] 74).drew
    have hT5 := HT3.out.G (HG4.out.trans hA5)
    have hq5 := (hT5.pl r q HQ1.out).q
    rw [HQV.out] at hq5
    have KI := hide (insert_end q.qs (.slice qa q.qs.length qcap) x m w4.heap.size ((w4.alloc (.cells #[I x, I m] 74)).drew) hq5 hb5 (by have := HQL.out s1 q HPq.out; omega))
    have HT5 := hide hT5
    have HA5 := hide hA5
    clear hA5 hb5 hT5 hq5
    refine wp_region_noPanic ?_
    refine wp_region_L (S := (fun V => (∀ o, V.cell? ⟨w.heap.size + 1, o, none⟩ = ([I x, I m] : List Value)[o]?) ∧ (∀ o, V.cell? ⟨q.blk, o, none⟩ = ([.map (some q.hb), .slice qa q.qs.length qcap] : List Value)[o]?))) 11 (by kernel_rfl) (HS7.out) (fun hHeld => ?_)
    refine wpAnyL_take (i := 0) (v := ?_) rfl (by kernel_rfl) (by kernel_rfl) (by kernel_rfl) (by kernel_rfl) (fun _ _ _ h => h) (Or.inl ⟨by rfl, ?_⟩) hHeld ?_
    rotate_left 1
    · (intro w hSw; obtain ⟨q1, q2⟩ := hSw; go_simp; try with_reducible rfl)
    try simp only [Act.put, List.getElem_toArray, List.getElem_cons_zero, List.setIfInBounds_toArray, List.set_cons_zero, List.set_cons_succ]
    refine wpAnyL_take (i := 1) (v := ?_) rfl (by kernel_rfl) (by kernel_rfl) (by kernel_rfl) (by kernel_rfl) (fun _ _ _ h => h) (Or.inl ⟨by rfl, ?_⟩) hHeld ?_
    rotate_left 1
    · (intro w hSw; obtain ⟨q1, q2⟩ := hSw; go_simp; try with_reducible rfl)
    try simp only [Act.put, List.getElem_toArray, List.getElem_cons_zero, List.getElem_cons_succ, List.setIfInBounds_toArray, List.set_cons_zero, List.set_cons_succ]
    refine wpAnyL_take (i := 2) (v := ?_) rfl (by kernel_rfl) (by kernel_rfl) (by kernel_rfl) (by kernel_rfl) (fun _ _ _ h => h) (Or.inl ⟨by rfl, ?_⟩) hHeld ?_
    rotate_left 1
    · (intro w hSw; obtain ⟨q1, q2⟩ := hSw; go_simp; try with_reducible rfl)
    try simp only [Act.put, List.getElem_toArray, List.getElem_cons_zero, List.getElem_cons_succ, List.setIfInBounds_toArray, List.set_cons_zero, List.set_cons_succ]
    refine wpAnyL_take (i := 3) (v := ?_) rfl (by kernel_rfl) (by kernel_rfl) (by kernel_rfl) (by kernel_rfl) (fun _ _ _ h => h) (Or.inl ⟨by rfl, ?_⟩) hHeld ?_
    rotate_left 1
    · (intro w hSw; obtain ⟨q1, q2⟩ := hSw; go_simp; try with_reducible rfl)
    try simp only [Act.put, List.getElem_toArray, List.getElem_cons_zero, List.getElem_cons_succ, List.setIfInBounds_toArray, List.set_cons_zero, List.set_cons_succ]
    refine wpAnyL_take (i := 4) (v := ?_) rfl (by kernel_rfl) (by kernel_rfl) (by kernel_rfl) (by kernel_rfl) (fun _ _ _ h => h) (Or.inl ⟨by rfl, ?_⟩) hHeld ?_
    rotate_left 1
    · (intro w hSw; obtain ⟨q1, q2⟩ := hSw; go_simp; try with_reducible rfl)
    try simp only [Act.put, List.getElem_toArray, List.getElem_cons_zero, List.getElem_cons_succ, List.setIfInBounds_toArray, List.set_cons_zero, List.set_cons_succ]
    refine wpAnyL_take (i := 5) (v := ?_) rfl (by kernel_rfl) (by kernel_rfl) (by kernel_rfl) (by kernel_rfl) (fun _ _ _ h => h) (Or.inl ⟨by rfl, ?_⟩) hHeld ?_
    rotate_left 1
    · (intro w hSw; obtain ⟨q1, q2⟩ := hSw; go_simp; try with_reducible rfl)
    try simp only [Act.put, List.getElem_toArray, List.getElem_cons_zero, List.getElem_cons_succ, List.setIfInBounds_toArray, List.set_cons_zero, List.set_cons_succ]
    refine wpAnyL_take (i := 6) (v := ?_) rfl (by kernel_rfl) (by kernel_rfl) (by kernel_rfl) (by kernel_rfl) (fun _ _ _ h => h) (Or.inl ⟨by rfl, ?_⟩) hHeld ?_
    rotate_left 1
    · (intro w hSw; obtain ⟨q1, q2⟩ := hSw; go_simp; try with_reducible rfl)
    try simp only [Act.put, List.getElem_toArray, List.getElem_cons_zero, List.getElem_cons_succ, List.setIfInBounds_toArray, List.set_cons_zero, List.set_cons_succ]
    refine wpAnyL_one (i := 7) (by kernel_rfl) rfl (by kernel_rfl) (fun K hK => ?_)
    clear hHeld
    go_simp
    have HS75 : Hid ((fun V => (∀ o, V.cell? ⟨w.heap.size + 1, o, none⟩ = ([I x, I m] : List Value)[o]?) ∧ (∀ o, V.cell? ⟨q.blk, o, none⟩ = ([.map (some q.hb), .slice qa q.qs.length qcap] : List Value)[o]?)) ((w4.alloc (.cells #[I x, I m] 74)).drew)) := ⟨(HB53.out.G (HG4.out.trans HA5.out)).cell, by have := ((HT5.out.pl r q HQ1.out).blk).cell; rw [HQV.out] at this; exact this⟩
    refine hK.out _ _ (HS75.out) (fun hHeld => ?_)
    clear hK K
    try simp only [Act.put, List.getElem_toArray, List.getElem_cons_zero, List.getElem_cons_succ, List.setIfInBounds_toArray, List.set_cons_zero, List.set_cons_succ]
    refine wpAnyL_one (i := 8) (by kernel_rfl) rfl (by kernel_rfl) (fun K hK => ?_)
    clear hHeld
    go_simp
    with_reducible refine (KI.out).mono ?_
    rintro e w6 ⟨v6, rfl, hQ6, hC6, hob6⟩
    rw [← HQV.out] at hC6 hob6
    have HC6 := hide hC6
    have HOB6 := hide hob6
    obtain ⟨g6, cap6, hv6⟩ : ∃ g cap, v6 = .slice (some ⟨g, 0, none⟩) (q.qs.length + 1) cap := by
      rcases hQ6 with ⟨-, e⟩ | ⟨g, cap, rest, e, -⟩
      · simp at e
      · exact ⟨g, cap, by rw [e]; simp⟩
    have HQ6 := hide hQ6
    subst hv6
    have HB56 := hide ((HB53.out.G (HG4.out.trans HA5.out)).chg hC6 (fun e => HNO1.out (w.heap.size + 1) (by omega) HK5.out.lt (by rw [(HT5.out.pl r q HQ1.out).t3 _ e]; simp)))
    have HQB6 := hide ((HT5.out.pl r q HQ1.out).blk.chg hC6 (fun e => ((HT5.out.pl r q HQ1.out).ne.2 _ e).1 rfl))
    clear hQ6 hC6 hob6
    go_wp2_with fail
    refine hK.out _ _ (⟨HB56.out.cell, by have := HQB6.out.cell; rw [HQV.out] at this; exact this⟩) (fun hHeld => ?_)
    clear hK K
    try simp only [Act.put, List.getElem_toArray, List.getElem_cons_zero, List.getElem_cons_succ, List.setIfInBounds_toArray, List.set_cons_zero, List.set_cons_succ]
    refine wpAnyL_take2 10 (i := 9) (v := ?_) rfl (by kernel_rfl) (by kernel_rfl) (by kernel_rfl) (by kernel_rfl) (fun _ _ _ h => h) (Or.inl ⟨by rfl, ?_⟩) hHeld ?_
    rotate_left 1
    · (intro w hSw; obtain ⟨q1, q2⟩ := hSw; go_simp; try with_reducible rfl)
    try simp only [Act.put, List.getElem_toArray, List.getElem_cons_zero, List.getElem_cons_succ, List.setIfInBounds_toArray, List.set_cons_zero, List.set_cons_succ]
    refine wpAnyL_take (i := 10) (v := ?_) rfl (by kernel_rfl) (by kernel_rfl) (by kernel_rfl) (by kernel_rfl) (fun _ _ _ h => h) (Or.inl ⟨by rfl, ?_⟩) hHeld ?_
    rotate_left 1
    · (intro w hSw; obtain ⟨q1, q2⟩ := hSw; go_simp; try with_reducible rfl)
    try simp only [Act.put, List.getElem_toArray, List.getElem_cons_zero, List.getElem_cons_succ, List.setIfInBounds_toArray, List.set_cons_zero, List.set_cons_succ]
    refine wpAnyL_last (by kernel_rfl) rfl (by kernel_rfl) (fun K hK => ?_)
    clear hHeld
    have hc7 := HQB6.out.cell
    have hz7 := HQB6.out.frozen
    rw [HQV.out] at hc7
    go_simp
    refine hK.out _ _ ?_
    clear hK K
    refine NoPanic.normal ?_
    obtain ⟨s2, hl2, hp2, hT7, hE7⟩ := HT5.out.queue HQ1.out HQ6.out HC6.out HOB6.out
    have HB47 := hide ((HB43.out.G (HG4.out.trans HA5.out)).chg hE7.chg (HNO1.out w.heap.size (Nat.le_refl _) HK4.out.lt))
    have HB57 := hide ((HB53.out.G (HG4.out.trans HA5.out)).chg hE7.chg (HNO1.out (w.heap.size + 1) (by omega) HK5.out.lt))
    have HTB7 : Hid (Tb (w6.setCell ⟨q.blk, 1, none⟩ (.slice (some ⟨g6, 0, none⟩) (q.qs.length + 1) cap6))) := by
      have hA := HTB3.out.G (HG4.out.trans HA5.out)
      exact hA.keep (hE7.chg.block _ hA.lf (fun e => e HGL1.out.1)) (hE7.chg.block _ hA.lj (fun e => e HGL1.out.2)) hE7.chg.size
    generalize w6.setCell ⟨q.blk, 1, none⟩ (.slice (some ⟨g6, 0, none⟩) (q.qs.length + 1) cap6) = w7 at *
    have hp7 : s2.lv x = some p := by rw [hl2]; exact HP1.out
    have hq7 : s2.pl r = some { q with q := .slice (some ⟨g6, 0, none⟩) (q.qs.length + 1) cap6, qs := q.qs ++ [(x, m)] } := by rw [hp2, upd_same]
    have c5 := HB57.out.cell
    have ct := hT7.tb.cell
    have hl := hT7.lm.lookN kyI Tryz.underlying58 Tryz.zeroValue63 (kyI_ok.2 HX.out)
    rw [hp7] at hl
    simp only [Option.map_some, Option.getD_some] at hl
    have HT7 := hide hT7; have HE7 := hide hE7; have HP7 := hide hp7; have HQ7 := hide hq7; have HL2 := hide hl2; have HP2 := hide hp2
    clear hc7 hz7 hT7 hE7 hp7 hq7 hl2 hp2
    go_wp2
    go_quiet (fail)
    go_wp2
    have hGD : G w7 (w7.drewN nq) := (G.refl w7).drewN nq
    have HT9 := hide (HT7.out.G hGD)
    have HTB9 := hide (HTB7.out.G hGD)
    have HB49 := hide (HB47.out.G hGD)
    have HB59 := hide (HB57.out.G hGD)
    have HGD := hide hGD
    have hS9 : (fun V => (∀ o, V.cell? ⟨w.heap.size, o, none⟩ = ([I r.lv, .string r.lb, I r.id] : List Value)[o]?) ∧ (∀ o, V.cell? ⟨w.heap.size + 1, o, none⟩ = ([I x, I m] : List Value)[o]?)) (w7.drewN nq).drew := ⟨HB49.out.drew.cell, HB59.out.drew.cell⟩
    have HS9 := hide hS9
    have HPB9 := hide (HT9.out.pt x p HP7.out).blk
    have hne2 : ¬ w.heap.size = p.blk ∧ ¬ w.heap.size + 1 = p.blk := by
      have := HT.out.lt _ _ (HT.out.pt x p HP.out).t1
      omega
    have HNE := hide hne2
    clear hGD hS9 hne2 hl ct c5
    generalize w7.drewN nq = w8 at HT9 HTB9 HB49 HB59 HGD HS9 HPB9 ⊢
    refine wp_region_noPanic ?_
    refine wp_region_L (S := (fun V => (∀ o, V.cell? ⟨w.heap.size, o, none⟩ = ([I r.lv, .string r.lb, I r.id] : List Value)[o]?) ∧ (∀ o, V.cell? ⟨w.heap.size + 1, o, none⟩ = ([I x, I m] : List Value)[o]?))) 10 (by kernel_rfl) (HS9.out) (fun hHeld => ?_)
    refine wpAnyL_take (i := 0) (v := ?_) rfl (by kernel_rfl) (by kernel_rfl) (by kernel_rfl) (by kernel_rfl) (fun _ _ _ h => h) (Or.inl ⟨by rfl, ?_⟩) hHeld ?_
    rotate_left 1
    · (intro w hSw; obtain ⟨q1, q2⟩ := hSw; go_simp; try with_reducible rfl)
    try simp only [Act.put, List.getElem_toArray, List.getElem_cons_zero, List.setIfInBounds_toArray, List.set_cons_zero, List.set_cons_succ]
    refine wpAnyL_take (i := 1) (v := ?_) rfl (by kernel_rfl) (by kernel_rfl) (by kernel_rfl) (by kernel_rfl) (fun _ _ _ h => h) (Or.inl ⟨by rfl, ?_⟩) hHeld ?_
    rotate_left 1
    · (intro w hSw; obtain ⟨q1, q2⟩ := hSw; go_simp; try with_reducible rfl)
    try simp only [Act.put, List.getElem_toArray, List.getElem_cons_zero, List.getElem_cons_succ, List.setIfInBounds_toArray, List.set_cons_zero, List.set_cons_succ]
    refine wpAnyL_take (i := 2) (v := ?_) rfl (by kernel_rfl) (by kernel_rfl) (by kernel_rfl) (by kernel_rfl) (fun _ _ _ h => h) (Or.inl ⟨by rfl, ?_⟩) hHeld ?_
    rotate_left 1
    · (intro w hSw; obtain ⟨q1, q2⟩ := hSw; go_simp; try with_reducible rfl)
    try simp only [Act.put, List.getElem_toArray, List.getElem_cons_zero, List.getElem_cons_succ, List.setIfInBounds_toArray, List.set_cons_zero, List.set_cons_succ]
    refine wpAnyL_take (i := 3) (v := ?_) rfl (by kernel_rfl) (by kernel_rfl) (by kernel_rfl) (by kernel_rfl) (fun _ _ _ h => h) (Or.inl ⟨by rfl, ?_⟩) hHeld ?_
    rotate_left 1
    · (intro w hSw; obtain ⟨q1, q2⟩ := hSw; go_simp; try with_reducible rfl)
    try simp only [Act.put, List.getElem_toArray, List.getElem_cons_zero, List.getElem_cons_succ, List.setIfInBounds_toArray, List.set_cons_zero, List.set_cons_succ]
    refine wpAnyL_take (i := 4) (v := ?_) rfl (by kernel_rfl) (by kernel_rfl) (by kernel_rfl) (by kernel_rfl) (fun _ _ _ h => h) (Or.inl ⟨by rfl, ?_⟩) hHeld ?_
    rotate_left 1
    · (intro w hSw; obtain ⟨q1, q2⟩ := hSw; go_simp; try with_reducible rfl)
    try simp only [Act.put, List.getElem_toArray, List.getElem_cons_zero, List.getElem_cons_succ, List.setIfInBounds_toArray, List.set_cons_zero, List.set_cons_succ]
    refine wpAnyL_take (i := 5) (v := ?_) rfl (by kernel_rfl) (by kernel_rfl) (by kernel_rfl) (by kernel_rfl) (fun _ _ _ h => h) (Or.inl ⟨by rfl, ?_⟩) hHeld ?_
    rotate_left 1
    · (intro w hSw; obtain ⟨q1, q2⟩ := hSw; go_simp; try with_reducible rfl)
    try simp only [Act.put, List.getElem_toArray, List.getElem_cons_zero, List.getElem_cons_succ, List.setIfInBounds_toArray, List.set_cons_zero, List.set_cons_succ]
    refine wpAnyL_take (i := 6) (v := ?_) rfl (by kernel_rfl) (by kernel_rfl) (by kernel_rfl) (by kernel_rfl) (fun _ _ _ h => h) (Or.inl ⟨by rfl, ?_⟩) hHeld ?_
    rotate_left 1
    · (intro w hSw; obtain ⟨q1, q2⟩ := hSw; go_simp; try with_reducible rfl)
    try simp only [Act.put, List.getElem_toArray, List.getElem_cons_zero, List.getElem_cons_succ, List.setIfInBounds_toArray, List.set_cons_zero, List.set_cons_succ]
    refine wpAnyL_one (i := 7) (by kernel_rfl) rfl (by kernel_rfl) (fun K hK => ?_)
    clear hHeld
    have hc9 := HPB9.out.cell
    have hz9 := HPB9.out.frozen
    simp only [Pt.cells] at hc9
    go_simp
    have HPB10 : Hid (Blk (((w8.setCell ⟨p.blk, 2, none⟩ (I r.lv)).setCell ⟨p.blk, 3, none⟩ (.string r.lb)).setCell ⟨p.blk, 4, none⟩ (I r.id)) p.blk 67 _) := ((HPB9.out.set 2 (I r.lv)).set 3 (.string r.lb)).set 4 (I r.id)
    have HC10 : Hid (Chg (fun k => k = p.blk) w8 (((w8.setCell ⟨p.blk, 2, none⟩ (I r.lv)).setCell ⟨p.blk, 3, none⟩ (.string r.lb)).setCell ⟨p.blk, 4, none⟩ (I r.id))) := ((chgk w8 p.blk 2 _).trans (chgk _ p.blk 3 _)).trans (chgk _ p.blk 4 _)
    clear hc9 hz9
    refine hK.out _ _ (⟨(HB49.out.chg HC10.out HNE.out.1).drew.cell, (HB59.out.chg HC10.out HNE.out.2).drew.cell⟩) (fun hHeld => ?_)
    clear hK K
    try simp only [Act.put, List.getElem_toArray, List.getElem_cons_zero, List.getElem_cons_succ, List.setIfInBounds_toArray, List.set_cons_zero, List.set_cons_succ]
    refine wpAnyL_take2 9 (i := 8) (v := ?_) rfl (by kernel_rfl) (by kernel_rfl) (by kernel_rfl) (by kernel_rfl) (fun _ _ _ h => h) (Or.inl ⟨by rfl, ?_⟩) hHeld ?_
    rotate_left 1
    · (intro w hSw; obtain ⟨q1, q2⟩ := hSw; go_simp; try with_reducible rfl)
    try simp only [Act.put, List.getElem_toArray, List.getElem_cons_zero, List.getElem_cons_succ, List.setIfInBounds_toArray, List.set_cons_zero, List.set_cons_succ]
    refine wpAnyL_take (i := 9) (v := ?_) rfl (by kernel_rfl) (by kernel_rfl) (by kernel_rfl) (by kernel_rfl) (fun _ _ _ h => h) (Or.inl ⟨by rfl, ?_⟩) hHeld ?_
    rotate_left 1
    · (intro w hSw; obtain ⟨q1, q2⟩ := hSw; go_simp; try with_reducible rfl)
    try simp only [Act.put, List.getElem_toArray, List.getElem_cons_zero, List.getElem_cons_succ, List.setIfInBounds_toArray, List.set_cons_zero, List.set_cons_succ]
    refine wpAnyL_last (by kernel_rfl) rfl (by kernel_rfl) (fun K hK => ?_)
    clear hHeld
    have hc9 := HPB10.out.cell
    have hz9 := HPB10.out.frozen
    simp only [Pt.cells] at hc9
    go_simp
    refine hK.out _ _ ?_
    clear hK K
    refine NoPanic.normal ?_
    clear hc9 hz9
    have hb11 := HPB10.out.set 5 (I m)
    have hch := HC10.out.trans (chgk _ p.blk 5 (I m))
    obtain ⟨T10, E10⟩ := HT9.out.ptCells (p' := { p with at_ := r, goal := m }) HP7.out rfl rfl rfl rfl rfl hb11 hch
    have hgl2 : s2.own 1 = none ∧ s2.own 0 = none := by
      have hA := HTB3.out.G (HG4.out.trans HA5.out)
      exact ⟨HE7.out.free hA.lf HGL1.out.1, HE7.out.free hA.lj HGL1.out.2⟩
    have tb10 := HTB9.out.keep (E10.chg.block _ HTB9.out.lf (fun e => e hgl2.1)) (E10.chg.block _ HTB9.out.lj (fun e => e hgl2.2)) E10.chg.size
    have hb510 := HB59.out.chg hch HNE.out.2
    clear hb11 hch HPB10 HC10 HS9 HPB9
    generalize ((((w8.setCell ⟨p.blk, 2, none⟩ (I r.lv)).setCell ⟨p.blk, 3, none⟩ (.string r.lb)).setCell ⟨p.blk, 4, none⟩ (I r.id)).setCell ⟨p.blk, 5, none⟩ (I m)) = w10 at *
    have hT10 := T10.G (G.refl w10).drew
    have hTb10 := tb10.G (G.refl w10).drew
    have hq10 : (s2.setPt x { p with at_ := r, goal := m }).pl r = some { q with q := .slice (some ⟨g6, 0, none⟩) (q.qs.length + 1) cap6, qs := q.qs ++ [(x, m)] } := HQ7.out
    have hmx : (4100000000000 : Nat) ≤ maxLen := of_decide_eq_true (by kernel_rfl)
    have hql := HQL.out s1 q HPq.out
    have hlhl := HLHL.out
    have KW2 := hide ((wba_any t (s2.setPt x { p with at_ := r, goal := m }) x m { p with at_ := r, goal := m } r { q with q := .slice (some ⟨g6, 0, none⟩) (q.qs.length + 1) cap6, qs := q.qs ++ [(x, m)] } q.qs.length Lh LWa w10.drew hT10 hTb10 hgl2 (by simp [Gs.setPt]) HX.out HWR.out hq10 (by simp) (fun z hz => (HLH.out s1 q HPq.out z hz).1) (fun z hz => (HLH.out s1 q HPq.out z hz).2) (by simp; omega) (fun y hy => by
      obtain ⟨a1, a2, b, a3, a4⟩ := HWY.out s1 q HPq.out y (inW_snoc.1 hy)
      refine ⟨a1, a2, b, ?_, a4⟩
      simp only [Gs.setPt, upd_other a1]
      rw [HL2.out, HL1.out]
      exact a3) HXW.out HLWA.out (by simp; have := HBIG.out s1 q HPq.out; omega)).mono (fun e w' h => wba_post hT10 hTb10 h))
    dsimp only at KW2
    have hlt3 : ∀ b, u.ownBlock = some b → w2.drew.heap.size ≤ b ∧ b < w3.heap.size := fun b hb => World.ownsRow.lt HU.out b hb
    have hn1 : ∀ b, u.ownBlock = some b → s1.own b = none := fun b hb => by
      cases e : s1.own b with
      | none => rfl
      | some tg =>
        have := (HT1.out.G HG2.out.drew).lt b tg e
        have := hlt3 b hb
        omega
    have z5 := (HG4.out.trans HA5.out).size
    have z7 := HE7.out.chg.size
    have z8 := HGD.out.size
    have z10 := E10.chg.size
    have hn2 : ∀ b, u.ownBlock = some b → s2.own b = none := fun b hb => HE7.out.free (by have := hlt3 b hb; omega) (hn1 b hb)
    have hn3 : ∀ b, u.ownBlock = some b → (s2.setPt x { p with at_ := r, goal := m }).own b = none := hn2
    have hu10 := own_G (own_ext (own_G (own_ext (own_G HU.out (HG4.out.trans HA5.out)) HE7.out hn1) HGD.out) E10 hn2) (G.refl w10).drew
    have hlo10 : w2.drew.heap.size ≤ w10.heap.size := by
      have := HE3.out.chg.size
      omega
    have HU10 := hide hu10; have HN3 := hide hn3; have HLO := hide hlo10; have HLT3 := hide hlt3
    have HZ10 : Hid (w3.heap.size ≤ w10.heap.size) := by
      show w3.heap.size ≤ w10.heap.size
      omega
    clear hlt3 hn1 z5 z7 z8 z10 hn2 hn3 hu10 hlo10
    have HT10 := hide hT10
    have HE10 := hide E10
    have c510 := hb510.cell
    clear hT10 hTb10 hq10 hmx hql hlhl T10 E10 tb10 hb510 hgl2
    go_wp2_with (first
      | (go_at_call 56
         with_reducible refine (KW2.out).mono ?_
         rintro e w11 ⟨v11, zs, s4, rfl, hzN, hv11, hT11, hE11, hTB11, hD⟩
         obtain ⟨v12, w12, r1, r2, r3⟩ := app_rows w11 w2.drew.heap.size w10.drew.heap.size u v11 zs (own_ext HU10.out hE11 HN3.out) hv11 (by have := HBIG.out s1 q HPq.out; simp only [List.length_append, List.length_cons, List.length_nil] at hzN; omega) (by have h1 := hE11.chg.size; have h2 := HLO.out; have h3 : w10.drew.heap.size = w10.heap.size := rfl; omega)
         have HR1 := hide r1; have HR2 := hide r2; have HR3 := hide r3; have HT11 := hide hT11; have HE11 := hide hE11; have HTB11 := hide hTB11; have HD := hide hD
         clear r1 r2 r3 hT11 hE11 hTB11 hD hv11 hzN)
      | (at_builtin; refine wpList_append_run rfl _ _ 46 rfl _ _ rfl rfl HR1.out ?_)
      | fail)
    go_ret2
    have hfree : ∀ b, u.ownBlock = some b → s4.own b = none := fun b hb => HE11.out.free (by have h1 := HLT3.out b hb; have h2 := HZ10.out; have h3 : w10.drew.heap.size = w10.heap.size := rfl; omega) (HN3.out b hb)
    have hcg : Chg (fun k => u.ownBlock = some k) w11 w12 := ⟨HR3.out.os, HR3.out.tape, HR3.out.output, HR3.out.size, fun k hk hn => HR3.out.block k hk (fun e => hn e.symm)⟩
    have hE : Ext w w11 s s4 := (((((((((G.ext s HGA.out).trans HE1.out).G HG2.out.drew).trans HE3.out).G (HG4.out.trans HA5.out)).trans HE7.out).G HGD.out).trans HE10.out).G (G.refl w10).drew).trans HE11.out
    have hz2 : w.heap.size ≤ w2.drew.heap.size := by
      have h1 := HGA.out.size
      have h2 := HE1.out.chg.size
      have h3 := HG2.out.size
      have h4 : w2.drew.heap.size = w2.heap.size := rfl
      omega
    have hin : inW q.hf (q.qs ++ [(x, m)]) x m q.qs.length = inW q.hf q.qs x m q.qs.length := funext fun y => propext inW_snoc
    have hD := HD.out
    rw [hin] at hD
    refine ⟨s1, q, v12, HPq.out, .inr ⟨HBK.out, s2, _, s4, zs, rfl, ⟨HR2.out.1, ?_⟩, HL2.out.trans HL1.out, HP2.out, rfl, rfl, hD, HT11.out.chg hcg hfree, ⟨⟨hcg.os.trans hE.chg.os, hcg.tape.trans hE.chg.tape, hcg.output.trans hE.chg.output, Nat.le_trans hE.chg.size hcg.size, fun b hb hn => (hcg.block b (Nat.lt_of_lt_of_le hb hE.chg.size) (fun e => by have := (HLT3.out b e).1; omega)).trans (hE.chg.block b hb hn)⟩, hE.old, hE.new⟩⟩⟩
    rcases HR2.out.2 with h3 | ⟨g, cap, cur, e, hb, rest⟩
    · exact .inl h3
    · exact .inr ⟨g, cap, cur, e, Nat.le_trans hz2 hb, rest⟩
  | false =>
    rw [hbk] at KB
    have HBK := hide hbk
    clear hbk
    go_wp2_with (first
      | (go_at_call 53
         with_reducible refine (KB.out).mono ?_
         rintro e w4 ⟨rfl, hg4⟩
         have hb4 := (HB43.out.G hg4).cell
         have hb5 := (HB53.out.G hg4).cell
         have HG4 := hide hg4
         have KG := hide (grant_any t s1 x m r p q w4 (HT3.out.G hg4) HX.out HRO.out HM0.out HP1.out HQ1.out Lh (fun z hz => (HLH.out s1 q HPq.out z hz).1) HLHL.out LR HLR.out HLRL.out)
         simp only [Rs.v] at KG
         clear hg4 c53)
      | (go_at_call 54; with_reducible refine (KG.out).mono ?_; rintro e w5 ⟨rfl, hT5, hE5⟩)
      | fail)
    go_ret2
    exact ⟨s1, q, u, HPq.out, .inl ⟨HBK.out, rfl, own_nil_form HU.out, hT5, ((((((G.ext s HGA.out).trans HE1.out).G HG2.out.drew).trans HE3.out).G HG4.out).trans hE5)⟩⟩
end Go.Proofs.YtkbgifhhnnfgoaaGreatDoor
