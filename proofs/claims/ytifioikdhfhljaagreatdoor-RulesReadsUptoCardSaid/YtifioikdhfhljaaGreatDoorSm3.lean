/- Graphs: a graph in memory and what it was asked. -/
import Derived.Test.YtifioikdhfhljaaGreatDoorSm1
import Derived.Lib.SliceRun
namespace Go.Proofs.YtifioikdhfhljaaGreatDoor
open Go.RowKit Go.Maps

theorem FanS.fx {lo : Nat} {w w' : World} {b : Nat} {g : Int → Option Value} {F : Int → List Int} {X : List Nat} (h : FanS lo w b g F) (k : Fx X [] w w') (hx : 2 ∉ X) : FanS lo w' b g F := h.keep (by
    obtain ⟨es, c, e⟩ := h.mp.isMap
    exact k.map _ es c e (by simp)) (fun a i e => by
    obtain ⟨xs, hb⟩ := (h.row a).blkOf e
    exact (hb.fx k hx).h.trans hb.h.symm)
/-- A graph in memory whose block is written to, and nothing else of it. -/
theorem MemG.fxq {lo : Nat} {w w' : World} {mb : Nat} {ns : List Nd} {es : List Ed} {qv qv' nid eid : Value} {m1 m2 b1 b2 : Nat} {g1 g2 f1 f2 : Int → Option Value} {X : List Nat} (h : MemG lo w mb ns es qv nid eid m1 m2 b1 b2 g1 g2 f1 f2) (k : Fx X [] w w') (h1 : 2 ∉ X) (h2 : 101 ∉ X) (hb : Blk w' mb 81 [I 70, nid, .map (some m1), I 71, eid, .map (some m2), .map (some b1), .map (some b2), qv']) : MemG lo w' mb ns es qv' nid eid m1 m2 b1 b2 g1 g2 f1 f2 :=
  ⟨hb, h.nrow.fx k h1, h.erow.fx k h1, h.nlo, h.elo, h.ntb.fx k h2 (by simp), h.etb.fx k h2 (by simp), ⟨h.fan.s1.fx k h1, h.fan.s2.fx k h1, h.fan.ne, h.fan.dis⟩, h.at_⟩
/-- A graph in memory, and what it was asked. -/
structure MemQ (lo : Nat) (w : World) (mb : Nat) (ns : List Nd) (es : List Ed) (qv : Value) (qs : List As) : Prop where
  mem : ∃ nid eid m1 m2 b1 b2 g1 g2 f1 f2, MemG lo w mb ns es qv nid eid m1 m2 b1 b2 g1 g2 f1 f2
  row : Sw eA 49 w qv qs
  qlo : ∀ k, qv.ownBlock = some k → lo ≤ k
theorem MemQ.G {lo : Nat} {w w' : World} {mb : Nat} {ns : List Nd} {es : List Ed} {qv : Value} {qs : List As} (h : MemQ lo w mb ns es qv qs) (k : Go.Proofs.YtifioikdhfhljaaGreatDoor.G w w') : MemQ lo w' mb ns es qv qs := by
  obtain ⟨nid, eid, m1, m2, b1, b2, g1, g2, f1, f2, hm⟩ := h.mem
  exact ⟨⟨nid, eid, m1, m2, b1, b2, g1, g2, f1, f2, hm.G k⟩, h.row.G k, h.qlo⟩
/-- It was asked, and nothing else of it has turned. -/
structure NtP (lo : Nat) (W W' : World) (mb : Nat) (ns : List Nd) (es : List Ed) (qv qv' : Value) (qs : List As) : Prop where
  m : MemQ lo W' mb ns es qv' qs
  chg : Chg (fun k => k = mb ∨ qv.ownBlock = some k) W W'
  own : ∀ k, qv'.ownBlock = some k → qv.ownBlock = some k ∨ W.heap.size ≤ k
theorem NtP.G {lo : Nat} {W W' W2 : World} {mb : Nat} {ns : List Nd} {es : List Ed} {qv qv' : Value} {qs : List As} (h : NtP lo W W' mb ns es qv qv' qs) (k : Go.Proofs.YtifioikdhfhljaaGreatDoor.G W' W2) : NtP lo W W2 mb ns es qv qv' qs :=
  ⟨h.m.G k, h.chg.trans k.chg, h.own⟩
theorem NtP.from {lo : Nat} {W0 W W' : World} {mb : Nat} {ns : List Nd} {es : List Ed} {qv qv' : Value} {qs : List As} (h : NtP lo W W' mb ns es qv qv' qs) (k : Go.Proofs.YtifioikdhfhljaaGreatDoor.G W0 W) : NtP lo W0 W' mb ns es qv qv' qs :=
  ⟨h.m, k.chg.trans h.chg, fun i e => (h.own i e).imp id fun q => Nat.le_trans k.size q⟩
/-- The frame by types. -/
theorem NtP.fx {lo : Nat} {W W' : World} {mb : Nat} {ns : List Nd} {es : List Ed} {qv qv' : Value} {qs qs0 : List As} (h : NtP lo W W' mb ns es qv qv' qs) (h0 : MemQ lo W mb ns es qv qs0) : Fx [81, 49] [] W W' := Fx.chg h.chg fun k hk _ => by
  obtain ⟨nid, eid, m1, m2, b1, b2, g1, g2, f1, f2, hm⟩ := h0.mem
  rcases hk with rfl | e
  · exact ⟨_, _, hm.blk, by simp⟩
  · obtain ⟨xs, hb⟩ := h0.row.blkOf e
    exact ⟨_, xs, hb, by simp⟩
theorem MemQ.at_ {lo : Nat} {w : World} {mb : Nat} {ns : List Nd} {es : List Ed} {qv : Value} {qs : List As} (h : MemQ lo w mb ns es qv qs) : lo ≤ mb := by
  obtain ⟨nid, eid, m1, m2, b1, b2, g1, g2, f1, f2, hm⟩ := h.mem
  exact hm.at_.1
/-- What was there ahead of it has not turned. -/
theorem NtP.old {lo : Nat} {W0 W W' : World} {mb : Nat} {ns : List Nd} {es : List Ed} {qv qv' : Value} {qs qs0 : List As} (h : NtP lo W W' mb ns es qv qv' qs) (h0 : MemQ lo W mb ns es qv qs0) (hg : Go.Proofs.YtifioikdhfhljaaGreatDoor.G W0 W) (hl : W0.heap.size ≤ lo) : Go.Proofs.YtifioikdhfhljaaGreatDoor.G W0 W' :=
  ((hg.chg (F := fun _ => False)).more h.chg (fun i hi q => by
    rcases q with rfl | e
    · have := h0.at_; omega
    · have := h0.qlo i e; omega)).G (fun _ q => q.elim)
/-- One more, at the end of a row of our own, wherever it lies. -/
theorem pushE {α : Type} {E : Enc α} {P : Program} {ty ts tr : TypeId} {w wx : World} {ra : Option Addr} {rn rc bq : Nat} {l : List α} (i : TypeInfo) (z : Value) (bytes : Nat) (hts : P.underlying ts = some (.slice ty)) (hi : P.info? ty = some i) (hz : i.zero = some z) (hsize : i.size = E.s) (hby : i.bytes = bytes) (hzs : z.cells.size = E.s) (hsz : 0 < E.s)
    (h : Sw E ty w (.slice ra rn rc) l) (x : α) (hA : G w wx) (hl : Row E.rel wx (.slice (some ⟨bq, 0, none⟩) 1 1) [x]) (h63 : rn + 1 ≤ maxLen) (hbytes : (rn + 1) * bytes ≤ 140737488355328) :
    ∃ a c w', (Builtin.append_ #[ts, ts] tr #[.slice ra rn rc, .slice (some ⟨bq, 0, none⟩) 1 1]).run P wx = .ok (.slice a (rn + 1) c) w' ∧ Sw E ty w' (.slice a (rn + 1) c) (l ++ [x]) ∧ (∀ M, Fx [ty] M w w') ∧ Chg (fun k => (Value.slice ra rn rc).ownBlock = some k) w w' ∧
      ∀ k, (Value.slice a (rn + 1) c).ownBlock = some k → (Value.slice ra rn rc).ownBlock = some k ∨ w.heap.size ≤ k := by
  have hln := h.len_eq
  obtain ⟨v', w', q1, q2, q3, q4⟩ := app_row (P := P) (tr := tr) i z bytes hts hi hz hsize hby hzs hsz (h.G hA) hl (by rw [hln]; simpa using h63) (by rw [hln]; simpa using hbytes)
  obtain ⟨a, c, hv⟩ := q2.form
  rw [List.length_append, hln] at hv
  obtain rfl : v' = .slice a (rn + 1) c := hv
  refine ⟨a, c, w', q1, q2, fun M => (Fx.of_G hA).trans (Fx.own q3 (h.G hA) (by simp)), (hA.chg).trans q3, fun k e => ?_⟩
  rcases q4 with q | q
  · exact .inl (q ▸ e)
  · rw [q] at e
    have := Option.some.inj e
    have := hA.size
    exact .inr (by omega)
set_option maxRecDepth 100000 in
set_option maxHeartbeats 4000000 in
theorem note_any (lo mb : Nat) (ns : List Nd) (es : List Ed) (qv : Value) (qs : List As) (x : As) (W : World) (h : MemQ lo W mb ns es qv qs) (hq : qs.length ≤ 1000000000000) :
    Calls Tryz.prog 92 #[ptr mb, .agg #[I x.what, I x.id, .string x.label, .string x.key, I x.k, I x.a, I x.b, .string x.s, I x.lv, .string x.lb, I x.rid, I x.md]] W fun e W' => e = .returned (.tuple #[]) ∧ ∃ qa qn qc, NtP lo W W' mb ns es qv (.slice qa qn qc) (qs ++ [x]) := by
  obtain ⟨nid, eid, m1, m2, b1, b2, g1, g2, f1, f2, hm⟩ := h.mem
  obtain ⟨qa, qc, rfl⟩ := h.row.form
  obtain ⟨qn, hqn⟩ : ∃ qn, qn = qs.length := ⟨_, rfl⟩
  rw [← hqn] at h hm ⊢
  obtain ⟨w1, hw1⟩ : ∃ w1, w1 = (W.alloc (.cells #[I x.what, I x.id, .string x.label, .string x.key, I x.k, I x.a, I x.b, .string x.s, I x.lv, .string x.lb, I x.rid, I x.md] 49)) := ⟨_, rfl⟩
  have hg1 : G W w1 := by rw [hw1]; exact (G.refl W).alloc _
  have hbx : Blk w1 W.heap.size 49 [I x.what, I x.id, .string x.label, .string x.key, I x.k, I x.a, I x.b, .string x.s, I x.lv, .string x.lb, I x.rid, I x.md] := by rw [hw1]; exact Blk.new W [I x.what, I x.id, .string x.label, .string x.key, I x.k, I x.a, I x.b, .string x.s, I x.lv, .string x.lb, I x.rid, I x.md] 49
  have hmb := hm.blk.G hg1
  have hA : G w1 (w1.alloc (.cells #[I x.what, I x.id, .string x.label, .string x.key, I x.k, I x.a, I x.b, .string x.s, I x.lv, .string x.lb, I x.rid, I x.md] 49)).drew := ((G.refl w1).alloc _).drew
  have hlit : Row eA.rel (w1.alloc (.cells #[I x.what, I x.id, .string x.label, .string x.key, I x.k, I x.a, I x.b, .string x.s, I x.lv, .string x.lb, I x.rid, I x.md] 49)).drew (.slice (some ⟨w1.heap.size, 0, none⟩) 1 1) [x] := by
    have := Row.lit (E := eA) w1 49 [x] 1 (by simp)
    rw [show eA.fl [x] = eA.e x by simp [Enc.fl]] at this
    exact this.G ((G.refl _).drew)
  obtain ⟨i0, hi0, hz0, hz1, hz2⟩ := info_A
  have hmx : (1000000000001 : Nat) ≤ maxLen := of_decide_eq_true (by kernel_rfl)
  obtain ⟨a5, c5, w5, r1, r2, r3, r4, r5⟩ := pushE (P := Tryz.prog) (tr := 39) i0 _ 128 Tryz.underlying39 hi0 hz0 hz1 hz2 rfl (by decide) (h.row.G hg1) x hA hlit (by omega) (by omega)
  have hmb5 := hmb.fx (r3 []) (by decide)
  have hbx5 : Blk w5 W.heap.size 49 [I x.what, I x.id, .string x.label, .string x.key, I x.k, I x.a, I x.b, .string x.s, I x.lv, .string x.lb, I x.rid, I x.md] := hbx.chg r4 (fun e => by have := h.row.lt e; omega)
  have HS5 : Hid (Blk w5 mb 81 [I 70, nid, .map (some m1), I 71, eid, .map (some m2), .map (some b1), .map (some b2), .slice qa qn qc] ∧ Blk w5 W.heap.size 49 [I x.what, I x.id, .string x.label, .string x.key, I x.k, I x.a, I x.b, .string x.s, I x.lv, .string x.lb, I x.rid, I x.md]) := ⟨hmb5, hbx5⟩
  have hx9 : Fx [81, 49] [] W (w5.setCell ⟨mb, 8, none⟩ (.slice a5 (qn + 1) c5)) := ((Fx.of_G hg1).trans ((r3 []).mono (fun t q => by simp at q ⊢; omega) (fun t q => q))).trans (Fx.set hmb5 (by simp))
  have HF : Hid (∃ qa' qn' qc', NtP lo W (w5.setCell ⟨mb, 8, none⟩ (.slice a5 (qn + 1) c5)) mb ns es (.slice qa qn qc) (.slice qa' qn' qc') (qs ++ [x])) := by
    refine ⟨a5, qn + 1, c5, ⟨⟨nid, eid, m1, m2, b1, b2, g1, g2, f1, f2, hm.fxq hx9 (by decide) (by decide) (hmb5.set 8 _)⟩, r2.fx (Fx.set (X := [81]) (M := []) hmb5 (by simp)) (by decide), fun k e => ?_⟩, ?_, fun k e => ?_⟩
    · rcases r5 k e with q | q
      · exact h.qlo k q
      · have := hm.blk.lt; have := hm.at_.1; have := hg1.size; omega
    · exact (hg1.chg.trans (r4.mono fun k q => .inr q)).trans (chg_setCell w5 _ (.inl (.inl rfl)))
    · exact (r5 k e).imp id fun q => Nat.le_trans hg1.size q
  have HRR := hide r1; have HMB := hide hmb; have HBX := hide hbx
  have HEW : Hid ((W.alloc (.cells #[I x.what, I x.id, .string x.label, .string x.key, I x.k, I x.a, I x.b, .string x.s, I x.lv, .string x.lb, I x.rid, I x.md] 49)) = w1) := hw1.symm
  clear h hm hq hqn hw1 hg1 hbx hmb hA hlit hi0 hz0 hz1 hz2 hmx r1 r2 r3 r4 r5 hmb5 hbx5 hx9
  go_enter Tryz.func92, Tryz.ntmps92
  go_wp2_with fail
  rw [HEW.out]
  refine wp_region_noPanic ?_
  refine wp_region_L (S := (fun V => Blk V mb 81 [I 70, nid, .map (some m1), I 71, eid, .map (some m2), .map (some b1), .map (some b2), .slice qa qn qc] ∧ Blk V W.heap.size 49 [I x.what, I x.id, .string x.label, .string x.key, I x.k, I x.a, I x.b, .string x.s, I x.lv, .string x.lb, I x.rid, I x.md])) 10 (by kernel_rfl) (⟨HMB.out.drew, HBX.out.drew⟩) (fun hHeld => ?_)
  refine wpAnyL_take (i := 0) (v := ?_) rfl (by kernel_rfl) (by kernel_rfl) (by kernel_rfl) (by kernel_rfl) (fun _ _ _ h => h) (Or.inl ⟨by rfl, ?_⟩) hHeld ?_
  rotate_left 1
  · (intro w hSw; (try dsimp only at hSw); go_simp; try with_reducible rfl)
  try simp only [Act.put, List.getElem_toArray, List.getElem_cons_zero, List.setIfInBounds_toArray, List.set_cons_zero, List.set_cons_succ]
  refine wpAnyL_take (i := 1) (v := ?_) rfl (by kernel_rfl) (by kernel_rfl) (by kernel_rfl) (by kernel_rfl) (fun _ _ _ h => h) (Or.inl ⟨by rfl, ?_⟩) hHeld ?_
  rotate_left 1
  · (intro w hSw; (try dsimp only at hSw); go_simp; try with_reducible rfl)
  try simp only [Act.put, List.getElem_toArray, List.getElem_cons_zero, List.getElem_cons_succ, List.setIfInBounds_toArray, List.set_cons_zero, List.set_cons_succ]
  refine wpAnyL_take (i := 2) (v := ?_) rfl (by kernel_rfl) (by kernel_rfl) (by kernel_rfl) (by kernel_rfl) (fun _ _ _ h => h) (Or.inl ⟨by rfl, ?_⟩) hHeld ?_
  rotate_left 1
  · (intro w hSw; (try dsimp only at hSw); go_simp; try with_reducible rfl)
  try simp only [Act.put, List.getElem_toArray, List.getElem_cons_zero, List.getElem_cons_succ, List.setIfInBounds_toArray, List.set_cons_zero, List.set_cons_succ]
  refine wpAnyL_take (i := 3) (v := ?_) rfl (by kernel_rfl) (by kernel_rfl) (by kernel_rfl) (by kernel_rfl) (fun _ _ _ h => h) (Or.inl ⟨by rfl, ?_⟩) hHeld ?_
  rotate_left 1
  · (intro w hSw; (try dsimp only at hSw); go_simp; try with_reducible rfl)
  try simp only [Act.put, List.getElem_toArray, List.getElem_cons_zero, List.getElem_cons_succ, List.setIfInBounds_toArray, List.set_cons_zero, List.set_cons_succ]
  refine wpAnyL_take (i := 4) (v := ?_) rfl (by kernel_rfl) (by kernel_rfl) (by kernel_rfl) (by kernel_rfl) (fun _ _ _ h => h) (Or.inl ⟨by rfl, ?_⟩) hHeld ?_
  rotate_left 1
  · (intro w hSw; have q1 := hSw.1.cell; have q2 := hSw.2.cell; go_simp; try with_reducible rfl)
  try simp only [Act.put, List.getElem_toArray, List.getElem_cons_zero, List.getElem_cons_succ, List.setIfInBounds_toArray, List.set_cons_zero, List.set_cons_succ]
  refine wpAnyL_take (i := 5) (v := ?_) rfl (by kernel_rfl) (by kernel_rfl) (by kernel_rfl) (by kernel_rfl) (fun _ _ _ h => h) (Or.inl ⟨by rfl, ?_⟩) hHeld ?_
  rotate_left 1
  · (intro w hSw; have q1 := hSw.1.cell; have q2 := hSw.2.cell; go_simp; try with_reducible rfl)
  try simp only [Act.put, List.getElem_toArray, List.getElem_cons_zero, List.getElem_cons_succ, List.setIfInBounds_toArray, List.set_cons_zero, List.set_cons_succ]
  refine wpAnyL_one (i := 6) (by kernel_rfl) rfl (by kernel_rfl) (fun K hK => ?_)
  clear hHeld
  go_simp
  have HX3 : Hid (G w1 (w1.alloc (.cells #[I x.what, I x.id, .string x.label, .string x.key, I x.k, I x.a, I x.b, .string x.s, I x.lv, .string x.lb, I x.rid, I x.md] 49)).drew) := ((G.refl w1).alloc _).drew
  generalize (w1.alloc (.cells #[I x.what, I x.id, .string x.label, .string x.key, I x.k, I x.a, I x.b, .string x.s, I x.lv, .string x.lb, I x.rid, I x.md] 49)).drew = w3 at HRR HX3 ⊢
  refine hK.out _ _ (⟨HMB.out.G HX3.out, HBX.out.G HX3.out⟩) (fun hHeld => ?_)
  clear hK K
  try simp only [Act.put, List.getElem_toArray, List.getElem_cons_zero, List.getElem_cons_succ, List.setIfInBounds_toArray, List.set_cons_zero, List.set_cons_succ]
  refine wpAnyL_one (i := 7) (by kernel_rfl) rfl (by kernel_rfl) (fun K hK => ?_)
  clear hHeld
  refine (if_pos rfl).mpr ?_
  refine wp_of_exec (exec_append _ _ 39 rfl (.slice qa qn qc) (.slice (some ⟨w1.heap.size, 0, none⟩) 1 1) rfl rfl 39 rfl HRR.out) ?_
  refine hK.out _ _ (HS5.out) (fun hHeld => ?_)
  clear hK K
  try simp only [Act.put, List.getElem_toArray, List.getElem_cons_zero, List.getElem_cons_succ, List.setIfInBounds_toArray, List.set_cons_zero, List.set_cons_succ]
  refine wpAnyL_one (i := 8) (by kernel_rfl) rfl (by kernel_rfl) (fun K hK => ?_)
  clear hHeld
  (try refine (if_pos rfl).mpr ?_)
  go_simp
  refine hK.out _ _ (HS5.out) (fun hHeld => ?_)
  clear hK K
  try simp only [Act.put, List.getElem_toArray, List.getElem_cons_zero, List.getElem_cons_succ, List.setIfInBounds_toArray, List.set_cons_zero, List.set_cons_succ]
  refine wpAnyL_one (i := 9) (by kernel_rfl) rfl (by kernel_rfl) (fun K hK => ?_)
  clear hHeld
  (try refine (if_pos rfl).mpr ?_)
  go_simp
  refine hK.out _ _ (HS5.out) (fun hHeld => ?_)
  clear hK K
  try simp only [Act.put, List.getElem_toArray, List.getElem_cons_zero, List.getElem_cons_succ, List.setIfInBounds_toArray, List.set_cons_zero, List.set_cons_succ]
  refine wpAnyL_last (by kernel_rfl) rfl (by kernel_rfl) (fun K hK => ?_)
  clear hHeld
  have hc7 := HS5.out.1.cell
  have hz7 := HS5.out.1.frozen
  go_simp
  refine hK.out _ _ ?_
  clear hK K
  refine NoPanic.normal ?_
  go_wp2_with fail
  first | exact bodyPost_end (results_none (by kernel_rfl) _ _ _) rfl ⟨rfl, HF.out⟩ | go_end0
set_option maxRecDepth 100000 in
set_option maxHeartbeats 1000000 in
theorem hold_any (lo mb : Nat) (ns : List Nd) (es : List Ed) (qv : Value) (qs : List As) (lv : Int) (lb : ByteArray) (rid md : Int) (W : World) (h : MemQ lo W mb ns es qv qs) (hq : qs.length ≤ 1000000000000) :
    Calls Tryz.prog 63 #[ptr mb, .agg #[I lv, .string lb, I rid], I md] W fun e W' => e = .returned (I 0) ∧ ∃ qa qn qc, NtP lo W W' mb ns es qv (.slice qa qn qc) (qs ++ [⟨7, 0, { data := #[] }, { data := #[] }, 0, 0, 0, { data := #[] }, lv, lb, rid, md⟩]) := by
  have hA := (G.refl W).alloc (.cells #[I lv, .string lb, I rid] 44)
  have KN := hide (note_any lo mb ns es qv qs ⟨7, 0, { data := #[] }, { data := #[] }, 0, 0, 0, { data := #[] }, lv, lb, rid, md⟩ _ (h.G hA) hq)
  have HA := hide hA
  clear h hq hA
  go_enter Tryz.func63, Tryz.ntmps63
  go_wp2_with fail
  refine KN.out.mono ?_
  rintro e w' ⟨rfl, qa, qn, qc, hn⟩
  have HN := hide (hn.from HA.out)
  clear hn KN HA
  go_wp2_with fail
  go_ret
  exact ⟨rfl, _, _, _, HN.out⟩
theorem clear_run (w : World) (g n cap : Nat) (l : List As) (ty : TypeId) (h : Sw eA 49 w (.slice (some ⟨g, 0, none⟩) n cap) l) :
    ∃ w', (Builtin.clear_ #[39] ty #[.slice (some ⟨g, 0, none⟩) n cap]).run Tryz.prog w = .ok (.tuple #[]) w' ∧ Sw eA 49 w' (.slice (some ⟨g, 0, none⟩) 0 cap) [] ∧ Chg (fun k => k = g) w w' := by
  obtain ⟨hn, rest, hb, hr, hc, hm⟩ := h.open
  have hfl := eA.len l
  rcases Nat.eq_zero_or_pos n with h0 | h0
  · subst h0
    refine ⟨w, ?_, .inr ⟨g, cap, eA.fl l ++ rest, rfl, by simpa [Enc.fl] using hb, by rw [List.length_append, hfl]; simp; omega, Nat.zero_le _, hm⟩, Chg.refl _ _⟩
    simp [Builtin.clear_, run_underlying Tryz.underlying39]
  · obtain ⟨m, rfl⟩ : ∃ m, n = m + 1 := ⟨n - 1, by omega⟩
    have hr' : l.length * 12 + rest.length = cap * 12 := hr
    have hfl' : (eA.fl l).length = l.length * 12 := hfl
    obtain ⟨vs, hvs⟩ : ∃ vs, vs = (Builtin.zeroCells (Value.cells (.agg #[I 0, I 0, .string { data := #[] }, .string { data := #[] }, I 0, I 0, I 0, .string { data := #[] }, I 0, .string { data := #[] }, I 0, I 0])) (m + 1)).toList := ⟨_, rfl⟩
    have hvl : vs.length = (m + 1) * 12 := by rw [hvs]; simp [Builtin.zeroCells, Value.cells]
    have hvo : ∀ v ∈ vs, v.oneCell' = true := fun v hv => by
      rw [hvs] at hv
      simp only [Builtin.zeroCells, Value.cells, Array.toList_map, List.mem_map] at hv
      obtain ⟨i, -, rfl⟩ := hv
      have hall : ∀ j, j < 12 → ((#[I 0, I 0, .string { data := #[] }, .string { data := #[] }, I 0, I 0, I 0, .string { data := #[] }, I 0, .string { data := #[] }, I 0, I 0] : Array Value)[j]!).oneCell' = true := by decide
      exact hall (i % 12) (Nat.mod_lt _ (by decide))
    have hst := run_storeCells_cells (P := Tryz.prog) g 0 vs 0 w (fun j hj => by rw [Nat.zero_add, hb.cell, List.getElem?_eq_getElem (by rw [List.length_append, hfl]; show _ < l.length * 12 + _; omega)]; rfl) (fun j _ => hb.frozen _) hvo
    simp only [Nat.add_zero] at hst
    have hblk := hb.sets vs 0 (by rw [List.length_append, hfl']; omega)
    rw [List.take_zero, List.nil_append, Nat.zero_add] at hblk
    refine ⟨w.setCells g 0 vs, ?_, .inr ⟨g, cap, vs ++ (eA.fl l ++ rest).drop vs.length, rfl, hblk, ?_, Nat.zero_le _, hm⟩, chg_setCells w vs (.inl rfl)⟩
    rotate_left 1
    · rw [List.length_append, List.length_drop, List.length_append, hfl']; show 0 * 12 + _ = cap * 12; omega
    simp [Builtin.clear_, run_underlying Tryz.underlying39, Tryz.zeroValue49, ← hvs, hst]
theorem clear_any (w : World) (a : Option Addr) (n c : Nat) (l : List As) (ty : TypeId) (h : Sw eA 49 w (.slice a n c) l) :
    ∃ w', (Builtin.clear_ #[39] ty #[.slice a n c]).run Tryz.prog w = .ok (.tuple #[]) w' ∧ Sw eA 49 w' (.slice a 0 c) [] ∧ Chg (fun k => (Value.slice a n c).ownBlock = some k) w w' := by
  have h0 := h
  rcases h0 with ⟨e, rfl⟩ | ⟨g, cap, rest, e, -⟩
  · cases e
    exact ⟨w, by simp [Builtin.clear_, run_underlying Tryz.underlying39], Sw.nil _ _ _, Chg.refl _ _⟩
  · cases e
    obtain ⟨w', h1, h2, h3⟩ := clear_run w g _ _ l ty h
    exact ⟨w', h1, h2, h3.mono fun k e => by simp [Value.ownBlock, e]⟩
theorem ob_len {a : Option Addr} {c k : Nat} (n m : Nat) (h : (Value.slice a n c).ownBlock = some k) : (Value.slice a m c).ownBlock = some k := by
  cases a
  · simp [Value.ownBlock] at h
  · simpa [Value.ownBlock] using h
set_option maxRecDepth 100000 in
set_option maxHeartbeats 4000000 in
theorem asked_any (lo mb : Nat) (ns : List Nd) (es : List Ed) (qv : Value) (qs : List As) (W : World) (h : MemQ lo W mb ns es qv qs) (hq : qs.length ≤ 1000000000000) :
    Calls Tryz.prog 20 #[ptr mb] W fun e W' => ∃ ra rn rc, e = .returned (.slice ra rn rc) ∧ Sw eA 49 W' (.slice ra rn rc) qs ∧ Fresh W (.slice ra rn rc) ∧ ∃ qa qn qc, NtP lo W W' mb ns es qv (.slice qa qn qc) [] := by
  obtain ⟨nid, eid, m1, m2, b1, b2, g1, g2, f1, f2, hm⟩ := h.mem
  obtain ⟨qa, qc, rfl⟩ := h.row.form
  obtain ⟨qn, hqn⟩ : ∃ qn, qn = qs.length := ⟨_, rfl⟩
  rw [← hqn] at h hm ⊢
  have hmc := hm.blk.cell
  have KC := hide (cloneA_any (.slice qa qn qc) qs W h.row.toRow hq)
  have HCL : Hid (∀ (ra : Option Addr) (rn rc : Nat) (w3 : World), Sw eA 49 w3 (.slice ra rn rc) qs → Fresh W (.slice ra rn rc) → G W w3 → ∃ w4, (Builtin.clear_ #[39] 0 #[.slice qa qn qc]).run Tryz.prog w3 = .ok (.tuple #[]) w4 ∧
      (Blk w4 mb 81 [I 70, nid, .map (some m1), I 71, eid, .map (some m2), .map (some b1), .map (some b2), .slice qa qn qc] ∧ Sw eA 49 (w4.setCell ⟨mb, 8, none⟩ (.slice qa 0 qc)) (.slice ra rn rc) qs ∧ Fresh W (.slice ra rn rc) ∧ ∃ qa' qn' qc', NtP lo W (w4.setCell ⟨mb, 8, none⟩ (.slice qa 0 qc)) mb ns es (.slice qa qn qc) (.slice qa' qn' qc') [])) := fun ra rn rc w3 hs3 hf3 hg3 => by
    have hq3 := h.row.G hg3
    obtain ⟨w4, h1, h2, h3⟩ := clear_any w3 qa qn qc qs 0 hq3
    have hx3 : Fx [49] [] w3 w4 := Fx.own h3 hq3 (by simp)
    have hmb3 := hm.blk.G hg3
    have hmb4 := hmb3.fx hx3 (by decide)
    have hx5 : Fx [81, 49] [] W (w4.setCell ⟨mb, 8, none⟩ (.slice qa 0 qc)) := ((Fx.of_G hg3).trans (hx3.mono (fun t q => by simp at q ⊢; omega) (fun t q => q))).trans (Fx.set hmb4 (by simp))
    refine ⟨w4, h1, hmb4, ?_, hf3, qa, 0, qc, ⟨⟨nid, eid, m1, m2, b1, b2, g1, g2, f1, f2, hm.fxq hx5 (by decide) (by decide) (hmb4.set 8 _)⟩, h2.fx (Fx.set (X := [81]) (M := []) hmb4 (by simp)) (by decide), fun k e => h.qlo k (ob_len 0 qn e)⟩, ?_, fun k e => .inl (ob_len 0 qn e)⟩
    · exact (hs3.chg h3 (fun b e q => by have h4 := hf3 b e; have h5 := h.row.lt q; omega)).fx (Fx.set (X := [81]) (M := []) hmb4 (by simp)) (by decide)
    · exact (hg3.chg.trans (h3.mono fun k q => .inr q)).trans (chg_setCell w4 _ (.inl (.inl rfl)))
  have hcase : (qa = none ∧ qn = 0 ∧ qc = 0) ∨ ∃ g, qa = some ⟨g, 0, none⟩ := by
    rcases h.row with ⟨e, -⟩ | ⟨g, cap, rest, e, -⟩
    · cases e; exact .inl ⟨rfl, rfl, rfl⟩
    · cases e; exact .inr ⟨g, rfl⟩
  have hcap : (0 : Int) ≤ (qc : Int) := by omega
  have HM := hide hm
  clear h hm hq hqn
  rcases hcase with ⟨rfl, rfl, rfl⟩ | ⟨g, rfl⟩
  · go_enter Tryz.func20, Tryz.ntmps20
    go_wp2_with fail
    refine KC.out.mono ?_
    rintro e w3 ⟨ra, rn, rc, rfl, hs3, hf3, hg3⟩
    obtain ⟨w4, hrun, hF⟩ := HCL.out ra rn rc w3 hs3 hf3 hg3
    have HF := hide hF
    have hmc3 := (HM.out.blk.G hg3).cell
    clear hs3 hf3 hg3 hF KC
    have hmc4 := HF.out.1.cell
    have hmz4 := HF.out.1.frozen
    go_wp2_with fail
    go_ret
    exact ⟨ra, rn, rc, rfl, HF.out.2.1, HF.out.2.2.1, HF.out.2.2.2⟩
  · go_enter Tryz.func20, Tryz.ntmps20
    go_wp2_with fail
    refine KC.out.mono ?_
    rintro e w3 ⟨ra, rn, rc, rfl, hs3, hf3, hg3⟩
    obtain ⟨w4, hrun, hF⟩ := HCL.out ra rn rc w3 hs3 hf3 hg3
    have HF := hide hF
    have hmc3 := (HM.out.blk.G hg3).cell
    clear hs3 hf3 hg3 hF KC
    have hmc4 := HF.out.1.cell
    have hmz4 := HF.out.1.frozen
    go_wp2_with fail
    go_ret
    exact ⟨ra, rn, rc, rfl, HF.out.2.1, HF.out.2.2.1, HF.out.2.2.2⟩
end Go.Proofs.YtifioikdhfhljaaGreatDoor
