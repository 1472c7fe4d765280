/- Disks: Write. -/
import Derived.Test.YtbjbphhcmmaaoaaDk4
import Derived.Test.YtbjbphhcmmaaoaaDkR
import Derived.Maps.AppendAt
namespace Go.Proofs.Ytbjbphhcmmaaoaa
open Go.RowKit

/-- Write: the disk behind it, and the answer. -/
def DM.write (m : DM) (n : Int) (xs : List Nat) : DM × Int :=
  if ¬ (0 ≤ n ∧ n < m.n) then (m, 20) else if xs.length ≠ 128 then (m, 21) else
  if m.spent.2 then ({ m.spent.1 with writes := m.spent.1.writes + 1, pend := m.spent.1.pend ++ [(n.toNat, xs)] }, 0) else (m.spent.1, 2)
theorem spent_same (m : DM) : m.spent.1.n = m.n ∧ m.spent.1.laid = m.laid ∧ m.spent.1.pend = m.pend ∧ m.spent.1.writes = m.writes ∧ m.spent.1.flushes = m.flushes := by
  unfold DM.spent
  repeat' split
  all_goals exact ⟨rfl, rfl, rfl, rfl, rfl⟩
theorem spent_ok {m : DM} (h : m.ok) : m.spent.1.ok := by
  unfold DM.spent
  cases hoff : m.off with
  | true => simpa [hoff] using h
  | false =>
    cases hf : m.fuse with
    | none => simpa [hoff, hf] using h
    | some k =>
      cases k with
      | zero => simp only [Bool.false_eq_true, if_false]; exact ⟨h.n1, h.n2, h.ll, h.lb, h.p, fun _ => rfl, fun k e => by cases e⟩
      | succ k => simp only [Bool.false_eq_true, if_false]; exact ⟨h.n1, h.n2, h.ll, h.lb, h.p, fun e => by simp at e, fun j e => by have := h.f (k + 1) hf; have : k = j := Option.some.inj e; omega⟩
theorem pend_add {m : DM} (h : m.ok) {at' : Nat} {xs : List Nat} (ha : at' < m.n) (hl : xs.length = 128) (hx : ∀ x ∈ xs, x < 256) (c : Nat) : DM.ok { m with writes := c, pend := m.pend ++ [(at', xs)] } :=
  ⟨h.n1, h.n2, h.ll, h.lb, fun e he => by
    rcases List.mem_append.1 he with h1 | h1
    · exact h.p e h1
    · simp at h1; subst h1; exact ⟨ha, hl, hx⟩, h.o, h.f⟩
theorem pendC_snoc (l : List (Nat × List Nat)) (e : Nat × List Nat) : pendC (l ++ [e]) = pendC l ++ entC e := by simp [pendC]
theorem entC_one (e : Nat × List Nat) : ∀ v ∈ entC e, v.oneCell' = true := fun v hv => by
  simp only [entC, List.mem_cons] at hv
  rcases hv with rfl | hv
  · rfl
  · exact one_map _ v hv
theorem fill_one (place : Nat → Option (Nat × Nat)) (cells : Array Value) (i off : Nat) (v : Value) (rest : List (Nat × Value)) (h : place i = some (off, v.cells.size)) (hs : off + v.cells.size ≤ cells.size) :
    Instr.fill place cells ((i, v) :: rest) = Instr.fill place (cells.toList.take off ++ v.cells.toList ++ cells.toList.drop (off + v.cells.size)).toArray rest := by
  have fold : ∀ (l : List Value) (j : Nat) (cs : Array Value), off + j + l.length ≤ cs.size → (l.zipIdx j).foldl (fun cs (p : Value × Nat) => cs.setIfInBounds (off + p.2) p.1) cs = (cs.toList.take (off + j) ++ l ++ cs.toList.drop (off + j + l.length)).toArray := by
    intro l
    induction l with
    | nil => intro j cs _; simp
    | cons x l ih =>
      intro j cs hl
      simp only [List.length_cons] at hl
      rw [List.zipIdx_cons, List.foldl_cons, ih (j + 1) _ (by simp; omega)]
      congr 1
      rw [Array.toList_setIfInBounds]
      have hlt : off + j < cs.toList.length := by simp; omega
      rw [show off + (j + 1) = off + j + 1 by omega, List.take_succ_eq_append_getElem (by simpa using hlt), List.getElem_set_self, List.take_set_of_le (Nat.le_refl _), List.drop_set_of_lt (by omega)]
      simp only [List.append_assoc, List.cons_append, List.nil_append, List.length_cons]
      rw [show off + j + 1 + l.length = off + j + (l.length + 1) by omega]
  rw [Instr.fill]
  simp only [h]
  have hc : ¬ ((v.cells.size ≠ v.cells.size || decide (off + v.cells.size > cells.size)) = true) := by simp; omega
  rw [if_neg hc]
  congr 1
  have := fold v.cells.toList 0 cells (by simpa using hs)
  simp only [Nat.add_zero, Array.length_toList] at this
  rw [← this, ← Array.foldl_toList, Array.toList_zipIdx]
theorem run_build_write (n : Int) (xs : List Nat) (hx : xs.length = 128) (w : World) : (Instr.build 84 #[(0, .int .i64 n), (1, .agg (xs.map bv).toArray)]).run Try.prog w = .ok (.agg (I n :: xs.map bv).toArray) w := by
  have hz : (zeroValue 84).run Try.prog w = .ok (.agg zeroCells84) w := zeroValue84_run w
  have hs1 : (Value.int .i64 n).cells.size = 1 := rfl
  have hs2 : (Value.agg (xs.map bv).toArray).cells.size = 128 := by simp [Value.cells, hx]
  have hc : (zeroCells84).size = 129 := zeroCells84_size
  have hl : (zeroCells84).toList.length = 129 := by rw [Array.length_toList, hc]
  have hf : ∀ place : Nat → Option (Nat × Nat), place 0 = some (0, 1) → place 1 = some (1, 128) → Instr.fill place zeroCells84 [(0, .int .i64 n), (1, .agg (xs.map bv).toArray)] = some (I n :: xs.map bv).toArray := by
    intro place h0 h1
    rw [fill_one place _ 0 0 (.int .i64 n) _ (by rw [hs1]; exact h0) (by rw [hs1, hc]; decide)]
    rw [fill_one place _ 1 1 (.agg (xs.map bv).toArray) _ (by rw [hs2]; exact h1) (by rw [hs2]; simp [Value.cells, hl])]
    simp only [Instr.fill, Value.cells, List.take_zero, List.nil_append, Option.some.injEq]
    have hR : (List.drop (0 + #[Value.int IntKind.i64 n].size) (zeroCells84).toList).length = 128 := by rw [List.length_drop, hl]; rfl
    have hq : (List.map bv xs).toArray.size = 128 := by rw [List.size_toArray, List.length_map, hx]
    rw [hq]
    generalize List.drop (0 + #[Value.int IntKind.i64 n].size) (zeroCells84).toList = R at hR
    rw [List.drop_of_length_le (by simp [hR])]
    simp
  refine run_build (P := Try.prog) w 84 #[(0, .int .i64 n), (1, .agg (xs.map bv).toArray)] _ ?_
  obtain ⟨i, hi, hz0, _, _⟩ := info_wr
  have hm : (#[{ name := "at", type := 3, offset := 0, embedded := false, tag := "", pkgPath := "trellis/disk", byteOffset := 0 }, { name := "data", type := 81, offset := 1, embedded := false, tag := "", pkgPath := "trellis/disk", byteOffset := 8 }] : Array Field).toList.mapM (fun f => (Try.prog.info? f.type).map fun i => (f.offset, i.size)) = some [(0, 1), (1, 128)] := by kernel_rfl
  unfold Program.built
  rw [hi, Try.underlying84]
  simp only [hz0, hm]
  rw [show (Value.agg (I 0 :: (List.replicate 128 0).map bv).toArray).cells = zeroCells84 from zero_wr.symm]
  exact hf _ rfl rfl
theorem run_bslice (e : Nat × List Nat) (he : e.2.length = 128) (w : World) : (Instr.buildSlice 75 1 #[(0, .agg (entC e).toArray)]).run Try.prog w = .ok (.slice (some ⟨w.heap.size, 0, none⟩) 1 1) (w.alloc (.cells (entC e).toArray 84)) := by
  obtain ⟨i, hi, hz0, hz1, _⟩ := info_wr
  have hl := entC_len he
  have hc : (Value.agg (entC e).toArray).cells.size = 129 := by simp [Value.cells, hl]
  have hzz : (zeroValue 84).run Try.prog w = .ok (.agg zeroCells84) w := zeroValue84_run w
  have hf : ∀ (Z : Array Value), Z.size = 129 → Instr.fill (fun i => some (i * 129, 129)) Z [(0, .agg (entC e).toArray)] = some (entC e).toArray := by
    intro Z hZ
    rw [fill_one _ Z 0 0 _ _ (by rw [hc]) (by rw [hc, hZ]; decide)]
    simp only [Instr.fill, Option.some.injEq, hc]
    rw [List.drop_of_length_le (by rw [Array.length_toList, hZ]; omega)]
    simp [Value.cells]
  have hso : (sizeOf 84).run Try.prog w = .ok 129 w := by simp [sizeOf, typeInfo, hi, hz1]
  have g1 : ¬ (1 * 129 > 2 ^ 24) := by decide
  have g2 : ¬ (1 * 129 = 0) := by decide
  have hff := hf ((Array.range (1 * 129)).map ((zeroCells84)[· % (zeroCells84).size]!)) (by rw [Array.size_map, Array.size_range])
  simp only [Instr.buildSlice, Sem.run_bind, run_underlying Try.underlying75, Result.andThen_ok, hso, if_neg g1, if_neg g2, hzz, Sem.run_pure, Value.cells, hff, newRow, run_newObj_alloc]
theorem grown_chg {w w' : World} {r : Option Nat} (h : w.grownBy w' r) : Chg (fun k => r = some k) w w' := ⟨h.os, h.tape, h.output, h.size, fun k hk hn => h.block k hk (fun e => hn e.symm)⟩
theorem Lies.chg {F : Nat → Prop} {w w' : World} {ad : Addr} {xs : List Nat} (h : Lies w ad xs) (k : Chg F w w') (hF : ¬ F ad.block) : Lies w' ad xs := fun j x hj => by
  have := h j x hj
  have hb : (ad.add j).block = ad.block := by unfold Addr.add; split <;> rfl
  refine (World.cell?_of_block (w := w) ?_).trans this
  rw [hb]
  exact k.block _ (by have := World.block_lt_of_cell? _ _ this; rwa [hb] at this) hF
theorem app_pend (ty : TypeId) {w : World} {ps : Value} {l : List (Nat × List Nat)} {e : Nat × List Nat} {g : Nat} (hown : w.ownsRow 0 84 129 ps l.length (pendC l)) (he : e.2.length = 128) (hl : l.length ≤ 549755813888) (hb : Blk w g 84 (entC e)) :
    ∃ g' cap' w', (Builtin.append_ #[75, 75] ty #[ps, .slice (some ⟨g, 0, none⟩) 1 1]).run Try.prog w = .ok (.slice (some ⟨g', 0, none⟩) (l ++ [e]).length cap') w' ∧ w'.ownsRow 0 84 129 (.slice (some ⟨g', 0, none⟩) (l ++ [e]).length cap') (l ++ [e]).length (pendC (l ++ [e])) ∧ Chg (fun k => ps.ownBlock = some k) w w' ∧ (ps.ownBlock = some g' ∨ g' = w.heap.size) := by
  obtain ⟨i, hi, hz0, hz1, hz2⟩ := info_wr
  obtain ⟨v', w', hr, h2, h3, _, h5⟩ := run_append_own_at (P := Try.prog) w 0 75 ty 84 i _ 129 136 Try.underlying75 hi hz0 hz1 hz2 (by simp [Value.cells]) (by decide) ps l.length (pendC l) hown ⟨g, 0, none⟩ 1 1 (entC e) (by rw [entC_len he]) (fun j u hj => by rw [Addr.add_mid, Nat.zero_add, hb.cell]; exact hj) (entC_one e) (by unfold maxLen; omega) (by omega) (Nat.zero_le _)
  have h2' : w'.ownsRow 0 84 129 v' (l ++ [e]).length (pendC (l ++ [e])) := by rw [List.length_append, pendC_snoc]; exact h2
  rcases h2'.2 with ⟨_, hn⟩ | ⟨g', cap', cur, rfl, _⟩
  · simp at hn
  · refine ⟨g', cap', w', hr, h2', grown_chg h3, ?_⟩
    rcases h5 with h5 | h5
    · exact .inl h5.symm
    · right; simpa [Value.ownBlock] using h5
set_option maxRecDepth 100000 in
set_option maxHeartbeats 4000000 in
theorem write_yes (F : Nat → Prop) (m : DM) (p at' : Nat) (ha : at' < m.n) (ad : Addr) (cap : Nat) (xs : List Nat) (hx : xs.length = 128) (hxb : ∀ x ∈ xs, x < 256) (hB : m.few 549755813888) (w : World) (h : PD w F p m) (hl : Lies w ad xs) (hF : ∀ k, F k → ad.block ≠ k) :
    Calls Try.prog 28 #[.pointer (some ⟨p, 0, none⟩), .int .i64 at', .slice (some ad) 128 cap] w fun e w' => e = .returned (.int .i64 (m.write at' xs).2) ∧ PD w' (Up F w w') p (m.write at' xs).1 ∧ Chg F w w' := by
  have HP := hide h
  have HX := hide hx
  obtain ⟨ok, ⟨lb, ps, hb, hlb, hown, fl, fo⟩, hf⟩ := h
  have HH : Hid (Calls Try.prog 30 #[.pointer (some ⟨p, 0, none⟩), .int .i64 at'] w fun e w' => e = .returned (.bool true) ∧ w' = w) := by
    have := has_any m ok lb ps p at' w hb
    have e1 : (decide (0 ≤ (at' : Int)) && decide ((at' : Int) < m.n)) = true := by simp; exact ha
    rw [e1] at this
    exact this
  have HSP := hide (spend_any m ok (.slice (some ⟨lb, 0, none⟩) m.n m.n) ps p w hb)
  have hc := hb.headC
  have HW : Hid (m.write at' xs = if m.spent.2 then ({ m.spent.1 with writes := m.spent.1.writes + 1, pend := m.spent.1.pend ++ [(at', xs)] }, 0) else (m.spent.1, 2)) := by
    unfold Hid DM.write
    rw [if_neg (by simp; exact ha), if_neg (by simp [hx])]
    rfl
  have HLB := hide hlb
  have HOW := hide hown
  have HOK := hide ok
  have HLI := hide hl
  have HFA := hide hF
  have HFL := hide fl
  have HFO := hide fo
  have HFP := hide hf
  have HHB := hide hb
  clear hlb hown ok hl hF hx hb
  go_enter Try.func28, Try.ntmps28
  go_wp2_with fail
  refine HH.out.mono ?_
  rintro e w1 ⟨rfl, rfl⟩
  clear HH
  go_wp2_with fail
  refine HSP.out.mono ?_
  rintro e w2 ⟨rfl, hb2, hch, hsz⟩
  clear HSP hc
  cases hsp : m.spent.2 with
  | false =>
    have HSPF : Hid (m.write at' xs = (m.spent.1, 2)) := by unfold Hid; rw [HW.out, hsp]; rfl
    have HB2 := hide hb2
    have HCH := hide hch
    clear hb2 hch HW
    go_wp2
    go_ret
    rw [HSPF.out]
    refine ⟨rfl, PD.mono (HP.out.head HHB.out HCH.out ?_ (spent_ok HOK.out) (spent_same m).1 (spent_same m).2.1 (spent_same m).2.2.1) (fun k hk => .inl hk), HCH.out.mono (fun k e => by subst e; exact HFP.out)⟩
    exact HB2.out
  | true =>
    obtain ⟨m0, hm0⟩ : ∃ x, x = m.spent.1 := ⟨_, rfl⟩
    have HWR : Hid (m.write at' xs = ({ m0 with writes := m0.writes + 1, pend := m0.pend ++ [(at', xs)] }, 0)) := by unfold Hid; rw [HW.out, hsp, hm0]; rfl
    have hs := spent_same m
    rw [← hm0] at hs hb2
    obtain ⟨hs1, hs2, hs3, hs4, hs5⟩ := hs
    have HO1 : Hid m0.ok := by unfold Hid; rw [hm0]; exact spent_ok HOK.out
    have hwl := hB.w
    have hpl := hB.p
    rw [← hs1] at hb2
    rw [← hs4] at hwl
    rw [← hs3] at hpl
    have HS1 := hide hs1
    have HS2 := hide hs2
    have HS3 := hide hs3
    have HCH := hide hch
    have hwI : (m0.writes : Int) + 1 ≤ 9223372036854775807 := by omega
    obtain ⟨m1, hm1⟩ : ∃ x : DM, x = { m0 with writes := m0.writes + 1 } := ⟨_, rfl⟩
    have HB3 : Hid (Blk (w2.setCell ⟨p, 5, none⟩ (.int .i64 ((m0.writes : Int) + 1))) p 79 (headC m1 (.slice (some ⟨lb, 0, none⟩) m1.n m1.n) ps)) := by
      unfold Hid
      have := hb2.set 5 (.int .i64 ((m0.writes : Int) + 1))
      rw [hm1]
      exact this
    have HM1 := hide hm1
    have hc := hb2.headC
    have hz := hb2.frozen
    have HC3 : Hid (Chg (fun k => k = p) w1 (w2.setCell ⟨p, 5, none⟩ (.int .i64 ((m0.writes : Int) + 1)))) := hch.trans (chg1 _ _ _ _)
    have HZ3 : Hid (w2.heap.size = w1.heap.size) := hsz
    clear hch HW hsp hb2 hm0 hm1 hs1 hs2 hs3 hs4 hs5
    go_wp2_with fail
    clear hc hz
    have HZ4 : Hid ((w2.setCell ⟨p, 5, none⟩ (.int .i64 ((m0.writes : Int) + 1))).heap.size = w1.heap.size) := by unfold Hid; rw [← HZ3.out]; simp
    generalize w2.setCell ⟨p, 5, none⟩ (.int .i64 ((m0.writes : Int) + 1)) = w3 at HB3 HC3 HZ4 ⊢
    clear HZ3
    have HSO : Hid (∀ W, Lies W ad xs → Calls Try.prog 29 #[.slice (some ad) 128 cap] W fun e w' => e = .returned (.agg (xs.map bv).toArray) ∧ G W w') := fun W h => sectorOf_any ad 128 cap xs HX.out (Nat.le_refl _) W h
    have HLI3 : Hid (Lies w3.drew ad xs) := fun j x hj => (HLI.out.chg HC3.out (fun e => by subst e; exact HFA.out _ HFP.out rfl)) j x hj
    have HNE : Hid (¬ ps.ownBlock = some p) := own_ne HOW.out HHB.out (by decide)
    have HOW3 : Hid (w3.ownsRow 0 84 129 ps m0.pend.length (pendC m0.pend)) := by
      unfold Hid
      rw [HS3.out]
      exact own_chg HOW.out HC3.out (fun g hg e => by subst e; exact HNE.out hg)
    refine wp_region_noPanic ?_
    refine wp_region_L (S := (fun W => Blk W p 79 (headC m1 (.slice (some ⟨lb, 0, none⟩) m1.n m1.n) ps))) 13 (by kernel_rfl) (HB3.out.drew) (fun hHeld => ?_)
    refine wpAnyL_take (i := 0) (v := ?_) rfl (by kernel_rfl) (by kernel_rfl) (by kernel_rfl) (by kernel_rfl) (fun _ _ _ h => h) (Or.inl ⟨by rfl, ?_⟩) hHeld ?_
    rotate_left 1
    · (intro w hSw; (try dsimp only at hSw); go_simp; try with_reducible rfl)
    try simp only [Act.put, List.getElem_toArray, List.getElem_cons_zero, List.setIfInBounds_toArray, List.set_cons_zero, List.set_cons_succ]
    refine wpAnyL_take (i := 1) (v := ?_) rfl (by kernel_rfl) (by kernel_rfl) (by kernel_rfl) (by kernel_rfl) (fun _ _ _ h => h) (Or.inl ⟨by rfl, ?_⟩) hHeld ?_
    rotate_left 1
    · (intro w hSw; (try dsimp only at hSw); go_simp; try with_reducible rfl)
    try simp only [Act.put, List.getElem_toArray, List.getElem_cons_zero, List.getElem_cons_succ, List.setIfInBounds_toArray, List.set_cons_zero, List.set_cons_succ]
    refine wpAnyL_take (i := 2) (v := ?_) rfl (by kernel_rfl) (by kernel_rfl) (by kernel_rfl) (by kernel_rfl) (fun _ _ _ h => h) (Or.inl ⟨by rfl, ?_⟩) hHeld ?_
    rotate_left 1
    · (intro w hSw; (try dsimp only at hSw); go_simp; try with_reducible rfl)
    try simp only [Act.put, List.getElem_toArray, List.getElem_cons_zero, List.getElem_cons_succ, List.setIfInBounds_toArray, List.set_cons_zero, List.set_cons_succ]
    refine wpAnyL_take (i := 3) (v := ?_) rfl (by kernel_rfl) (by kernel_rfl) (by kernel_rfl) (by kernel_rfl) (fun _ _ _ h => h) (Or.inl ⟨by rfl, ?_⟩) hHeld ?_
    rotate_left 1
    · (intro w hSw; (try dsimp only at hSw); go_simp; try with_reducible rfl)
    try simp only [Act.put, List.getElem_toArray, List.getElem_cons_zero, List.getElem_cons_succ, List.setIfInBounds_toArray, List.set_cons_zero, List.set_cons_succ]
    refine wpAnyL_take (i := 4) (v := ?_) rfl (by kernel_rfl) (by kernel_rfl) (by kernel_rfl) (by kernel_rfl) (fun _ _ _ h => h) (Or.inl ⟨by rfl, ?_⟩) hHeld ?_
    rotate_left 1
    · (intro w hSw; have hq := Blk.headC hSw; go_simp; try with_reducible rfl)
    try simp only [Act.put, List.getElem_toArray, List.getElem_cons_zero, List.getElem_cons_succ, List.setIfInBounds_toArray, List.set_cons_zero, List.set_cons_succ]
    refine wpAnyL_take (i := 5) (v := ?_) rfl (by kernel_rfl) (by kernel_rfl) (by kernel_rfl) (by kernel_rfl) (fun _ _ _ h => h) (Or.inl ⟨by rfl, ?_⟩) hHeld ?_
    rotate_left 1
    · (intro w hSw; (try dsimp only at hSw); go_simp; try with_reducible rfl)
    try simp only [Act.put, List.getElem_toArray, List.getElem_cons_zero, List.getElem_cons_succ, List.setIfInBounds_toArray, List.set_cons_zero, List.set_cons_succ]
    refine wpAnyL_take (i := 6) (v := ?_) rfl (by kernel_rfl) (by kernel_rfl) (by kernel_rfl) (by kernel_rfl) (fun _ _ _ h => h) (Or.inl ⟨by rfl, ?_⟩) hHeld ?_
    rotate_left 1
    · (intro w hSw; (try dsimp only at hSw); go_simp; try with_reducible rfl)
    try simp only [Act.put, List.getElem_toArray, List.getElem_cons_zero, List.getElem_cons_succ, List.setIfInBounds_toArray, List.set_cons_zero, List.set_cons_succ]
    refine wpAnyL_one (i := 7) (by kernel_rfl) rfl (by kernel_rfl) (fun K hK => ?_)
    clear hHeld
    go_simp
    with_reducible refine (HSO.out _ ?_).mono ?_
    exact HLI3.out
    rintro e w5 ⟨rfl, hb⟩
    have HG5 : Hid (G w3 w5) := G.trans (G.drew (G.refl _)) hb
    clear hb
    go_wp2_with fail
    refine hK.out _ _ (HB3.out.G HG5.out) (fun hHeld => ?_)
    clear hK K
    try simp only [Act.put, List.getElem_toArray, List.getElem_cons_zero, List.getElem_cons_succ, List.setIfInBounds_toArray, List.set_cons_zero, List.set_cons_succ]
    refine wpAnyL_take (i := 8) (v := (.agg (entC (at', xs)).toArray)) rfl (by kernel_rfl) (by kernel_rfl) (by kernel_rfl) (by kernel_rfl) (fun _ _ _ h => h) (Or.inl ⟨by rfl, ?_⟩) hHeld ?_
    · (intro w hSw; exact exec_build 84 _ rfl [(0, .int .i64 at'), (1, .agg (xs.map bv).toArray)] (by rfl) (run_build_write _ _ HX.out w))
    try simp only [Act.put, List.getElem_toArray, List.getElem_cons_zero, List.getElem_cons_succ, List.setIfInBounds_toArray, List.set_cons_zero, List.set_cons_succ]
    refine wpAnyL_one (i := 9) (by kernel_rfl) rfl (by kernel_rfl) (fun K hK => ?_)
    clear hHeld
    refine (if_pos rfl).mpr ?_
    refine wp_of_exec (exec_bslice 75 1 _ rfl [(0, .agg (entC (at', xs)).toArray)] (by rfl) (run_bslice (at', xs) HX.out w5)) ?_
    have HG6 : Hid (G w3 (w5.alloc (.cells (entC (at', xs)).toArray 84))) := HG5.out.alloc _
    have HB6 : Hid (Blk (w5.alloc (.cells (entC (at', xs)).toArray 84)) w5.heap.size 84 (entC (at', xs))) := Blk.new _ _ _
    generalize w5.alloc (.cells (entC (at', xs)).toArray 84) = w6 at HG6 HB6 ⊢
    refine hK.out _ _ (HB3.out.G HG6.out) (fun hHeld => ?_)
    clear hK K
    try simp only [Act.put, List.getElem_toArray, List.getElem_cons_zero, List.getElem_cons_succ, List.setIfInBounds_toArray, List.set_cons_zero, List.set_cons_succ]
    refine wpAnyL_one (i := 10) (by kernel_rfl) rfl (by kernel_rfl) (fun K hK => ?_)
    clear hHeld
    obtain ⟨g7, cap7, w7, hrun, ho7, hch7, hat⟩ := app_pend 75 (own_G HOW3.out HG6.out) HX.out hpl HB6.out
    have HO7 := hide ho7
    have HC7 := hide hch7
    have HAT := hide hat
    clear ho7 hch7 hat
    refine (if_pos rfl).mpr ?_
    refine wp_of_exec (exec_append _ _ 75 rfl ps (.slice (some ⟨w5.heap.size, 0, none⟩) 1 1) rfl rfl 75 rfl hrun) ?_
    clear hrun
    refine hK.out _ _ ((HB3.out.G HG6.out).chg HC7.out HNE.out) (fun hHeld => ?_)
    clear hK K
    try simp only [Act.put, List.getElem_toArray, List.getElem_cons_zero, List.getElem_cons_succ, List.setIfInBounds_toArray, List.set_cons_zero, List.set_cons_succ]
    refine wpAnyL_take2 12 (i := 11) (v := ?_) rfl (by kernel_rfl) (by kernel_rfl) (by kernel_rfl) (by kernel_rfl) (fun _ _ _ h => h) (Or.inl ⟨by rfl, ?_⟩) hHeld ?_
    rotate_left 1
    · (intro w hSw; (try dsimp only at hSw); go_simp; try with_reducible rfl)
    try simp only [Act.put, List.getElem_toArray, List.getElem_cons_zero, List.getElem_cons_succ, List.setIfInBounds_toArray, List.set_cons_zero, List.set_cons_succ]
    refine wpAnyL_take (i := 12) (v := ?_) rfl (by kernel_rfl) (by kernel_rfl) (by kernel_rfl) (by kernel_rfl) (fun _ _ _ h => h) (Or.inl ⟨by rfl, ?_⟩) hHeld ?_
    rotate_left 1
    · (intro w hSw; (try dsimp only at hSw); go_simp; try with_reducible rfl)
    try simp only [Act.put, List.getElem_toArray, List.getElem_cons_zero, List.getElem_cons_succ, List.setIfInBounds_toArray, List.set_cons_zero, List.set_cons_succ]
    refine wpAnyL_last (by kernel_rfl) rfl (by kernel_rfl) (fun K hK => ?_)
    clear hHeld
    have hc7 := ((HB3.out.G HG6.out).chg HC7.out HNE.out).headC
    have hz7 := ((HB3.out.G HG6.out).chg HC7.out HNE.out).frozen
    go_simp
    refine hK.out _ _ ?_
    clear hK K
    refine NoPanic.normal ?_
    have HB7 : Hid (Blk w7 p 79 (headC m1 (.slice (some ⟨lb, 0, none⟩) m1.n m1.n) ps)) := (HB3.out.G HG6.out).chg HC7.out HNE.out
    have hlen : (m0.pend ++ [(at', xs)]).length = m0.pend.length + 1 := by simp
    have HO8 := HO7.out
    rw [hlen] at HO8
    have HO9 := hide HO8
    clear HO8 hc7 hz7 hlen
    have HCA : Hid (Chg (fun k => k = p ∨ ps.ownBlock = some k) w1 (w7.setCell ⟨p, 1, none⟩ (.slice (some ⟨g7, 0, none⟩) (m0.pend.length + 1) cap7))) :=
      (((HC3.out.mono (fun k e => .inl e)).trans HG6.out.chg).trans (HC7.out.mono (fun k e => .inr e))).trans ((chg1 _ _ _ _).mono (fun k e => .inl e))
    go_wp2
    go_ret
    rw [HWR.out]
    refine ⟨rfl, ⟨pend_add HO1.out (by rw [HS1.out]; exact ha) HX.out hxb _, ⟨lb, .slice (some ⟨g7, 0, none⟩) (m0.pend.length + 1) cap7, ?_, ?_, ?_, .inl HFL.out, ?_⟩, .inl HFP.out⟩, HCA.out.mono (fun k e => ?_)⟩
    · have := HB7.out.set 1 (.slice (some ⟨g7, 0, none⟩) (m0.pend.length + 1) cap7)
      rw [HM1.out] at this
      exact this
    · have : Blk w1 lb 81 (m0.laid.map bv) := by rw [HS2.out]; exact HLB.out
      refine this.chg HCA.out (fun e => ?_)
      rcases e with e | e
      · exact HLB.out.ne HHB.out (by decide) e
      · exact own_ne HOW.out HLB.out (by decide) e
    · have := own_chg HO9.out (chg1 w7 p 1 (.slice (some ⟨g7, 0, none⟩) (m0.pend.length + 1) cap7)) (fun g hg e => by subst e; exact own_ne HO9.out HB7.out (by decide) hg)
      simp only [List.length_append, List.length_cons, List.length_nil]
      exact this
    · intro g hg
      simp only [Value.ownBlock, Option.some.injEq] at hg
      subst hg
      rcases HAT.out with h | h
      · exact .inl (HFO.out _ h)
      · right
        have h1 := HG6.out.size
        have h2 := HZ4.out
        have h3 := own_lt HO9.out (g := g7) rfl
        refine ⟨by omega, by simpa using h3⟩
    · rcases e with e | e
      · subst e; exact HFP.out
      · exact HFO.out _ e
end Go.Proofs.Ytbjbphhcmmaaoaa
