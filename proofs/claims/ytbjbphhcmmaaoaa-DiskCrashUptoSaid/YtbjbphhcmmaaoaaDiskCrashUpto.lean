/- DiskCrash: the row, for what is of the given bulk. -/
import Derived.Test.YtbjbphhcmmaaoaaLwH
import Derived.Test.YtbjbphhcmmaaoaaCr6
import Derived.OpenShut
import Derived.JoinedCond
namespace Go.Proofs.Ytbjbphhcmmaaoaa.diskCrash
open Go.ChangeShapes Go.WideShapes Go.ChangeAt Go.RowKit

theorem own : ownKnob Try.prog.godebug = none := by kernel_rfl
theorem laidOut : laidOutB Try.prog = true := by kernel_rfl
theorem cells_put : Try.prog.cellsOf 71 = 2 := by kernel_rfl
theorem cells_ps : Try.prog.cellsOf 29 = 1 := by kernel_rfl
theorem cells_rd : Try.prog.cellsOf 31 = 4 := by kernel_rfl
section
variable {H : Type} {enc : TypeId × Value → H} {w : World}
set_option maxRecDepth 100000 in
theorem open_put {fuel : Nat} {cs : List Value} {x : DataW H × List MemPlace} (h : trodA enc w fuel 71 cs = some x) : ∃ e : Pu, cs = e.L := by
  obtain ⟨xs, n, rfl, rfl, hl, hx, hf⟩ := DataW.trod_struct Try.underlying71 h
  rw [cells_put] at hl
  match cs, hl with
  | [c0, c1], _ =>
    have f0 : trodA enc w n 3 (([c0, c1].drop 0).take (Try.prog.cellsOf 3)) = xs[0]? := hf 0 _ rfl
    have f1 : trodA enc w n 5 (([c0, c1].drop 1).take (Try.prog.cellsOf 5)) = xs[1]? := hf 1 _ rfl
    simp only [cells_int, cells_u8, List.drop_zero, List.drop_succ_cons, List.take_succ_cons, List.take_zero] at f0 f1
    match xs, hx with
    | [y0, y1], _ =>
      simp only [List.getElem?_cons_zero, List.getElem?_cons_succ] at f0 f1
      obtain ⟨a, e0, _, _⟩ := DataW.trod_int Try.underlying3 f0
      obtain ⟨f, e1, _, wf⟩ := DataW.trod_int Try.underlying5 f1
      have hq : 0 ≤ f ∧ f ≤ 255 := by simpa [Lit.wf, IntKind.min, IntKind.max, IntKind.signed, IntKind.bits] using wf
      refine ⟨⟨a, f.toNat⟩, ?_⟩
      simp only [List.cons.injEq, and_true] at e0 e1
      rw [e0, e1]
      simp only [Pu.L, bv]
      rw [Int.toNat_of_nonneg hq.1]
theorem open_puts {fuel : Nat} {c : Value} {x : DataW H × List MemPlace} (h : trodA enc w fuel 29 [c] = some x) :
    (∃ L E, L ≤ Rows.uptoBulk x.1 ∧ PuS w c L E) ∧ ∀ j, Value.blk c j → j < w.heap.size := by
  rcases Go.Deep.open_slice Try.underlying29 h with ⟨hc, rfl⟩ | ⟨a, len, cap, m, n, D, Pl, hc, _, hl, hm, rfl, rfl, hx⟩
  · obtain rfl : c = .slice none 0 0 := by simpa using hc
    exact ⟨⟨0, fun _ => ⟨0, 0⟩, Nat.zero_le _, none, 0, rfl, .inl rfl⟩, fun j hj => by obtain ⟨_, _, _, e, _⟩ := hj; cases e⟩
  · have each : ∀ i, i < m → ∃ e : Pu, w.cell? (a.add (i * 2)) = some (I e.at') ∧ w.cell? (a.add (i * 2 + 1)) = some (bv e.fill) := by
      intro i hi
      obtain ⟨cs', h1, h2⟩ := hx i hi
      obtain ⟨e, he⟩ := open_put h2
      rw [cells_put] at h1
      obtain ⟨_, _, hcell⟩ := World.cells?_some h1
      have h3 := hcell 0 (by decide)
      have h4 := hcell 1 (by decide)
      rw [Go.Deep.add_add, Nat.add_zero] at h3
      rw [Go.Deep.add_add] at h4
      rw [he] at h3 h4
      exact ⟨e, h3, h4⟩
    have : Inhabited Pu := ⟨⟨0, 0⟩⟩
    obtain ⟨E, hE⟩ := Go.Deep.choose_lt each
    obtain rfl : c = .slice (some a) len m := by simpa using hc
    refine ⟨⟨len, E, ?_, some a, m, rfl, ?_⟩, fun j hj => ?_⟩
    · have := bulk_slice ((List.range len).map D) ((List.range (m - len)).map fun j => D (len + j))
      simpa using this
    · by_cases h0 : len = 0
      · exact .inl h0
      · obtain ⟨b, o, rfl⟩ := spot_of (by have := (hE 0 (by omega)).1; rw [Nat.zero_mul] at this; exact this)
        refine .inr ⟨b, o, rfl, fun i hi => ?_⟩
        have h1 := hE i (by omega)
        rw [Addr.add_mid, Addr.add_mid] at h1
        exact ⟨h1.1, by rw [Nat.add_assoc]; exact h1.2⟩
    · obtain ⟨a', n', c', e, h0, rfl⟩ := hj
      cases e
      have := World.block_lt_of_cell? _ _ (hE 0 (by omega)).1
      simpa [Addr.add] using this
set_option maxHeartbeats 1000000 in
set_option maxRecDepth 100000 in
theorem open_round {fuel : Nat} {cs : List Value} {x : DataW H × List MemPlace} (h : trodA enc w fuel 31 cs = some x) (hk : Rows.uptoBulk x.1 ≤ 1048576) : ∃ e : Rd, cs = [e.v1, e.v2, e.kv, .bool e.dk] ∧ RdOk w e ∧ e.L1 + e.L2 ≤ Rows.uptoBulk x.1 := by
  obtain ⟨xs, n, rfl, rfl, hl, hx, hf⟩ := DataW.trod_struct Try.underlying31 h
  rw [cells_rd] at hl
  match cs, hl with
  | [c0, c1, c2, c3], _ =>
    have f0 : trodA enc w n 29 (([c0, c1, c2, c3].drop 0).take (Try.prog.cellsOf 29)) = xs[0]? := hf 0 _ rfl
    have f1 : trodA enc w n 29 (([c0, c1, c2, c3].drop 1).take (Try.prog.cellsOf 29)) = xs[1]? := hf 1 _ rfl
    have f2 : trodA enc w n 23 (([c0, c1, c2, c3].drop 2).take (Try.prog.cellsOf 23)) = xs[2]? := hf 2 _ rfl
    have f3 : trodA enc w n 4 (([c0, c1, c2, c3].drop 3).take (Try.prog.cellsOf 4)) = xs[3]? := hf 3 _ rfl
    simp only [cells_ps, cells_ks, cells_bool, List.drop_zero, List.drop_succ_cons, List.take_succ_cons, List.take_zero] at f0 f1 f2 f3
    match xs, hx with
    | [y0, y1, y2, y3], _ =>
      simp only [List.getElem?_cons_zero, List.getElem?_cons_succ] at f0 f1 f2 f3
      obtain ⟨⟨L1, E1, p1, p2⟩, p3⟩ := open_puts f0
      obtain ⟨⟨L2, E2, r1, r2⟩, r3⟩ := open_puts f1
      obtain ⟨⟨ks, q1, q2⟩, q3, q4⟩ := open_keeps f2
      obtain ⟨dk, e3, _⟩ := DataW.trod_bool Try.underlying4 f3
      simp only [List.cons.injEq, and_true] at e3
      simp only [List.map_cons, List.map_nil, Rows.uptoBulk, Rows.uptoBulkAll] at hk ⊢
      refine ⟨⟨c0, c1, c2, dk, L1, L2, E1, E2, ks⟩, by rw [e3], ⟨p2, r2, q2, q3, p3, r3, q4, by show L1 ≤ 1048576; omega, by show L2 ≤ 1048576; omega, by show ks.length ≤ 1073741824; omega⟩, ?_⟩
      show L1 + L2 ≤ _
      omega
theorem bulkAll_append (a b : List (DataW H)) : Rows.uptoBulkAll (a ++ b) = Rows.uptoBulkAll a + Rows.uptoBulkAll b := by
  induction a with
  | nil => simp [Rows.uptoBulkAll]
  | cons x r ih => simp only [List.cons_append, Rows.uptoBulkAll, ih]; omega
theorem bulk_step (D : Nat → DataW H) (i : Nat) : Rows.uptoBulkAll ((List.range (i + 1)).map D) = Rows.uptoBulkAll ((List.range i).map D) + Rows.uptoBulk (D i) := by
  rw [List.range_succ, List.map_append, bulkAll_append]
  simp [Rows.uptoBulkAll]
theorem bulk_mono (D : Nat → DataW H) (i : Nat) : ∀ k, Rows.uptoBulkAll ((List.range i).map D) ≤ Rows.uptoBulkAll ((List.range (i + k)).map D)
  | 0 => Nat.le_refl _
  | k + 1 => by
    have h1 := bulk_mono D i k
    have h2 := bulk_step D (i + k)
    rw [← Nat.add_assoc, h2]
    omega
set_option maxRecDepth 100000 in
theorem open_rounds {b0 : Nat} {v : Value} {d : DataW H} {ps : List MemPlace} (hval : Value.okWide Try.prog w .any b0 22 v) (h : DataW.Trod enc Try.prog w 0 (fun _ => true) true 22 v d ps) (hk : Rows.uptoBulk d ≤ 1048576) :
    ∃ (R : Nat) (E : Nat → Rd) (Sm : Nat → Nat), R ≤ 1048576 ∧ RdsV w v R E ∧ Sm 0 = 0 ∧ (∀ i, i < R → Sm i + (E i).L1 + (E i).L2 ≤ Sm (i + 1)) ∧ ∀ i, i ≤ R → Sm i ≤ 1048576 := by
  obtain ⟨a0, len0, cap0, rfl⟩ := okWide_slice Try.underlying22 hval
  obtain ⟨fuel, hf⟩ := h
  rcases Go.Deep.open_slice Try.underlying22 hf with ⟨hc, _⟩ | ⟨a, len, cap, m, n, D, Pl, hc, _, hl, hm, rfl, hx', hx⟩
  · have hv : Value.slice a0 len0 cap0 = .slice none 0 0 := by simpa [Value.cells] using hc
    rw [hv]
    exact ⟨0, fun _ => ⟨.slice none 0 0, .slice none 0 0, .slice none 0 0, false, 0, 0, fun _ => ⟨0, 0⟩, fun _ => ⟨0, 0⟩, []⟩, fun _ => 0, Nat.zero_le _, ⟨none, 0, rfl, .inl rfl, fun i hi => by omega⟩, rfl, fun i hi => by omega, fun i hi => Nat.zero_le _⟩
  · simp only [Prod.mk.injEq] at hx'
    obtain ⟨rfl, _⟩ := hx'
    have hlen := Nat.le_trans (bulk_slice _ _) hk
    simp only [List.length_map, List.length_range] at hlen
    have hv : Value.slice a0 len0 cap0 = .slice (some a) len m := by simpa [Value.cells] using hc
    rw [hv] at hval ⊢
    have hspot : a.spot = none := by
      unfold Value.okWide at hval
      simp only [Try.underlying22] at hval
      unfold Cell.okWide at hval
      simp only [Try.underlying22] at hval
      unfold Cell.ok at hval
      simp only [Try.underlying22] at hval
      exact hval.2.2.2.1
    obtain ⟨ab, ao, asp⟩ := a
    simp only at hspot
    subst hspot
    have each : ∀ i, i < len → ∃ e : Rd, w.rangeAt ab (ao + i * 4) [e.v1, e.v2, e.kv, .bool e.dk] ∧ RdOk w e ∧ e.L1 + e.L2 ≤ Rows.uptoBulk (D i) := by
      intro i hi
      obtain ⟨cs', h1, h2⟩ := hx i (by omega)
      obtain ⟨e, rfl, he, he2⟩ := open_round h2 (Nat.le_trans (bulk_elem (List.mem_map.2 ⟨i, List.mem_range.2 hi, rfl⟩)) hk)
      rw [cells_rd] at h1
      obtain ⟨_, _, hcell⟩ := World.cells?_some h1
      refine ⟨e, fun j v hv => ?_, he, he2⟩
      have hj : j < 4 := (List.getElem?_eq_some_iff.1 hv).1
      have := hcell j hj
      rw [Go.Deep.add_add, Addr.add_mid] at this
      rw [Nat.add_assoc, this]; exact hv
    have : Inhabited Rd := ⟨⟨.slice none 0 0, .slice none 0 0, .slice none 0 0, false, 0, 0, fun _ => ⟨0, 0⟩, fun _ => ⟨0, 0⟩, []⟩⟩
    obtain ⟨E, hE⟩ := Go.Deep.choose_lt each
    have hstep := bulk_step D
    have htop : Rows.uptoBulkAll ((List.range len).map D) ≤ 1048576 := by
      refine Nat.le_trans ?_ hk
      simp only [Rows.uptoBulk]
      omega
    refine ⟨len, E, fun i => Rows.uptoBulkAll ((List.range i).map D), hlen, ⟨some ⟨ab, ao, none⟩, m, rfl, .inr ⟨ab, ao, rfl, fun i hi => (hE i hi).1⟩, fun i hi => (hE i hi).2.1⟩, by simp [Rows.uptoBulkAll], fun i hi => ?_, fun i hi => ?_⟩
    · show Rows.uptoBulkAll ((List.range i).map D) + (E i).L1 + (E i).L2 ≤ Rows.uptoBulkAll ((List.range (i + 1)).map D)
      rw [hstep i]
      have := (hE i hi).2.2
      omega
    · show Rows.uptoBulkAll ((List.range i).map D) ≤ 1048576
      obtain ⟨k, hk'⟩ : ∃ k, len = i + k := ⟨len - i, by omega⟩
      rw [hk'] at htop
      exact Nat.le_trans (bulk_mono D i k) htop
end
theorem law (n : Int) (v av : Value) (R : Nat) (hR : R ≤ 1048576) (E : Nat → Rd) (Sm : Nat → Nat) (hS0 : Sm 0 = 0) (hS : ∀ i, i < R → Sm i + (E i).L1 + (E i).L2 ≤ Sm (i + 1)) (hSm : ∀ i, i ≤ R → Sm i ≤ 1048576) (ka : List Bool) (hkal : ka.length ≤ 1073741824) (W : World) (hv : RdsV W v R E) (hka : Keeps W av ka) (hkan : av = .slice none 0 0 ∨ ∃ ad n c, av = .slice (some ad) n c) :
    Calls Try.prog 3 #[.int .i64 n, v, av] W fun r w' => r = .returned (.bool true) ∧ G W w' := by
  by_cases hn : n < 1 ∨ 4096 < n
  · exact crash_no n v av hn W
  · obtain ⟨k, rfl⟩ : ∃ k : Nat, n = k := ⟨n.toNat, by omega⟩
    exact crash_some k (by omega) (by omega) v av R hR E Sm hS0 hS hSm ka hkal W hv hka hkan
set_option maxRecDepth 100000 in
theorem contract (H : Type) (enc : TypeId × Value → H) (W : World) (base : Nat) (args : Array Value) (ds gs : List (DataW H)) (before : List MemPlace)
    (hval : ∀ (j : Nat) t v, Try.f3.params[j]? = some t → args[j]? = some v → Value.okWide Try.prog W .any base t v)
    (hW : DataW.Whole enc Try.prog Try.f3.params.toList Rows.diskCrashSpec.vars false W args.toList ds gs before) (hk : Rows.uptoSmall H (ds ++ gs) = true) :
    Calls Try.prog 3 args W fun e W' => ∃ v, e = .returned v ∧ Rows.diskCrashSpec.post enc Try.prog Try.f3 false true false false W args v W' := by
  have hW' := hW
  obtain ⟨p, q, hA0, hV, rfl, _, _⟩ := hW
  have hA : DataW.TrodAll enc Try.prog W 0 (fun _ => true) true Try.f3.params.toList args.toList ds p := hA0
  rw [Try.params3] at hA hval
  obtain ⟨v0, vs0, d0, ds0, p0, q0, hargs, rfl, rfl, h0, r0⟩ := trodAll_cons hA
  obtain ⟨v1, vs1, d1, ds1, p1, q1, rfl, rfl, rfl, h1, r1⟩ := trodAll_cons r0
  obtain ⟨v2, vs2, d2, ds2, p2, q2, rfl, rfl, rfl, h2, r2⟩ := trodAll_cons r1
  obtain ⟨rfl, rfl, rfl⟩ := trodAll_nil r2
  obtain rfl : args = #[v0, v1, v2] := by cases args; simp_all
  obtain ⟨rfl, rfl⟩ := trodVars_none hV
  have hlt : ∀ x ∈ p0 ++ (p1 ++ (p2 ++ [])), x.block < W.heap.size := fun x hx => by simpa using hW'.lt x (by simpa using hx)
  have hlt0 : ∀ x ∈ p0, x.block < W.heap.size := fun x hx => hlt x (by simp [hx])
  have hlt1 : ∀ x ∈ p1, x.block < W.heap.size := fun x hx => hlt x (by simp [hx])
  have hlt2 : ∀ x ∈ p2, x.block < W.heap.size := fun x hx => hlt x (by simp [hx])
  have hb : Rows.uptoBulk d1 ≤ 1048576 ∧ Rows.uptoBulk d2 ≤ 1048576 := by
    have h : Rows.uptoBulkAll ([d0, d1, d2] ++ []) ≤ 1048576 := of_decide_eq_true hk
    simp only [List.append_nil, Rows.uptoBulkAll] at h
    omega
  have t0 := h0
  have t2 := h2
  obtain ⟨n0, rfl, _, _, _⟩ := open_int Try.underlying3 (hval 0 3 v0 rfl rfl) t0
  obtain ⟨R, E, Sm, hR, s1, s2, s3, s4⟩ := open_rounds (hval 1 22 v1 rfl rfl) h1 hb.1
  obtain ⟨y2, len2, cap2, rfl⟩ := okWide_slice Try.underlying23 (hval 2 23 v2 rfl rfl)
  obtain ⟨f2, e2⟩ := t2
  obtain ⟨⟨ka, k1, k2⟩, k3, _⟩ := open_keeps (c := .slice y2 len2 cap2) e2
  refine (law n0 v1 _ R hR E Sm s2 s3 s4 ka (by have := hb.2; simp only at k1; omega) W s1 k2 k3).mono fun e W' ⟨he, hg⟩ => ?_
  subst he
  exact ⟨_, rfl, _, _, _, [], _, [], hW', trodAll_mk1 (shut_bool Try.underlying4 _), (trodAll_cons_mk (Below.trod laidOut (by kernel_rfl) (of_decide_eq_true (by kernel_rfl)) h0 hg hlt0) (trodAll_cons_mk (Below.trod laidOut (by kernel_rfl) (of_decide_eq_true (by kernel_rfl)) h1 hg hlt1) (trodAll_cons_mk (Below.trod laidOut (by kernel_rfl) (of_decide_eq_true (by kernel_rfl)) h2 hg hlt2) trodAll_mk0))), rfl, Below.frame hg _, fun h => by cases h⟩
set_option maxRecDepth 100000 in
theorem lifted (os : Os) (started : os.Started) (H : Type) (enc : TypeId × Value → H) (F : Stop.Interp) :
    ReturnsInHanded {} Try.checked os 3 .any ((Rows.OpenSpec.upto Rows.diskCrashSpec).pre6 enc Try.prog Try.f3 Rows.diskCrashUptoRow.domain false) (((Rows.OpenSpec.upto Rows.diskCrashSpec).at F).post enc Try.prog Try.f3 false true false false) := by
  refine returnsInHanded_of_cond (C := Try.checked) (s := Rows.OpenSpec.upto Rows.diskCrashSpec) (k := Rows.uptoSmall) rfl own started (by kernel_rfl) Try.func3
    (OpenSpec.witness (enc := enc) (C := Try.checked) (s := Rows.OpenSpec.upto Rows.diskCrashSpec) (k := Rows.uptoSmall) rfl false ⟨#[], #[.int .i64 0, .slice none 0 0, .slice none 0 0], []⟩ 8 (by kernel_rfl) (by kernel_rfl) (by kernel_rfl)
      (x := ([.lit (.int .i64 0), .nil, .nil], [], [])) (by kernel_rfl) rfl (by kernel_rfl)) ?_
  intro W base args ds gs before hval hW _ hk _
  exact contract H enc W base args ds gs before hval hW hk
end Go.Proofs.Ytbjbphhcmmaaoaa.diskCrash
namespace Go.Proofs.Ytbjbphhcmmaaoaa
theorem diskCrash_upto : Rows.DiskCrashUptoSaid :=
  OpenClaim.holds_of_cond 3 Try.f3 rfl rfl rfl rfl rfl rfl rfl ⟨rfl, rfl, rfl, rfl, rfl⟩ rfl rfl rfl rfl rfl (by kernel_rfl) Try.func3 (by kernel_rfl)
    (of_decide_eq_true (by kernel_rfl)) (by unfold Func.isWrapper; first | (rw [if_pos (by decide +kernel)]; kernel_rfl) | (rw [if_neg (by decide +kernel)]; exact ⟨rfl, rfl⟩))
    (fun os started H enc _ F => diskCrash.lifted os started H enc F)
#print axioms diskCrash_upto
end Go.Proofs.Ytbjbphhcmmaaoaa
