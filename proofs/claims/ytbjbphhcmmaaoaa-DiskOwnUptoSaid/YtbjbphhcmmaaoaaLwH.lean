/- A script that came in, opened: its entries, their bytes, their bools. -/
import Derived.Test.YtbjbphhcmmaaoaaLwG
import Derived.Test.YtbjbphhcmmaaoaaRows
import Derived.Deep.Slices
import Derived.SizedLaws
import Derived.ProofKit
namespace Go.Proofs.Ytbjbphhcmmaaoaa
open Go.ChangeShapes Go.WideShapes Go.ChangeAt Go.RowKit

theorem cells_op : Try.prog.cellsOf 39 = 5 := by kernel_rfl
theorem cells_int : Try.prog.cellsOf 3 = 1 := by kernel_rfl
theorem cells_bs : Try.prog.cellsOf 28 = 1 := by kernel_rfl
theorem cells_ks : Try.prog.cellsOf 23 = 1 := by kernel_rfl
theorem cells_u8 : Try.prog.cellsOf 5 = 1 := by kernel_rfl
theorem cells_bool : Try.prog.cellsOf 4 = 1 := by kernel_rfl
section
variable {H : Type} {enc : TypeId × Value → H} {w : World}
theorem bulk_pos (d : DataW H) : 1 ≤ Rows.uptoBulk d := by
  cases d with
  | lit l => cases l <;> simp [Rows.uptoBulk]
  | _ => simp [Rows.uptoBulk]
theorem bulk_mem : ∀ {l : List (DataW H)} {d : DataW H}, d ∈ l → Rows.uptoBulk d ≤ Rows.uptoBulkAll l
  | x :: r, d, h => by
    simp only [Rows.uptoBulkAll]
    rcases List.mem_cons.1 h with rfl | h
    · omega
    · have := bulk_mem h; omega
theorem bulk_len : ∀ l : List (DataW H), l.length ≤ Rows.uptoBulkAll l
  | [] => by simp
  | x :: r => by
    have := bulk_pos x
    have := bulk_len r
    simp only [Rows.uptoBulkAll, List.length_cons]
    omega
theorem bulk_slice (es sp : List (DataW H)) : es.length ≤ Rows.uptoBulk (.slice es sp) := by
  have := bulk_len es
  simp only [Rows.uptoBulk]
  omega
theorem bulk_elem {es sp : List (DataW H)} {d : DataW H} (h : d ∈ es) : Rows.uptoBulk d ≤ Rows.uptoBulk (.slice es sp) := by
  have := bulk_mem h
  simp only [Rows.uptoBulk]
  omega
theorem bulk_part {ps : List (DataW H)} {d : DataW H} (h : d ∈ ps) : Rows.uptoBulk d ≤ Rows.uptoBulk (.agg ps) := by
  have := bulk_mem h
  simp only [Rows.uptoBulk]
  omega
noncomputable abbrev trodA (enc : TypeId × Value → H) (w : World) (fuel : Nat) (t : TypeId) (cs : List Value) : Option (DataW H × List MemPlace) := DataW.trod enc Try.prog w 0 (fun _ => true) true fuel t cs
theorem spot_of {a : Addr} {v : Value} (h : w.cell? (a.add 0) = some v) : ∃ b o, a = ⟨b, o, none⟩ := by
  obtain ⟨b, o, s⟩ := a
  have e : Addr.add ⟨b, o, s⟩ 0 = ⟨b, o, s⟩ := by simp [Addr.add]
  rw [e] at h
  cases s with
  | none => exact ⟨b, o, rfl⟩
  | some x =>
    unfold World.cell? at h
    split at h
    · simp at h
    · cases h
theorem open_bytes {fuel : Nat} {c : Value} {x : DataW H × List MemPlace} (h : trodA enc w fuel 28 [c] = some x) :
    (∃ xs : List Nat, (∀ y ∈ xs, y < 256) ∧ xs.length ≤ Rows.uptoBulk x.1 ∧ Bytes w c xs) ∧ (c = .slice none 0 0 ∨ ∃ ad n k, c = .slice (some ad) n k) ∧ ∀ j, Value.blk c j → j < w.heap.size := by
  rcases Go.Deep.open_slice Try.underlying28 h with ⟨hc, rfl⟩ | ⟨a, len, cap, m, n, D, Pl, hc, _, hl, hm, rfl, rfl, hx⟩
  · obtain rfl : c = .slice none 0 0 := by simpa using hc
    exact ⟨⟨[], by simp, by simp, none, 0, rfl, Nat.le_refl _, .inl rfl⟩, .inl rfl, fun j hj => by obtain ⟨_, _, _, e, _⟩ := hj; cases e⟩
  · have each : ∀ i, i < m → ∃ q : Nat, w.cell? (a.add i) = some (bv q) ∧ q < 256 := by
      intro i hi
      obtain ⟨cs', h1, h2⟩ := hx i hi
      obtain ⟨q, rfl, _, wq⟩ := DataW.trod_int Try.underlying5 h2
      rw [cells_u8] at h1
      obtain ⟨_, _, hcell⟩ := World.cells?_some h1
      have h3 := hcell 0 (by decide)
      rw [Go.Deep.add_add, Nat.mul_one, Nat.add_zero] at h3
      have hq : 0 ≤ q ∧ q ≤ 255 := by simpa [Lit.wf, IntKind.min, IntKind.max, IntKind.signed, IntKind.bits] using wq
      exact ⟨q.toNat, by rw [h3]; simp only [bv]; rw [Int.toNat_of_nonneg hq.1]; rfl, by omega⟩
    obtain ⟨f, hf⟩ := Go.Deep.choose_lt each
    obtain rfl : c = .slice (some a) len m := by simpa using hc
    have hxl : ((List.range len).map f).length = len := by simp
    refine ⟨⟨(List.range len).map f, fun y hy => ?_, ?_, some a, m, by rw [hxl], by rw [hxl]; exact hl, ?_⟩, .inr ⟨_, _, _, rfl⟩, fun j hj => ?_⟩
    · obtain ⟨i, hi, rfl⟩ := List.mem_map.1 hy
      exact (hf i (by have := List.mem_range.1 hi; omega)).2
    · have := bulk_slice ((List.range len).map D) ((List.range (m - len)).map fun j => D (len + j))
      rw [hxl]
      simpa using this
    · by_cases h0 : len = 0
      · left; subst h0; rfl
      · obtain ⟨b, o, rfl⟩ := spot_of (hf 0 (by omega)).1
        refine .inr ⟨b, o, rfl, fun j y hj => ?_⟩
        rw [List.getElem?_map, Option.map_eq_some_iff] at hj
        obtain ⟨i, hi, rfl⟩ := hj
        obtain ⟨hjl, rfl⟩ := List.getElem?_eq_some_iff.1 hi
        simp only [List.length_range, List.getElem_range] at hjl ⊢
        exact (hf j (by omega)).1
    · obtain ⟨a', n', c', e, h0, rfl⟩ := hj
      cases e
      have := World.block_lt_of_cell? _ _ (hf 0 (by omega)).1
      simpa [Addr.add] using this
theorem open_keeps {fuel : Nat} {c : Value} {x : DataW H × List MemPlace} (h : trodA enc w fuel 23 [c] = some x) :
    (∃ ks : List Bool, ks.length ≤ Rows.uptoBulk x.1 ∧ Keeps w c ks) ∧ (c = .slice none 0 0 ∨ ∃ ad n k, c = .slice (some ad) n k) ∧ ∀ j, Value.blk c j → j < w.heap.size := by
  rcases Go.Deep.open_slice Try.underlying23 h with ⟨hc, rfl⟩ | ⟨a, len, cap, m, n, D, Pl, hc, _, hl, hm, rfl, rfl, hx⟩
  · obtain rfl : c = .slice none 0 0 := by simpa using hc
    exact ⟨⟨[], by simp, none, 0, rfl, Nat.le_refl _, .inl rfl⟩, .inl rfl, fun j hj => by obtain ⟨_, _, _, e, _⟩ := hj; cases e⟩
  · have each : ∀ i, i < m → ∃ q : Bool, w.cell? (a.add i) = some (.bool q) := by
      intro i hi
      obtain ⟨cs', h1, h2⟩ := hx i hi
      obtain ⟨q, rfl, _⟩ := DataW.trod_bool Try.underlying4 h2
      rw [cells_bool] at h1
      obtain ⟨_, _, hcell⟩ := World.cells?_some h1
      have h3 := hcell 0 (by decide)
      rw [Go.Deep.add_add, Nat.mul_one, Nat.add_zero] at h3
      exact ⟨q, h3⟩
    obtain ⟨f, hf⟩ := Go.Deep.choose_lt each
    obtain rfl : c = .slice (some a) len m := by simpa using hc
    have hxl : ((List.range len).map f).length = len := by simp
    refine ⟨⟨(List.range len).map f, ?_, some a, m, by rw [hxl], by rw [hxl]; exact hl, ?_⟩, .inr ⟨_, _, _, rfl⟩, fun j hj => ?_⟩
    · have := bulk_slice ((List.range len).map D) ((List.range (m - len)).map fun j => D (len + j))
      rw [hxl]
      simpa using this
    · by_cases h0 : len = 0
      · left; subst h0; rfl
      · obtain ⟨b, o, rfl⟩ := spot_of (hf 0 (by omega))
        refine .inr ⟨b, o, rfl, fun j y hj => ?_⟩
        rw [List.getElem?_map, Option.map_eq_some_iff] at hj
        obtain ⟨i, hi, rfl⟩ := hj
        obtain ⟨hjl, rfl⟩ := List.getElem?_eq_some_iff.1 hi
        simp only [List.length_range, List.getElem_range] at hjl ⊢
        have := hf j (by omega)
        rw [Addr.add_mid] at this
        exact this
    · obtain ⟨a', n', c', e, h0, rfl⟩ := hj
      cases e
      have := World.block_lt_of_cell? _ _ (hf 0 (by omega))
      simpa [Addr.add] using this
set_option maxHeartbeats 1000000 in
set_option maxRecDepth 100000 in
theorem open_op {fuel : Nat} {cs : List Value} {x : DataW H × List MemPlace} (h : trodA enc w fuel 39 cs = some x) (hk : Rows.uptoBulk x.1 ≤ 1048576) : ∃ e : Op, cs = e.L ∧ OpOk w e := by
  obtain ⟨xs, n, rfl, rfl, hl, hx, hf⟩ := DataW.trod_struct Try.underlying39 h
  rw [cells_op] at hl
  match cs, hl with
  | [c0, c1, c2, c3, c4], _ =>
    have f0 : trodA enc w n 3 (([c0, c1, c2, c3, c4].drop 0).take (Try.prog.cellsOf 3)) = xs[0]? := hf 0 _ rfl
    have f1 : trodA enc w n 3 (([c0, c1, c2, c3, c4].drop 1).take (Try.prog.cellsOf 3)) = xs[1]? := hf 1 _ rfl
    have f2 : trodA enc w n 3 (([c0, c1, c2, c3, c4].drop 2).take (Try.prog.cellsOf 3)) = xs[2]? := hf 2 _ rfl
    have f3 : trodA enc w n 28 (([c0, c1, c2, c3, c4].drop 3).take (Try.prog.cellsOf 28)) = xs[3]? := hf 3 _ rfl
    have f4 : trodA enc w n 23 (([c0, c1, c2, c3, c4].drop 4).take (Try.prog.cellsOf 23)) = xs[4]? := hf 4 _ rfl
    simp only [cells_int, cells_bs, cells_ks, List.drop_zero, List.drop_succ_cons, List.take_succ_cons, List.take_zero] at f0 f1 f2 f3 f4
    match xs, hx with
    | [y0, y1, y2, y3, y4], _ =>
      simp only [List.getElem?_cons_zero, List.getElem?_cons_succ] at f0 f1 f2 f3 f4
      have b3 : Rows.uptoBulk y3.1 ≤ 1048576 := Nat.le_trans (bulk_part (by simp)) hk
      have b4 : Rows.uptoBulk y4.1 ≤ 1048576 := Nat.le_trans (bulk_part (by simp)) hk
      obtain ⟨kind, e0, _, w0⟩ := DataW.trod_int Try.underlying3 f0
      obtain ⟨who, e1, _, w1⟩ := DataW.trod_int Try.underlying3 f1
      obtain ⟨nn, e2, _, w2⟩ := DataW.trod_int Try.underlying3 f2
      obtain ⟨⟨ds, p1, p2, p3⟩, p5, p4⟩ := open_bytes f3
      obtain ⟨⟨ks, q1, q2⟩, q3, q4⟩ := open_keeps f4
      have hn : -9223372036854775808 ≤ nn ∧ nn ≤ 9223372036854775807 := by simpa [Lit.wf, IntKind.min, IntKind.max, IntKind.signed, IntKind.bits] using w2
      refine ⟨⟨kind, who, nn, c3, c4⟩, ?_, ⟨hn.2, ⟨ds, p1, by omega, p3⟩, ⟨ks, by omega, q2⟩, q3, p4, q4, p5⟩⟩
      simp only [List.cons.injEq, and_true] at e0 e1 e2
      rw [e0, e1, e2]
      rfl
set_option maxRecDepth 100000 in
theorem open_script {b0 : Nat} {v : Value} {d : DataW H} {ps : List MemPlace} (hval : Value.okWide Try.prog w .any b0 36 v) (h : DataW.Trod enc Try.prog w 0 (fun _ => true) true 36 v d ps) (hk : Rows.uptoBulk d ≤ 1048576) :
    v = .slice none 0 0 ∨ ∃ (b off n cap : Nat) (E : Nat → Op), v = .slice (some ⟨b, off, none⟩) n cap ∧ n ≤ 1048576 ∧ Ops w b off n E ∧ ∀ i, i < n → OpOk w (E i) := by
  obtain ⟨a0, len0, cap0, rfl⟩ := okWide_slice Try.underlying36 hval
  obtain ⟨fuel, hf⟩ := h
  rcases Go.Deep.open_slice Try.underlying36 hf with ⟨hc, _⟩ | ⟨a, len, cap, m, n, D, Pl, hc, _, hl, hm, rfl, hx', hx⟩
  · exact Or.inl (by simpa [Value.cells] using hc)
  · right
    simp only [Prod.mk.injEq] at hx'
    obtain ⟨rfl, _⟩ := hx'
    have hlen := Nat.le_trans (bulk_slice _ _) hk
    simp only [List.length_map, List.length_range] at hlen
    have hv : Value.slice a0 len0 cap0 = .slice (some a) len m := by simpa [Value.cells] using hc
    rw [hv] at hval ⊢
    have hspot : a.spot = none := by
      unfold Value.okWide at hval
      simp only [Try.underlying36] at hval
      unfold Cell.okWide at hval
      simp only [Try.underlying36] at hval
      unfold Cell.ok at hval
      simp only [Try.underlying36] at hval
      exact hval.2.2.2.1
    obtain ⟨ab, ao, asp⟩ := a
    simp only at hspot
    subst hspot
    have each : ∀ i, i < len → ∃ e : Op, w.rangeAt ab (ao + i * 5) e.L ∧ OpOk w e := by
      intro i hi
      obtain ⟨cs', h1, h2⟩ := hx i (by omega)
      obtain ⟨e, rfl, he⟩ := open_op h2 (Nat.le_trans (bulk_elem (List.mem_map.2 ⟨i, List.mem_range.2 hi, rfl⟩)) hk)
      rw [cells_op] at h1
      obtain ⟨_, _, hcell⟩ := World.cells?_some h1
      refine ⟨e, fun j v hv => ?_, he⟩
      have hj : j < 5 := (List.getElem?_eq_some_iff.1 hv).1
      have := hcell j hj
      rw [Go.Deep.add_add, Addr.add_mid] at this
      rw [Nat.add_assoc, this]; exact hv
    have : Inhabited Op := ⟨⟨0, 0, 0, .slice none 0 0, .slice none 0 0⟩⟩
    obtain ⟨E, hE⟩ := Go.Deep.choose_lt each
    exact ⟨ab, ao, len, m, E, rfl, hlen, fun i hi => (hE i hi).1, fun i hi => (hE i hi).2⟩
end
end Go.Proofs.Ytbjbphhcmmaaoaa
