/- DiskOwn: the row, for what is of the given bulk. -/
import Derived.Test.YtbjbphhcmmaaoaaLwH
import Derived.Test.YtbjbphhcmmaaoaaOw13
import Derived.OpenShut
import Derived.JoinedCond
namespace Go.Proofs.Ytbjbphhcmmaaoaa.diskOwn
open Go.ChangeShapes Go.WideShapes Go.ChangeAt Go.RowKit

theorem own : ownKnob Try.prog.godebug = none := by kernel_rfl
theorem laidOut : laidOutB Try.prog = true := by kernel_rfl
/-- An operation whose bytes are not too many. -/
def OpK (w : World) (e : Op) : Prop := OpOk w e ∧ ∀ a k c, e.dv = .slice a k c → k ≤ 1048576
section
variable {H : Type} {enc : TypeId × Value → H} {w : World}
set_option maxHeartbeats 1000000 in
set_option maxRecDepth 100000 in
theorem open_op2 {fuel : Nat} {cs : List Value} {x : DataW H × List MemPlace} (h : trodA enc w fuel 39 cs = some x) (hk : Rows.uptoBulk x.1 ≤ 1048576) : ∃ e : Op, cs = e.L ∧ OpK w e := by
  obtain ⟨xs, n, rfl, rfl, hl, hx, hf⟩ := DataW.trod_struct Try.underlying39 h
  rw [cells_op] at hl
  match cs, hl with
  | [c0, c1, c2, c3, c4], _ =>
    have f0 : trodA enc w n 3 (([c0, c1, c2, c3, c4].drop 0).take (Try.prog.cellsOf 3)) = xs[0]? := hf 0 _ rfl
    have f1 : trodA enc w n 3 (([c0, c1, c2, c3, c4].drop 1).take (Try.prog.cellsOf 3)) = xs[1]? := hf 1 _ rfl
    have f2 : trodA enc w n 3 (([c0, c1, c2, c3, c4].drop 2).take (Try.prog.cellsOf 3)) = xs[2]? := hf 2 _ rfl
    have f3 : trodA enc w n 28 (([c0, c1, c2, c3, c4].drop 3).take (Try.prog.cellsOf 28)) = xs[3]? := hf 3 _ rfl
    have f4 : trodA enc w n 23 (([c0, c1, c2, c3, c4].drop 4).take (Try.prog.cellsOf 23)) = xs[4]? := hf 4 _ rfl
    simp only [cells_int, cells_bs, cells_ks, List.drop_zero, List.drop_succ_cons, List.take_succ_cons, List.take_zero] at f0 f1 f2 f3 f4
    match xs, hx with
    | [y0, y1, y2, y3, y4], _ =>
      simp only [List.getElem?_cons_zero, List.getElem?_cons_succ] at f0 f1 f2 f3 f4
      have b3 : Rows.uptoBulk y3.1 ≤ 1048576 := Nat.le_trans (bulk_part (by simp)) hk
      have b4 : Rows.uptoBulk y4.1 ≤ 1048576 := Nat.le_trans (bulk_part (by simp)) hk
      obtain ⟨kind, e0, _, w0⟩ := DataW.trod_int Try.underlying3 f0
      obtain ⟨who, e1, _, w1⟩ := DataW.trod_int Try.underlying3 f1
      obtain ⟨nn, e2, _, w2⟩ := DataW.trod_int Try.underlying3 f2
      obtain ⟨⟨ds, p1, p2, p3⟩, p5, p4⟩ := open_bytes f3
      obtain ⟨⟨ks, q1, q2⟩, q3, q4⟩ := open_keeps f4
      have hn : -9223372036854775808 ≤ nn ∧ nn ≤ 9223372036854775807 := by simpa [Lit.wf, IntKind.min, IntKind.max, IntKind.signed, IntKind.bits] using w2
      refine ⟨⟨kind, who, nn, c3, c4⟩, ?_, ⟨hn.2, ⟨ds, p1, by omega, p3⟩, ⟨ks, by omega, q2⟩, q3, p4, q4, p5⟩, fun a k c he => ?_⟩
      · simp only [List.cons.injEq, and_true] at e0 e1 e2
        rw [e0, e1, e2]
        rfl
      · obtain ⟨_, _, e3, _⟩ := p3
        have e4 : c3 = .slice a k c := he
        rw [e4] at e3
        cases e3
        omega
set_option maxRecDepth 100000 in
theorem open_script2 {b0 : Nat} {v : Value} {d : DataW H} {ps : List MemPlace} (hval : Value.okWide Try.prog w .any b0 36 v) (h : DataW.Trod enc Try.prog w 0 (fun _ => true) true 36 v d ps) (hk : Rows.uptoBulk d ≤ 1048576) :
    v = .slice none 0 0 ∨ ∃ (b off n cap : Nat) (E : Nat → Op), v = .slice (some ⟨b, off, none⟩) n cap ∧ n ≤ 1048576 ∧ Ops w b off n E ∧ ∀ i, i < n → OpK w (E i) := by
  obtain ⟨a0, len0, cap0, rfl⟩ := okWide_slice Try.underlying36 hval
  obtain ⟨fuel, hf⟩ := h
  rcases Go.Deep.open_slice Try.underlying36 hf with ⟨hc, _⟩ | ⟨a, len, cap, m, n, D, Pl, hc, _, hl, hm, rfl, hx', hx⟩
  · exact Or.inl (by simpa [Value.cells] using hc)
  · right
    simp only [Prod.mk.injEq] at hx'
    obtain ⟨rfl, _⟩ := hx'
    have hlen := Nat.le_trans (bulk_slice _ _) hk
    simp only [List.length_map, List.length_range] at hlen
    have hv : Value.slice a0 len0 cap0 = .slice (some a) len m := by simpa [Value.cells] using hc
    rw [hv] at hval ⊢
    have hspot : a.spot = none := by
      unfold Value.okWide at hval
      simp only [Try.underlying36] at hval
      unfold Cell.okWide at hval
      simp only [Try.underlying36] at hval
      unfold Cell.ok at hval
      simp only [Try.underlying36] at hval
      exact hval.2.2.2.1
    obtain ⟨ab, ao, asp⟩ := a
    simp only at hspot
    subst hspot
    have each : ∀ i, i < len → ∃ e : Op, w.rangeAt ab (ao + i * 5) e.L ∧ OpK w e := by
      intro i hi
      obtain ⟨cs', h1, h2⟩ := hx i (by omega)
      obtain ⟨e, rfl, he⟩ := open_op2 h2 (Nat.le_trans (bulk_elem (List.mem_map.2 ⟨i, List.mem_range.2 hi, rfl⟩)) hk)
      rw [cells_op] at h1
      obtain ⟨_, _, hcell⟩ := World.cells?_some h1
      refine ⟨e, fun j v hv => ?_, he⟩
      have hj : j < 5 := (List.getElem?_eq_some_iff.1 hv).1
      have := hcell j hj
      rw [Go.Deep.add_add, Addr.add_mid] at this
      rw [Nat.add_assoc, this]; exact hv
    have : Inhabited Op := ⟨⟨0, 0, 0, .slice none 0 0, .slice none 0 0⟩⟩
    obtain ⟨E, hE⟩ := Go.Deep.choose_lt each
    exact ⟨ab, ao, len, m, E, rfl, hlen, fun i hi => (hE i hi).1, fun i hi => (hE i hi).2⟩
end
theorem law (v : Value) (W : World)
    (h : v = .slice none 0 0 ∨ ∃ (b off n cap : Nat) (E : Nat → Op), v = .slice (some ⟨b, off, none⟩) n cap ∧ n ≤ 1048576 ∧ Ops W b off n E ∧ ∀ i, i < n → OpK W (E i)) :
    Calls Try.prog 5 #[v] W fun r w' => r = .returned (.bool true) ∧ G W w' := by
  rcases h with rfl | ⟨b, off, n, cap, E, rfl, hn, hE, hO⟩
  · exact own_nil W
  · exact own_some b off n cap hn E W hE (fun i hi => (hO i hi).1) (fun i hi => (hO i hi).2)
set_option maxRecDepth 100000 in
theorem contract (H : Type) (enc : TypeId × Value → H) (W : World) (base : Nat) (args : Array Value) (ds gs : List (DataW H)) (before : List MemPlace)
    (hval : ∀ (j : Nat) t v, Try.f5.params[j]? = some t → args[j]? = some v → Value.okWide Try.prog W .any base t v)
    (hW : DataW.Whole enc Try.prog Try.f5.params.toList Rows.diskOwnSpec.vars false W args.toList ds gs before) (hk : Rows.uptoSmall H (ds ++ gs) = true) :
    Calls Try.prog 5 args W fun e W' => ∃ v, e = .returned v ∧ Rows.diskOwnSpec.post enc Try.prog Try.f5 false true false false W args v W' := by
  have hW' := hW
  obtain ⟨p, q, hA0, hV, rfl, _, _⟩ := hW
  have hA : DataW.TrodAll enc Try.prog W 0 (fun _ => true) true Try.f5.params.toList args.toList ds p := hA0
  rw [Try.params5] at hA hval
  obtain ⟨v0, d0, rfl, rfl, h0⟩ := trodAll_one hA
  obtain ⟨rfl, rfl⟩ := trodVars_none hV
  have hlt : ∀ x ∈ p, x.block < W.heap.size := fun x hx => by simpa using hW'.lt x (by simpa using hx)
  have hb : Rows.uptoBulk d0 ≤ 1048576 := by
    have h : Rows.uptoBulkAll ([d0] ++ []) ≤ 1048576 := of_decide_eq_true hk
    simp only [List.append_nil, Rows.uptoBulkAll] at h
    omega
  refine (law v0 W (open_script2 (hval 0 36 v0 rfl rfl) h0 hb)).mono fun e W' ⟨he, hg⟩ => ?_
  subst he
  exact ⟨_, rfl, _, _, _, [], p, [], hW', trodAll_mk1 (shut_bool Try.underlying4 _), trodAll_mk1 (Below.trod laidOut (by kernel_rfl) (of_decide_eq_true (by kernel_rfl)) h0 hg hlt), rfl, Below.frame hg _, fun h => by cases h⟩
set_option maxRecDepth 100000 in
theorem lifted (os : Os) (started : os.Started) (H : Type) (enc : TypeId × Value → H) (F : Stop.Interp) :
    ReturnsInHanded {} Try.checked os 5 .any ((Rows.OpenSpec.upto Rows.diskOwnSpec).pre6 enc Try.prog Try.f5 Rows.diskOwnUptoRow.domain false) (((Rows.OpenSpec.upto Rows.diskOwnSpec).at F).post enc Try.prog Try.f5 false true false false) := by
  refine returnsInHanded_of_cond (C := Try.checked) (s := Rows.OpenSpec.upto Rows.diskOwnSpec) (k := Rows.uptoSmall) rfl own started (by kernel_rfl) Try.func5
    (OpenSpec.witness (enc := enc) (C := Try.checked) (s := Rows.OpenSpec.upto Rows.diskOwnSpec) (k := Rows.uptoSmall) rfl false ⟨#[], #[.slice none 0 0], []⟩ 8 (by kernel_rfl) (by kernel_rfl) (by kernel_rfl)
      (x := ([.nil], [], [])) (by kernel_rfl) rfl (by kernel_rfl)) ?_
  intro W base args ds gs before hval hW _ hk _
  exact contract H enc W base args ds gs before hval hW hk
end Go.Proofs.Ytbjbphhcmmaaoaa.diskOwn
namespace Go.Proofs.Ytbjbphhcmmaaoaa
theorem diskOwn_upto : Rows.DiskOwnUptoSaid :=
  OpenClaim.holds_of_cond 5 Try.f5 rfl rfl rfl rfl rfl rfl rfl ⟨rfl, rfl, rfl, rfl, rfl⟩ rfl rfl rfl rfl rfl (by kernel_rfl) Try.func5 (by kernel_rfl)
    (of_decide_eq_true (by kernel_rfl)) (by unfold Func.isWrapper; first | (rw [if_pos (by decide +kernel)]; kernel_rfl) | (rw [if_neg (by decide +kernel)]; exact ⟨rfl, rfl⟩))
    (fun os started H enc _ F => diskOwn.lifted os started H enc F)
#print axioms diskOwn_upto
end Go.Proofs.Ytbjbphhcmmaaoaa
