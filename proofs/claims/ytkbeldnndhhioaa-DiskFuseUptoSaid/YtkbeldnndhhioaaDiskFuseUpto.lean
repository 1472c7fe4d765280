/- DiskFuse: the row, for what is of the given bulk. -/
import Derived.Test.YtkbeldnndhhioaaLwH
import Derived.Test.YtkbeldnndhhioaaFu3
import Derived.OpenShut
import Derived.JoinedCond
namespace Go.Proofs.Ytkbeldnndhhioaa.diskFuse
open Go.ChangeShapes Go.WideShapes Go.ChangeAt Go.RowKit

theorem own : ownKnob Try.prog.godebug = none := by kernel_rfl
theorem laidOut : laidOutB Try.prog = true := by kernel_rfl
theorem r64 {n : Int} (h : (Lit.int .i64 n).wf = true) : -9223372036854775808 ≤ n ∧ n ≤ 9223372036854775807 := by
  simpa [Lit.wf, IntKind.min, IntKind.max, IntKind.signed, IntKind.bits] using h
theorem open_ints {H : Type} {enc : TypeId × Value → H} {w : World} {fuel : Nat} {c : Value} {x : DataW H × List MemPlace} (h : trodA enc w fuel 22 [c] = some x) :
    ∃ (L : Nat) (X : Nat → Int), L ≤ Rows.uptoBulk x.1 ∧ (∀ i, i < L → -9223372036854775808 ≤ X i ∧ X i ≤ 9223372036854775807) ∧ ∃ a cap, c = .slice a L cap ∧ (L = 0 ∨ ∃ b off, a = some ⟨b, off, none⟩ ∧ Nums w b off L X) := by
  rcases Go.Deep.open_slice Try.underlying22 h with ⟨hc, rfl⟩ | ⟨a, len, cap, m, n, D, Pl, hc, _, hl, hm, rfl, rfl, hx⟩
  · obtain rfl : c = .slice none 0 0 := by simpa using hc
    exact ⟨0, fun _ => 0, Nat.zero_le _, fun _ h => by omega, none, 0, rfl, .inl rfl⟩
  · have each : ∀ i, i < m → ∃ q : Int, w.cell? (a.add i) = some (.int .i64 q) ∧ (-9223372036854775808 ≤ q ∧ q ≤ 9223372036854775807) := by
      intro i hi
      obtain ⟨cs', h1, h2⟩ := hx i hi
      obtain ⟨q, rfl, _, wq⟩ := DataW.trod_int Try.underlying3 h2
      rw [cells_int] at h1
      obtain ⟨_, _, hcell⟩ := World.cells?_some h1
      have h3 := hcell 0 (by decide)
      rw [Go.Deep.add_add, Nat.mul_one, Nat.add_zero] at h3
      exact ⟨q, h3, r64 wq⟩
    obtain ⟨X, hX⟩ := Go.Deep.choose_lt each
    obtain rfl : c = .slice (some a) len m := by simpa using hc
    refine ⟨len, X, ?_, fun i hi => (hX i (by omega)).2, some a, m, rfl, ?_⟩
    · have := bulk_slice ((List.range len).map D) ((List.range (m - len)).map fun j => D (len + j))
      simpa using this
    · by_cases h0 : len = 0
      · exact .inl h0
      · obtain ⟨b, o, rfl⟩ := spot_of (hX 0 (by omega)).1
        refine .inr ⟨b, o, rfl, fun i hi => ?_⟩
        have := (hX i (by omega)).1
        rw [Addr.add_mid] at this
        exact this
theorem law (n after : Int) (ha : after ≤ 9223372036854775807) (v : Value) (L : Nat) (hL : L ≤ 1048576) (X : Nat → Int) (hX : ∀ i, i < L → -9223372036854775808 ≤ X i ∧ X i ≤ 9223372036854775807) (W : World) (hv : ∃ a cap, v = .slice a L cap ∧ (L = 0 ∨ ∃ b off, a = some ⟨b, off, none⟩ ∧ Nums W b off L X)) :
    Calls Try.prog 3 #[.int .i64 n, .int .i64 after, v] W fun r w' => r = .returned (.bool true) ∧ G W w' := by
  by_cases hn : n < 1 ∨ 4096 < n
  · exact fuse_no n after v hn W
  · obtain ⟨k, rfl⟩ : ∃ k : Nat, n = k := ⟨n.toNat, by omega⟩
    by_cases h0 : after < 0
    · exact fuse_neg k (by omega) (by omega) after h0 v W
    · obtain ⟨j, rfl⟩ : ∃ j : Nat, after = j := ⟨after.toNat, by omega⟩
      exact fuse_some k (by omega) (by omega) j (by omega) v L hL X hX W hv
theorem contract (H : Type) (enc : TypeId × Value → H) (W : World) (base : Nat) (args : Array Value) (ds gs : List (DataW H)) (before : List MemPlace)
    (hval : ∀ (j : Nat) t v, Try.f3.params[j]? = some t → args[j]? = some v → Value.okWide Try.prog W .any base t v)
    (hW : DataW.Whole enc Try.prog Try.f3.params.toList Rows.diskFuseSpec.vars false W args.toList ds gs before) (hk : Rows.uptoSmall H (ds ++ gs) = true) :
    Calls Try.prog 3 args W fun e W' => ∃ v, e = .returned v ∧ Rows.diskFuseSpec.post enc Try.prog Try.f3 false true false false W args v W' := by
  have hW' := hW
  obtain ⟨p, q, hA0, hV, rfl, _, _⟩ := hW
  have hA : DataW.TrodAll enc Try.prog W 0 (fun _ => true) true Try.f3.params.toList args.toList ds p := hA0
  rw [Try.params3] at hA hval
  obtain ⟨v0, vs0, d0, ds0, p0, q0, hargs, rfl, rfl, h0, r0⟩ := trodAll_cons hA
  obtain ⟨v1, vs1, d1, ds1, p1, q1, rfl, rfl, rfl, h1, r1⟩ := trodAll_cons r0
  obtain ⟨v2, vs2, d2, ds2, p2, q2, rfl, rfl, rfl, h2, r2⟩ := trodAll_cons r1
  obtain ⟨rfl, rfl, rfl⟩ := trodAll_nil r2
  obtain rfl : args = #[v0, v1, v2] := by cases args; simp_all
  obtain ⟨rfl, rfl⟩ := trodVars_none hV
  have hlt : ∀ x ∈ p0 ++ (p1 ++ (p2 ++ [])), x.block < W.heap.size := fun x hx => by simpa using hW'.lt x (by simpa using hx)
  have hlt0 : ∀ x ∈ p0, x.block < W.heap.size := fun x hx => hlt x (by simp [hx])
  have hlt1 : ∀ x ∈ p1, x.block < W.heap.size := fun x hx => hlt x (by simp [hx])
  have hlt2 : ∀ x ∈ p2, x.block < W.heap.size := fun x hx => hlt x (by simp [hx])
  have hb : Rows.uptoBulk d2 ≤ 1048576 := by
    have h : Rows.uptoBulkAll ([d0, d1, d2] ++ []) ≤ 1048576 := of_decide_eq_true hk
    simp only [List.append_nil, Rows.uptoBulkAll] at h
    omega
  have t0 := h0
  have t1 := h1
  have t2 := h2
  obtain ⟨n0, rfl, _, _, w0⟩ := open_int Try.underlying3 (hval 0 3 v0 rfl rfl) t0
  obtain ⟨n1, rfl, _, _, w1⟩ := open_int Try.underlying3 (hval 1 3 v1 rfl rfl) t1
  obtain ⟨y2, len2, cap2, rfl⟩ := okWide_slice Try.underlying22 (hval 2 22 v2 rfl rfl)
  obtain ⟨f2, e2⟩ := t2
  obtain ⟨L, X, hL, hX, hv⟩ := open_ints (c := .slice y2 len2 cap2) e2
  refine (law n0 n1 (r64 w1).2 _ L (Nat.le_trans hL hb) X hX W hv).mono fun e W' ⟨he, hg⟩ => ?_
  subst he
  exact ⟨_, rfl, _, _, _, [], _, [], hW', trodAll_mk1 (shut_bool Try.underlying4 _), (trodAll_cons_mk (Below.trod laidOut (by kernel_rfl) (of_decide_eq_true (by kernel_rfl)) h0 hg hlt0) (trodAll_cons_mk (Below.trod laidOut (by kernel_rfl) (of_decide_eq_true (by kernel_rfl)) h1 hg hlt1) (trodAll_cons_mk (Below.trod laidOut (by kernel_rfl) (of_decide_eq_true (by kernel_rfl)) h2 hg hlt2) trodAll_mk0))), rfl, Below.frame hg _, fun h => by cases h⟩
set_option maxRecDepth 100000 in
theorem lifted (os : Os) (started : os.Started) (H : Type) (enc : TypeId × Value → H) (F : Stop.Interp) :
    ReturnsInHanded {} Try.checked os 3 .any ((Rows.OpenSpec.upto Rows.diskFuseSpec).pre6 enc Try.prog Try.f3 Rows.diskFuseUptoRow.domain false) (((Rows.OpenSpec.upto Rows.diskFuseSpec).at F).post enc Try.prog Try.f3 false true false false) := by
  refine returnsInHanded_of_cond (C := Try.checked) (s := Rows.OpenSpec.upto Rows.diskFuseSpec) (k := Rows.uptoSmall) rfl own started (by kernel_rfl) Try.func3
    (OpenSpec.witness (enc := enc) (C := Try.checked) (s := Rows.OpenSpec.upto Rows.diskFuseSpec) (k := Rows.uptoSmall) rfl false ⟨#[], #[.int .i64 0, .int .i64 0, .slice none 0 0], []⟩ 8 (by kernel_rfl) (by kernel_rfl) (by kernel_rfl)
      (x := ([.lit (.int .i64 0), .lit (.int .i64 0), .nil], [], [])) (by kernel_rfl) rfl (by kernel_rfl)) ?_
  intro W base args ds gs before hval hW _ hk _
  exact contract H enc W base args ds gs before hval hW hk
end Go.Proofs.Ytkbeldnndhhioaa.diskFuse
namespace Go.Proofs.Ytkbeldnndhhioaa
theorem diskFuse_upto : Rows.DiskFuseUptoSaid :=
  OpenClaim.holds_of_cond 3 Try.f3 rfl rfl rfl rfl rfl rfl rfl ⟨rfl, rfl, rfl, rfl, rfl⟩ rfl rfl rfl rfl rfl (by kernel_rfl) Try.func3 (by kernel_rfl)
    (of_decide_eq_true (by kernel_rfl)) (by unfold Func.isWrapper; first | (rw [if_pos (by decide +kernel)]; kernel_rfl) | (rw [if_neg (by decide +kernel)]; exact ⟨rfl, rfl⟩))
    (fun os started H enc _ F => diskFuse.lifted os started H enc F)
#print axioms diskFuse_upto
end Go.Proofs.Ytkbeldnndhhioaa
