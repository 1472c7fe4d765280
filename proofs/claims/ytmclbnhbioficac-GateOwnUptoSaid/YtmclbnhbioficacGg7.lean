/- Gate: New; a nil gate. -/
import Derived.Test.YtmclbnhbioficacGg6
namespace Go.Proofs.Ytmclbnhbioficac
open Go.RowKit Go.MuLone
set_option maxRecDepth 100000 in
set_option maxHeartbeats 1000000 in
theorem turns_new (W : World) : Calls Try.prog 13 #[] W fun e W' => e = .returned (.agg #[I 0, .slice (some ⟨W.heap.size + 1, 0, none⟩) 1 1]) ∧ G W W' ∧ Blk W' (W.heap.size + 1) 78 [I 0, I 9223372036854775807, I 0] := by
  have hX := Blk.new W [I 0, .slice (some ⟨W.heap.size + 1, 0, none⟩) 1 1] 47
  have hA := (G.refl W).alloc (.cells #[I 0, .slice (some ⟨W.heap.size + 1, 0, none⟩) 1 1] 47)
  have hz : (W.alloc (.cells #[I 0, .slice (some ⟨W.heap.size + 1, 0, none⟩) 1 1] 47)).heap.size = W.heap.size + 1 := by simp
  have hY := Blk.new (W.alloc (.cells #[I 0, .slice (some ⟨W.heap.size + 1, 0, none⟩) 1 1] 47)) [I 0, I 9223372036854775807, I 0] 78
  rw [hz] at hY
  have HX := hide (hX.G ((G.refl _).alloc (.cells #[I 0, I 9223372036854775807, I 0] 78)))
  have HY := hide hY
  have HB := hide (hA.alloc (.cells #[I 0, I 9223372036854775807, I 0] 78))
  clear hX hA hz hY
  go_enter Try.func13, Try.ntmps13
  go_wp2
  refine bodyPost_ret_by (v := .agg #[I 0, .slice (some ⟨W.heap.size + 1, 0, none⟩) 1 1]) (results_cell_row Try.results13 _ _ W.heap.size 47 _ (0, 0) _ rfl HX.out.h Try.underlying47 rfl (by kernel_rfl)) rfl ⟨rfl, HB.out, HY.out⟩
set_option maxRecDepth 100000 in
set_option maxHeartbeats 1000000 in
theorem new_no (mo un : Int) (W : World) (h : ¬ (1 ≤ mo ∧ mo ≤ 16 ∧ 1 ≤ un ∧ un ≤ 64)) : Calls Try.prog 4 #[I mo, I un] W fun e W' => e = .returned (.tuple #[.pointer none, I 150]) ∧ W' = W := by
  by_cases h1 : mo < 1
  · go_enter Try.func4, Try.ntmps4
    go_wp2_with fail
    go_ret2
    exact ⟨rfl, rfl⟩
  by_cases h2 : mo > 16
  · go_enter Try.func4, Try.ntmps4
    go_wp2_with fail
    go_ret2
    exact ⟨rfl, rfl⟩
  by_cases h3 : un < 1
  · go_enter Try.func4, Try.ntmps4
    go_wp2_with fail
    go_ret2
    exact ⟨rfl, rfl⟩
  have h4 : un > 64 := by omega
  go_enter Try.func4, Try.ntmps4
  go_wp2_with fail
  go_ret2
  exact ⟨rfl, rfl⟩
set_option maxRecDepth 100000 in
set_option maxHeartbeats 1000000 in
theorem new_ok (mo un : Int) (W : World) (m1 : 1 ≤ mo) (m2 : mo ≤ 16) (u1 : 1 ≤ un) (u2 : un ≤ 64) : Calls Try.prog 4 #[I mo, I un] W fun e W' => ∃ (b : Nat) (K : Nat → Prop), e = .returned (.tuple #[ptr b, I 0]) ∧ PG W' b 0 (new0 mo un) K ∧ G W W' ∧ (∀ k, K k → W.heap.size ≤ k) := by
  have h1 : ¬ (mo < 1) := by omega
  have h2 : ¬ (mo > 16) := by omega
  have h3 : ¬ (un < 1) := by omega
  have h4 : ¬ (un > 64) := by omega
  clear m1 m2 u1 u2
  go_enter Try.func4, Try.ntmps4
  go_wp2_with fail
  refine (turns_new W).mono ?_
  rintro e w1 ⟨rfl, hg, hb⟩
  have HG := hide hg
  have HB := hide hb
  clear hg hb h1 h2 h3 h4
  go_wp2_with fail
  go_ret2
  have hA := (G.refl w1).alloc (.cells #[.int .i32 0, .int .u32 0, I mo, I un, I 0, .slice none 0 0, .slice none 0 0, I 0, I 0, .slice (some ⟨W.heap.size + 1, 0, none⟩) 1 1] 58)
  have hX := Blk.new w1 [.int .i32 0, .int .u32 0, I mo, I un, I 0, .slice none 0 0, .slice none 0 0, I 0, I 0, .slice (some ⟨W.heap.size + 1, 0, none⟩) 1 1] 58
  have hs := HG.out.size
  refine ⟨w1.heap.size, fun k => k = w1.heap.size ∨ k = W.heap.size + 1, rfl, ⟨.slice none 0 0, .slice none 0 0, .slice (some ⟨W.heap.size + 1, 0, none⟩) 1 1, [((0, 9223372036854775807), 0)], ⟨⟨hX, .inr ⟨W.heap.size + 1, 1, [], rfl, HB.out.G hA, rfl, of_decide_eq_true (by kernel_rfl)⟩⟩, Sw.nil _ _ _, Sw.nil _ _ _, List.Perm.refl _, fun j j0 jl => by simp at jl; omega, .inl rfl, fun k e => .inr (by simp [Value.ownBlock] at e; omega), fun k e => by simp [Value.ownBlock] at e, fun k e => by simp [Value.ownBlock] at e, fun k e => ?_⟩⟩, HG.out.trans hA, fun k e => ?_⟩
  · have hl := HB.out.lt
    simp
    omega
  · omega
set_option maxRecDepth 100000 in
set_option maxHeartbeats 1000000 in
theorem nil_sub (W : World) (id : Int) : Calls Try.prog 19 #[.pointer none, I id] W fun e W' => e = .returned (.tuple #[I 0, I 1]) ∧ G W W' := by
  go_enter_defers Try.func19, Try.ntmps19
  go_wp2_with fail
  exact ⟨_, results_tmp2 rfl _ _ _, rfl, G.refl _⟩
set_option maxRecDepth 100000 in
set_option maxHeartbeats 1000000 in
theorem nil_adm (W : World) : Calls Try.prog 6 #[.pointer none] W fun e W' => e = .returned (.slice none 0 0) ∧ G W W' := by
  go_enter_defers Try.func6, Try.ntmps6
  go_wp2_with fail
  exact ⟨_, results_tmp rfl _ _ _, rfl, G.refl _⟩
set_option maxRecDepth 100000 in
set_option maxHeartbeats 1000000 in
theorem nil_end (W : World) (id : Int) (lgd : Bool) : Calls Try.prog 21 #[.pointer none, I id, .bool lgd] W fun e W' => e = .returned (I 1) ∧ G W W' := by
  go_enter_defers Try.func21, Try.ntmps21
  go_wp2_with fail
  exact ⟨_, results_tmp rfl _ _ _, rfl, G.refl _⟩
set_option maxRecDepth 100000 in
set_option maxHeartbeats 1000000 in
theorem nil_sw (W : World) : Calls Try.prog 23 #[.pointer none] W fun e W' => e = .returned (.tuple #[]) ∧ G W W' := by
  go_enter_defers Try.func23, Try.ntmps23
  go_wp2_with fail
  exact ⟨_, results_none rfl _ _ _, rfl, G.refl _⟩
set_option maxRecDepth 100000 in
set_option maxHeartbeats 1000000 in
theorem nil_nx (W : World) : Calls Try.prog 25 #[.pointer none] W fun e W' => e = .returned (I 0) ∧ G W W' := by
  go_enter_defers Try.func25, Try.ntmps25
  go_wp2_with fail
  exact ⟨_, results_tmp rfl _ _ _, rfl, G.refl _⟩
set_option maxRecDepth 100000 in
set_option maxHeartbeats 1000000 in
theorem nil_pi (W : World) (id : Int) : Calls Try.prog 27 #[.pointer none, I id] W fun e W' => e = .returned (I 1) ∧ G W W' := by
  go_enter_defers Try.func27, Try.ntmps27
  go_wp2_with fail
  exact ⟨_, results_tmp rfl _ _ _, rfl, G.refl _⟩
set_option maxRecDepth 100000 in
set_option maxHeartbeats 1000000 in
theorem nil_sa (W : World) : Calls Try.prog 11 #[.pointer none] W fun e W' => e = .returned (.agg #[.slice none 0 0, .slice none 0 0, I 0, I 0, I 0]) ∧ G W W' := by
  have hX := Blk.new W [.slice none 0 0, .slice none 0 0, I 0, I 0, I 0] 39
  have hA := (G.refl W).alloc (.cells #[.slice none 0 0, .slice none 0 0, I 0, I 0, I 0] 39)
  have HX := hide hX
  have HA := hide hA
  clear hX hA
  go_enter_defers Try.func11, Try.ntmps11
  go_wp2_with fail
  exact ⟨_, results_cell_row Try.results11 _ _ W.heap.size 39 _ (0, 0) _ rfl HX.out.h Try.underlying39 rfl (by kernel_rfl), rfl, HA.out⟩
end Go.Proofs.Ytmclbnhbioficac
