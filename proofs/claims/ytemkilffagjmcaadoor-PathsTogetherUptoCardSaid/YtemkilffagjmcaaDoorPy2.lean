/- Paths: nil functions, nil heaps; a copy. -/
import Derived.Test.YtemkilffagjmcaaDoorPw3
namespace Go.Proofs.YtemkilffagjmcaaDoor
open Go.RowKit
set_option maxRecDepth 100000 in
set_option maxHeartbeats 2000000 in
theorem hops_nil (W : World) (a b : Int) : Calls Tryd.prog 19 #[.nilFunc, I a, I b] W fun e W' => e = .returned (.tuple #[I 0, .bool false, I 1]) ∧ G W W' := by
  have q0 : ∀ w : World, (binOp .eql 35 .nilFunc .nilFunc).run Tryd.prog w = .ok (.bool true) w := fun w => by rfl
  go_enter Tryd.func19, Tryd.ntmps19
  go_wp2_with fail
  go_ret3
  exact ⟨rfl, G.refl _⟩
set_option maxRecDepth 100000 in
set_option maxHeartbeats 2000000 in
theorem piece_nil (W : World) (v : Value) : Calls Tryd.prog 20 #[v, .nilFunc] W fun e W' => e = .returned (.tuple #[.pointer none, I 1]) ∧ G W W' := by
  have q0 : ∀ w : World, (binOp .eql 35 .nilFunc .nilFunc).run Tryd.prog w = .ok (.bool true) w := fun w => by rfl
  go_enter Tryd.func20, Tryd.ntmps20
  go_wp2_with fail
  go_ret2
  exact ⟨rfl, G.refl _⟩
set_option maxRecDepth 100000 in
set_option maxHeartbeats 2000000 in
theorem order_nil (W : World) (y : Option Addr) (n c : Nat) : Calls Tryd.prog 7 #[.slice y n c, .nilFunc] W fun e W' => e = .returned (.tuple #[.slice none 0 0, .bool false, I 1]) ∧ G W W' := by
  have HP := hide (piece_nil W (.slice y n c))
  go_enter Tryd.func7, Tryd.ntmps7
  go_wp2_with fail
  refine HP.out.mono ?_
  rintro e w1 ⟨rfl, hg1⟩
  have HG1 := hide hg1
  clear hg1 HP
  go_wp2_with fail
  go_ret3
  exact ⟨rfl, HG1.out⟩
set_option maxRecDepth 100000 in
set_option maxHeartbeats 2000000 in
theorem parts_nil (W : World) (y : Option Addr) (n c : Nat) : Calls Tryd.prog 13 #[.slice y n c, .nilFunc] W fun e W' => e = .returned (.tuple #[.slice none 0 0, I 1]) ∧ G W W' := by
  have HP := hide (piece_nil W (.slice y n c))
  go_enter Tryd.func13, Tryd.ntmps13
  go_wp2_with fail
  refine HP.out.mono ?_
  rintro e w1 ⟨rfl, hg1⟩
  have HG1 := hide hg1
  clear hg1 HP
  go_wp2_with fail
  go_ret2
  exact ⟨rfl, HG1.out⟩
/-- Ids that came in. -/
structure Ids (w : World) (v : Value) (l : List Int) : Prop where
  at_ : ∃ a cap, v = .slice a l.length cap ∧ (a = none → cap = 0) ∧ (l = [] ∨ ∃ b off, a = some ⟨b, off, none⟩ ∧ ∀ o, o < l.length → w.cell? ⟨b, off + o, none⟩ = (l.map I)[o]?)
  ok : ∀ x ∈ l, R64 x
theorem Ids.G {w w' : World} {v : Value} {l : List Int} (h : Ids w v l) (g : Go.Proofs.YtemkilffagjmcaaDoor.G w w') : Ids w' v l := by
  obtain ⟨⟨a, cap, rfl, hn, h1⟩, h2⟩ := h
  refine ⟨⟨a, cap, rfl, hn, h1.imp_right ?_⟩, h2⟩
  rintro ⟨b, off, rfl, hc⟩
  refine ⟨b, off, rfl, fun o ho => ?_⟩
  have e := hc o ho
  rw [List.getElem?_map, List.getElem?_eq_getElem ho] at e ⊢
  rw [g.cell (cell_lt e)]
  exact e
theorem made_i (n : Nat) : madeCells (I 0).cells n = (List.replicate n (I 0)).toArray := by
  have e : (I 0).cells = #[I 0] := rfl
  rw [e]
  unfold madeCells
  apply Array.ext
  · simp
  · intro i h1 h2
    simp [Nat.mod_one]
/-- An empty row that was made. -/
theorem rw_mi (w : World) (lo n : Nat) (hn : n ≤ maxLen) (hlo : lo ≤ w.heap.size) : Rw lo 2 1 (w.alloc (.cells (List.replicate n (I 0)).toArray 2)) (.slice (some ⟨w.heap.size, 0, none⟩) 0 n) 0 [] :=
  ⟨by simp, .inr ⟨w.heap.size, n, _, rfl, hlo, heap_alloc_new w _, Nat.zero_le _, hn, by simp, by simp⟩⟩
set_option maxRecDepth 100000 in
set_option maxHeartbeats 2000000 in
theorem copy_any (W : World) (v : Value) (l : List Int) (h : Ids W v l) (hl : l.length ≤ 17592186044416) : Calls Tryd.prog 8 #[v] W fun e W' => ∃ v', e = .returned v' ∧ Rw W.heap.size 2 1 W' v' l.length (l.map I) ∧ G W W' := by
  obtain ⟨la, lc, rfl⟩ : ∃ la lc, v = .slice la l.length lc := by obtain ⟨a, c, e, -⟩ := h.at_; exact ⟨a, c, e⟩
  obtain ⟨i0, hi, hz0, hz1, hz2⟩ := info_I
  have hmk := run_make (P := Tryd.prog) W 23 2 i0 (I 0) Tryd.underlying23 hi hz0 .i64 .i64 0 ((l.length : Int) + 2) (by omega) (by omega) (by rw [hz2]; omega) (by omega)
  rw [hz1, made_i, Nat.mul_one, show ((l.length : Int) + 2).toNat = l.length + 2 by omega, show (0 : Int).toNat = 0 from rfl] at hmk
  have hmx : (17592186044418 : Nat) ≤ maxLen := of_decide_eq_true (by kernel_rfl)
  have hrw5 := rw_mi W W.heap.size (l.length + 2) (by omega) (Nat.le_refl _)
  have HMK := hide hmk
  have hg5 : G W (W.alloc (.cells (List.replicate (l.length + 2) (I 0)).toArray 2)) := (G.refl W).alloc _
  have hw1 : wrap64 ((l.length : Int) + 2) = (l.length : Int) + 2 := by unfold wrap64; omega
  clear hmk hi hz0 hz1 hz2
  generalize W.alloc (.cells (List.replicate (l.length + 2) (I 0)).toArray 2) = w5 at HMK hrw5 hg5
  obtain ⟨ov, w6, hrun6, hrow6, hchg6⟩ : ∃ v' w', (Builtin.append_ #[23, 23] 23 #[.slice (some ⟨W.heap.size, 0, none⟩) 0 (l.length + 2), .slice la l.length lc]).run Tryd.prog w5 = .ok v' w' ∧ Rw W.heap.size 2 1 w' v' l.length (l.map I) ∧ Chg (fun k => (Value.slice (some ⟨W.heap.size, 0, none⟩) 0 (l.length + 2)).ownBlock = some k) w5 w' := by
    obtain ⟨a', c', e', hn0, h1⟩ := (h.G hg5).at_
    simp only [Value.slice.injEq] at e'
    obtain ⟨rfl, -, rfl⟩ := e'
    cases la with
    | none =>
      have hl0 : l = [] := by
        rcases h1 with h1 | ⟨b, off, e, _⟩
        · exact h1
        · cases e
      subst hl0
      obtain rfl := hn0 rfl
      obtain ⟨i0, hi0, -, -, -⟩ := info_I
      exact ⟨_, w5, run_append_owned_none (P := Tryd.prog) w5 W.heap.size 23 23 2 i0 1 Tryd.underlying23 hi0 _ 0 [] hrw5, hrw5, Chg.refl _ _⟩
    | some a =>
      obtain ⟨i0, hi0, -, hz1, -⟩ := info_I
      obtain ⟨w', q1, q2, q3⟩ := run_append_fits (P := Tryd.prog) (w := w5) W.heap.size 23 23 2 i0 1 Tryd.underlying23 hi0 hz1 W.heap.size 0 (l.length + 2) [] hrw5 a l.length lc (l.map I) (by simp) (fun j u hj => by
        rcases h1 with rfl | ⟨b, off, e, h2⟩
        · simp at hj
        · cases e
          have hjl := (List.getElem?_eq_some_iff.1 hj).1
          rw [List.length_map] at hjl
          rw [Addr.add_mid, h2 j hjl]
          exact hj) (fun u hu => by obtain ⟨q, _, rfl⟩ := List.mem_map.1 hu; rfl) (by omega)
      rw [Nat.zero_add] at q1 q2
      rw [List.nil_append] at q2
      exact ⟨_, w', q1, q2, ⟨q3.os, q3.tape, q3.output, q3.size, fun k hk hn => q3.block k hk (fun e => hn e.symm)⟩⟩
  have hnb : ∀ b, (Value.slice (some ⟨W.heap.size, 0, none⟩) 0 (l.length + 2)).ownBlock = some b → W.heap.size ≤ b := fun b hb => (hrw5.own hb).1
  have hg6 : G W w6 := ((hg5.chg (F := fun _ => False)).more hchg6 (fun i hi q => absurd (hnb i q) (by omega))).G (fun i q => q.elim)
  obtain ⟨ova, ovc, rfl⟩ := Rw.form hrow6
  have HRUN6 := hide hrun6
  have HROW := hide hrow6
  have HG6 := hide hg6
  clear h hrun6 hrow6 hg6 hnb hchg6 hrw5 hg5
  go_enter Tryd.func8, Tryd.ntmps8
  go_wp2_with fail
  rw [HMK.out]
  go_wp2_with (first | (at_builtin; refine wpList_append_run rfl _ _ 23 rfl (.slice (some ⟨W.heap.size, 0, none⟩) 0 (l.length + 2)) (.slice la l.length lc) rfl rfl HRUN6.out ?_) | fail)
  go_ret
  exact ⟨_, rfl, HROW.out, HG6.out⟩
end Go.Proofs.YtemkilffagjmcaaDoor
