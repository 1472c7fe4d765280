/- GateStats. -/
import Derived.Test.YtmclbnhbioficabGr7
namespace Go.Proofs.Ytmclbnhbioficab
open Go.RowKit

abbrev eP : Enc (Int × Int × Bool) := ⟨fun x => [I x.1, I x.2.1, .bool x.2.2], 3, fun _ => rfl, fun _ u hu => by simp at hu; rcases hu with rfl | rfl | rfl <;> rfl⟩
theorem info_P : ∃ i, Try.prog.info? 26 = some i ∧ i.zero = some (.agg #[I 0, I 0, .bool false]) ∧ i.size = 3 ∧ i.bytes = 24 := info_parts (by kernel_rfl)
/-- What a script says, as a list. -/
def lst (L : Nat) (X : Nat → Int × Int × Bool) : List (Int × Int × Bool) := (List.range L).map X
theorem lst_len (L : Nat) (X : Nat → Int × Int × Bool) : (lst L X).length = L := by simp [lst]
theorem lst_cells {w : World} {b off L : Nat} {X : Nat → Int × Int × Bool} (h : Ops w b off L X) : ∀ j u, (eP.fl (lst L X))[j]? = some u → w.cell? ((⟨b, off, none⟩ : Addr).add j) = some u := fun j u hj => by
  have hjl := (List.getElem?_eq_some_iff.1 hj).1
  rw [Enc.len, lst_len] at hjl
  have hjl : j < L * 3 := hjl
  have hi : j / 3 < L := by omega
  have hx : (lst L X)[j / 3]? = some (X (j / 3)) := by simp [lst, hi]
  have h1 := Enc.get eP (lst L X) (j / 3) _ hx (j % 3) (by have := Nat.mod_lt j (show 0 < 3 by omega); exact this)
  have e1 : j / 3 * eP.s + j % 3 = j := by show j / 3 * 3 + j % 3 = j; omega
  rw [e1, hj] at h1
  obtain ⟨x1, x2, x3⟩ := h (j / 3) hi
  rw [Addr.add_mid]
  have hm : j % 3 = 0 ∨ j % 3 = 1 ∨ j % 3 = 2 := by omega
  rcases hm with e | e | e
  · rw [e] at h1
    rw [show off + j = off + j / 3 * 3 by omega, x1, h1]; rfl
  · rw [e] at h1
    rw [show off + j = off + j / 3 * 3 + 1 by omega, x2, h1]; rfl
  · rw [e] at h1
    rw [show off + j = off + j / 3 * 3 + 2 by omega, x3, h1]; rfl
theorem scr_of {w : World} {v : Value} {ops : List (Int × Int × Bool)} (h : Sw eP 26 w v ops) : Scr w v ops.length (fun i => ops.getD i (0, 0, false)) := by
  rcases h with ⟨rfl, rfl⟩ | ⟨g, cap, rest, rfl, hb, hr⟩
  · exact ⟨none, 0, rfl, .inl rfl⟩
  · have h : Sw eP 26 w (.slice (some ⟨g, 0, none⟩) ops.length cap) ops := .inr ⟨g, cap, rest, rfl, hb, hr⟩
    refine ⟨_, cap, rfl, .inr ⟨g, 0, rfl, fun i hi => ?_⟩⟩
    have hx : ops[i]? = some (ops.getD i (0, 0, false)) := by simp [hi]
    refine ⟨?_, ?_, ?_⟩
    · have := h.at hx 0 (by decide)
      rw [Nat.zero_add]; exact this
    · have := h.at hx 1 (by decide)
      rw [Nat.zero_add]; exact this
    · have := h.at hx 2 (by decide)
      rw [Nat.zero_add]; exact this
theorem app_nil0 (a : Option Addr) (cap : Nat) (W : World) : (Builtin.append_ #[22, 22] 22 #[.slice none 0 0, .slice a 0 cap]).run Try.prog W = .ok (.slice none 0 0) W := by
  obtain ⟨i0, hi0, hz0, hz1, hz2⟩ := info_P
  cases a <;> simp [Builtin.append_, run_underlying Try.underlying22, Try.sizeOf26, Builtin.lenOf, Builtin.firstCells, loadCells, loadCellsFrom]
/-- The last step, put behind the copy. -/
theorem last_op {w : World} {v : Value} {ops : List (Int × Int × Bool)} (h : Sw eP 26 w v ops) (hl : ops.length ≤ 5864062014634) :
    ∃ v' w', (Builtin.append_ #[22, 22] 22 #[v, .slice (some ⟨w.heap.size, 0, none⟩) 1 1]).run Try.prog (w.alloc (.cells #[I 7, I 0, .bool false] 26)) = .ok v' w' ∧ Sw eP 26 w' v' (ops ++ [(7, 0, false)]) ∧ Chg (fun k => v.ownBlock = some k) (w.alloc (.cells #[I 7, I 0, .bool false] 26)) w' := by
  obtain ⟨i0, hi0, hz0, hz1, hz2⟩ := info_P
  have hmx : (5864062014635 : Nat) ≤ maxLen := of_decide_eq_true (by kernel_rfl)
  obtain ⟨v', w', hrun, hs', hap⟩ := app_one (P := Try.prog) (ts := 22) i0 _ 24 Try.underlying22 hi0 hz0 hz1 hz2 rfl (by decide) (h.G ((G.refl w).alloc (.cells #[I 7, I 0, .bool false] 26))) ⟨w.heap.size, 0, none⟩ 1 (7, 0, false) (fun j u hj => by
    have h1 := (Blk.new w [I 7, I 0, .bool false] 26).cell j
    rw [Addr.add_mid, Nat.zero_add]
    rw [hj] at h1
    exact h1) (by omega) (by omega)
  exact ⟨v', w', hrun, hs', (Chg.app hap).1⟩
set_option maxRecDepth 100000 in
set_option maxHeartbeats 1000000 in
theorem gateStats_law (mo un : Int) (v : Value) (L : Nat) (X : Nat → Int × Int × Bool) (W : World) (hS : Scr W v L X) (hL : L ≤ 5864062014634) :
    Calls Try.prog 7 #[I mo, I un, v] W fun e W' => e = .returned (.bool true) ∧ G W W' := by
  obtain ⟨a, cap, rfl, hS⟩ := hS
  by_cases h0 : L = 0
  · subst h0
    obtain ⟨v2, w2, hrun, hs2, hch⟩ := last_op (w := W) (v := .slice none 0 0) (ops := []) (Sw.nil _ _ _) (by simp)
    have KW := hide (walk_any mo un 7 7 v2 _ _ w2 (scr_of hs2) (by simp))
    have HG : Hid (G W w2) := ((G.refl W).alloc _).trans (hch.G (fun k e => by simp [Value.ownBlock] at e))
    have HRUN := hide hrun
    have HR0 := hide (app_nil0 a cap W)
    clear hS hL hrun hs2 hch
    go_enter Try.func7, Try.ntmps7
    go_wp2_with (first | (at_builtin; refine wpList_append_run rfl _ _ 22 rfl (.slice none 0 0) (.slice a 0 cap) rfl rfl HR0.out ?_) | (at_builtin; refine wpList_append_run rfl _ _ 22 rfl (.slice none 0 0) (.slice (some ⟨W.heap.size, 0, none⟩) 1 1) rfl rfl HRUN.out ?_) | (go_at_call 9; refine Hid.out ?_) | fail)
    unfold Hid
    refine KW.out.mono ?_
    rintro e w3 ⟨rfl, hg3⟩
    go_wp2_with fail
    go_ret
    exact ⟨rfl, HG.out.trans hg3⟩
  · have HS := hS.resolve_left h0
    obtain ⟨sb, off, rfl, hops⟩ := HS
    obtain ⟨i0, hi0, hz0, hz1, hz2⟩ := info_P
    have hmx : (5864062014635 : Nat) ≤ maxLen := of_decide_eq_true (by kernel_rfl)
    obtain ⟨v1, w1, hr1, q2, q3, _, q5⟩ := run_append_own_at (P := Try.prog) W 0 22 22 26 i0 _ 3 24 Try.underlying22 hi0 hz0 hz1 hz2 rfl (by decide) (.slice none 0 0) 0 [] ⟨rfl, .inl ⟨rfl, rfl⟩⟩ ⟨sb, off, none⟩ L cap (eP.fl (lst L X)) (by rw [Enc.len, lst_len]) (lst_cells hops) (Enc.ones eP _) (by omega) (by omega) (Nat.zero_le _)
    rw [List.nil_append, Nat.zero_add] at q2
    have hs1 : Sw eP 26 w1 v1 (lst L X) := Sw.of_row (b := 0) q2 (lst_len L X).symm
    have hg1 : G W w1 := ⟨q3.os, q3.tape, q3.output, q3.size, fun k hk => q3.block k hk (fun e => by simp [Value.ownBlock] at e)⟩
    obtain ⟨v2, w2, hrun, hs2, hch⟩ := last_op hs1 (by rw [lst_len]; exact hL)
    have KW := hide (walk_any mo un 7 7 v2 _ _ w2 (scr_of hs2) (by rw [List.length_append, lst_len]; simp; omega))
    have hA := hg1.alloc (.cells #[I 7, I 0, .bool false] 26)
    have HG : Hid (G W w2) := ⟨hch.os.trans hA.os, hch.tape.trans hA.tape, hch.output.trans hA.output, Nat.le_trans hA.size hch.size, fun k hk => (hch.block k (Nat.lt_of_lt_of_le hk hA.size) (fun e => by
      rcases q5 with q | q
      · rw [q] at e; simp [Value.ownBlock] at e
      · rw [q] at e; have := Option.some.inj e; omega)).trans (hA.block k hk)⟩
    clear hA
    have HR1 := hide hr1
    have HRUN := hide hrun
    clear hS hL hrun hs2 hch hr1 q2 q3 q5 hs1 hg1 hi0 hz0 hz1 hz2 hmx hops
    go_enter Try.func7, Try.ntmps7
    go_wp2_with (first | (at_builtin; refine wpList_append_run rfl _ _ 22 rfl (.slice none 0 0) (.slice (some ⟨sb, off, none⟩) L cap) rfl rfl HR1.out ?_) | (at_builtin; refine wpList_append_run rfl _ _ 22 rfl v1 (.slice (some ⟨w1.heap.size, 0, none⟩) 1 1) rfl rfl HRUN.out ?_) | (go_at_call 9; refine Hid.out ?_) | fail)
    unfold Hid
    refine KW.out.mono ?_
    rintro e w3 ⟨rfl, hg3⟩
    go_wp2_with fail
    go_ret
    exact ⟨rfl, HG.out.trans hg3⟩
end Go.Proofs.Ytmclbnhbioficab
