/- plays at the kind of ValueFold. -/
import Derived.Test.YtnoajhegcjoebabGreatDoorFold10
namespace Go.Proofs.YtnoajhegcjoebabGreatDoor
open Go.RowKit Go.PlainAid Go.Lib Go.Shelf

theorem folds_all (W : World) (hT : Rdy W) (e : Ent) (h : VsOk W e.vs) (w : World) (g0 : G W w) : Calls Tryz.prog 18 #[e.V] w fun r w' => r = .returned (.bool true) ∧ G w w' := by
  obtain ⟨kind, op, k, a, b, s, k', a', b', s', vs, st, tt, bb, n, x, y, o1, o2⟩ := e
  simp only at h ⊢
  obtain ⟨ao, cap, L, rfl, hV, hL, hc⟩ := vs_list h
  obtain ⟨q, c, hA, hB⟩ := fold_both op ao cap L W hT hV hL
  rcases hc with ⟨rfl, rfl, rfl⟩ | ⟨ad, rfl, hfl⟩
  · exact folds_none kind op k a b s k' a' b' s' st tt bb n x y o1 o2 w q c (fun W1 x g1 h => hA W1 x (g0.trans g1) h) (fun W1 g1 => hB W1 (g0.trans g1))
  · exact folds_some kind op k a b s k' a' b' s' st tt bb n x y o1 o2 cap L w ad (fun j u hj => (Below.cell g0 (World.block_lt_of_cell? W _ (hfl j u hj))).trans (hfl j u hj)) (hV.imp id fun h => h.G g0) (Nat.le_trans hL.1 reach_le) q c (fun W1 x g1 h => hA W1 x (g0.trans g1) h) (fun W1 g1 => hB W1 (g0.trans g1))
set_option maxRecDepth 100000 in
set_option maxHeartbeats 1000000 in
theorem plays_5 (W : World) (hT : Rdy W) (e : Ent) (hk : e.kind = 5) (h : VsOk W e.vs) (w : World) (g0 : G W w) : Calls Tryz.prog 10 #[e.V] w fun r w' => r = .returned (.bool true) ∧ G w w' := by
  have HF : Hid _ := folds_all W hT e h
  obtain ⟨kind, op, k, a, b, s, k', a', b', s', vs, st, tt, bb, n, x, y, o1, o2⟩ := e
  simp only at hk
  subst hk
  clear h hT
  have hr : (w.alloc (.cells #[I 5, I op, I k, I a, I b, .string s, I k', I a', I b', .string s', vs, .string st, .string tt, bb, I n, I x, I y, I o1, I o2] 30)).rangeAt w.heap.size 0 [I 5, I op, I k, I a, I b, .string s, I k', I a', I b', .string s', vs, .string st, .string tt, bb, I n, I x, I y, I o1, I o2] := fun j v hv => by rw [Nat.zero_add]; simpa using hv
  go_enter Tryz.func10, Tryz.ntmps10
  go_wp2_with (first | (refine wpList_load_mid rfl 30 _ rfl w.heap.size 0 rfl [I 5, I op, I k, I a, I b, .string s, I k', I a', I b', .string s', vs, .string st, .string tt, bb, I n, I x, I y, I o1, I o2] _ hr Tryz.underlying30 rfl (by kernel_rfl) ?_) | (go_at_call 18; refine (HF.out _ (g0.alloc _)).mono ?_; rintro e w1 ⟨rfl, hb1⟩))
  go_wp2
  go_ret
  exact ⟨rfl, ((G.refl w).alloc _).trans hb1⟩
theorem fold_plays (W : World) (hT : Rdy W) (e : Ent) (h : EntOk W e) (h1 : 5 ≤ e.kind) (h2 : e.kind ≤ 5) (w' : World) (g : G W w') : Calls Tryz.prog 10 #[e.V] w' fun r w'' => r = .returned (.bool true) ∧ G w' w'' :=
  plays_5 W hT e (by omega) h.vs w' g
end Go.Proofs.YtnoajhegcjoebabGreatDoor
