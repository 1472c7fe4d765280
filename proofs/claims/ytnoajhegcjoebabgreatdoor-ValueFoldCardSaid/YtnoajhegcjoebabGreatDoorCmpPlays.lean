/- plays at the kind of ValueCompare. -/
import Derived.Test.YtnoajhegcjoebabGreatDoorCompare
import Derived.Test.YtnoajhegcjoebabGreatDoorScriptOpen
namespace Go.Proofs.YtnoajhegcjoebabGreatDoor
open Go.RowKit Go.Lib Go.Shelf

/-- The tables that the program reads. -/
def Rdy (w : World) : Prop := Tabs w ∧ Rks w
theorem Rdy.G {w w' : World} (h : Rdy w) (g : G w w') : Rdy w' := ⟨h.1.G g, h.2.G g⟩
theorem keepC1 {w W W' : World} {b : Nat} {f : Nat → Option Value} (hb : G W W') (h : (∀ o, W.cell? ⟨b, o, none⟩ = f o) ∧ G w W ∧ b < W.heap.size) : (∀ o, W'.cell? ⟨b, o, none⟩ = f o) ∧ G w W' ∧ b < W'.heap.size := keepG h.1 h.2.1 h.2.2 hb
theorem keepE1 {w W : World} {b : Nat} {f : Nat → Option Value} (h : (∀ o, W.cell? ⟨b, o, none⟩ = f o) ∧ G w W ∧ b < W.heap.size) : (∀ o, W.drew.cell? ⟨b, o, none⟩ = f o) ∧ G w W.drew ∧ b < W.drew.heap.size := keepC1 (G.refl _).drew h
set_option maxRecDepth 100000 in
set_option maxHeartbeats 1000000 in
theorem plays_4 (e : Ent) (hk : e.kind = 4) (hs : e.s.size ≤ 4611686018427387904) (hs' : e.s'.size ≤ 4611686018427387904) (w : World) (hT : Rdy w) : Calls Tryz.prog 10 #[e.V] w fun r w' => r = .returned (.bool true) ∧ G w w' := by
  obtain ⟨kind, op, k, a, b, s, k', a', b', s', vs, st, tt, bb, n, x, y, o1, o2⟩ := e
  simp only at hk hs hs'
  subst hk
  obtain ⟨m, a1, b1, s1, h1⟩ := nz_ex k a b s
  obtain ⟨m', a1', b1', s1', h2⟩ := nz_ex k' a' b' s'
  have HA : Hid (∀ W, G w W → Calls Tryz.prog 16 #[V k a b s, V k' a' b' s'] W fun e w' => e = .returned (.int .i64 (cmpR m m' a1 b1 a1' b1' s1 s1')) ∧ G W w') := fun W g => by
    rw [← cmp_same h1.lt h2.lt h1.ok h2.ok]
    exact Compare_any k a b k' a' b' s s' m m' a1 b1 a1' b1' s1 s1' h1 h2 W (hT.G g).1 (hT.G g).2
  have HB : Hid (∀ W, Calls Tryz.prog 17 #[V k a b s, V k' a' b' s'] W fun e w' => e = .returned (.int .i64 (cmpR m m' a1 b1 a1' b1' s1 s1')) ∧ G W w') := rCmp_any k a b k' a' b' s s' hs hs' m m' a1 b1 a1' b1' s1 s1' h1 h2
  generalize cmpR m m' a1 b1 a1' b1' s1 s1' = r at HA HB
  clear h1 h2 hT hs hs'
  have hc0 : ∀ o, (w.alloc (.cells #[I 4, I op, I k, I a, I b, .string s, I k', I a', I b', .string s', vs, .string st, .string tt, bb, I n, I x, I y, I o1, I o2] 30)).cell? { block := w.heap.size, off := o } = [I 4, I op, I k, I a, I b, .string s, I k', I a', I b', .string s', vs, .string st, .string tt, bb, I n, I x, I y, I o1, I o2][o]? := fun o => by simp
  have hg0 : G w (w.alloc (.cells #[I 4, I op, I k, I a, I b, .string s, I k', I a', I b', .string s', vs, .string st, .string tt, bb, I n, I x, I y, I o1, I o2] 30)) := (G.refl w).alloc _
  have hz0 : w.heap.size < (w.alloc (.cells #[I 4, I op, I k, I a, I b, .string s, I k', I a', I b', .string s', vs, .string st, .string tt, bb, I n, I x, I y, I o1, I o2] 30)).heap.size := by simp
  go_enter Tryz.func10, Tryz.ntmps10
  go_wp2
  generalize w.alloc (.cells #[I 4, I op, I k, I a, I b, .string s, I k', I a', I b', .string s', vs, .string st, .string tt, bb, I n, I x, I y, I o1, I o2] 30) = w1 at hc0 hg0 hz0 ⊢
  have hS0 : (∀ (o : Nat), w1.cell? { block := w.heap.size, off := o } = [I 4, I op, I k, I a, I b, .string s, I k', I a', I b', .string s', vs, .string st, .string tt, bb, I n, I x, I y, I o1, I o2][o]?) ∧ G w w1 ∧ w.heap.size < w1.heap.size := ⟨hc0, hg0, hz0⟩
  clear hc0 hg0 hz0
  go_region_held3 (fun W => (∀ (o : Nat), W.cell? { block := w.heap.size, off := o } = [I 4, I op, I k, I a, I b, .string s, I k', I a', I b', .string s', vs, .string st, .string tt, bb, I n, I x, I y, I o1, I o2][o]?) ∧ G w W ∧ w.heap.size < W.heap.size)
    ((first | assumption | exact keepE1 (by assumption) | exact keepC1 hb5 (by assumption) | exact keepC1 hb5 (keepE1 (by assumption)) | exact keepE1 (keepC1 hb5 (by assumption))))
    (first | (go_at_call 16; refine (HA.out _ (by first | assumption | exact G.drew (by assumption) | exact And.left (And.right (by assumption)) | exact G.drew (And.left (And.right (by assumption))))).mono ?_; rintro e w5 ⟨rfl, hb5⟩) | (go_at_call 17; refine (HB.out _).mono ?_; rintro e w5 ⟨rfl, hb5⟩) | fail)
  rename_i hH
  go_wp2
  go_ret
  exact ⟨rfl, hH.2.1⟩
theorem compare_plays (W : World) (hT : Rdy W) (e : Ent) (h : EntOk W e) (h1 : 4 ≤ e.kind) (h2 : e.kind ≤ 4) (w' : World) (g : G W w') : Calls Tryz.prog 10 #[e.V] w' fun r w'' => r = .returned (.bool true) ∧ G w' w'' :=
  plays_4 e (by omega) (by have := h.s; unfold reachBytes at this; omega) (by have := h.s'; unfold reachBytes at this; omega) w' (hT.G g)
end Go.Proofs.YtnoajhegcjoebabGreatDoor
