/- An item, as far as its val goes; value.compare at whatever two. -/
import Derived.Test.YtdiikofgilplkaaDoorCmp
namespace Go.Proofs.YtdiikofgilplkaaDoor
open Go.RowKit Go.Lib

/-- x is an item whose val is V k a b s. -/
def IVal (x : Value) (k a b : Int) (s : ByteArray) : Prop :=
  ∃ (t f : Nat) (v : Value), x = .iface t v ∧ (∀ w, (method 221 t v "trellis/value.val").run Tryd.prog w = .ok (f, v) w) ∧ (∀ w, (callFunc f #[v]).run Tryd.prog w = .ok (.enter f #[v]) w) ∧
    ∀ w, Calls Tryd.prog f #[v] w fun e w' => e = .returned (V k a b s) ∧ G w w'
/-- The program's ranks. -/
def rkP (n : Nat) : Int := [5, 3, 4, 4, 2, 0, 1].getD n 0
def Rks (w : World) : Prop := (0 < w.heap.size) ∧ ∀ n, n < 7 → w.cell? ⟨0, n, none⟩ = some (.int .i64 (rkP n))
theorem Rks.G {w w' : World} (h : Rks w) (g : G w w') : Rks w' := ⟨Nat.lt_of_lt_of_le h.1 g.size, fun n hn => (g.cell h.1).trans (h.2 n hn)⟩
/-- What compare's region stands on. -/
def CS (w : World) (g B n n' : Nat) (a b a' b' : Int) (s s' : ByteArray) (p p' : Int) (W : World) : Prop :=
  (∀ (o : Nat), W.cell? { block := B, off := o } = [I n, I a, I b, Value.string s][o]?) ∧ (∀ (o : Nat), W.cell? { block := B + 1, off := o } = [I n', I a', I b', Value.string s'][o]?) ∧ W.cell? { block := g, off := n } = some (I p) ∧ W.cell? { block := g, off := n' } = some (I p') ∧ g < B ∧ G w W ∧ B + 1 < W.heap.size
theorem CS.keep {w W W' : World} {g B n n' : Nat} {a b a' b' : Int} {s s' : ByteArray} {p p' : Int} (hb : G W W') (h : CS w g B n n' a b a' b' s s' p p' W) : CS w g B n n' a b a' b' s s' p p' W' := by
  obtain ⟨h1, h2, h3, h4, h5, h6, h7⟩ := h
  exact ⟨G.cells hb h1 (by omega), G.cells hb h2 h7, (hb.cell (by omega)).trans h3, (hb.cell (by omega)).trans h4, h5, h6.trans hb, Nat.lt_of_lt_of_le h7 hb.size⟩
theorem or_five (q : Nat) (c0 c1 c2 c3 c4 : Int) (w : World) (h0 : w.cell? ⟨q, 0, none⟩ = some (.int .i64 c0)) (h1 : w.cell? ⟨q, 1, none⟩ = some (.int .i64 c1)) (h2 : w.cell? ⟨q, 2, none⟩ = some (.int .i64 c2)) (h3 : w.cell? ⟨q, 3, none⟩ = some (.int .i64 c3)) (h4 : w.cell? ⟨q, 4, none⟩ = some (.int .i64 c4)) :
    Calls Tryd.prog 30 #[.slice (some ⟨q, 0, none⟩) 5 5] w fun e w' => e = .returned (.int .i64 (or5 c0 c1 c2 c3 c4)) ∧ w' = w := by
  refine (or_any q 5 (fun i => [c0, c1, c2, c3, c4].getD i 0) (by decide) w (fun i hi => ?_)).mono ?_
  · have : i = 0 ∨ i = 1 ∨ i = 2 ∨ i = 3 ∨ i = 4 := by omega
    rcases this with rfl | rfl | rfl | rfl | rfl <;> assumption
  · rintro e w' ⟨⟨r, rfl, hr⟩, rfl⟩
    refine ⟨?_, rfl⟩
    have : r = or5 c0 c1 c2 c3 c4 := by
      unfold or5
      rcases hr with ⟨rfl, hz⟩ | ⟨m, hm, hz, hne, rfl⟩
      · have z0 := hz 0 (by decide); have z1 := hz 1 (by decide); have z2 := hz 2 (by decide); have z3 := hz 3 (by decide); have z4 := hz 4 (by decide)
        simp at z0 z1 z2 z3 z4
        simp [z0, z1, z2, z3, z4]
      · have : m = 0 ∨ m = 1 ∨ m = 2 ∨ m = 3 ∨ m = 4 := by omega
        rcases this with rfl | rfl | rfl | rfl | rfl
        · simp at hne; simp [hne]
        · have z0 := hz 0 (by decide); simp at hne z0; simp [hne, z0]
        · have z0 := hz 0 (by decide); have z1 := hz 1 (by decide); simp at hne z0 z1; simp [hne, z0, z1]
        · have z0 := hz 0 (by decide); have z1 := hz 1 (by decide); have z2 := hz 2 (by decide); simp at hne z0 z1 z2; simp [hne, z0, z1, z2]
        · have z0 := hz 0 (by decide); have z1 := hz 1 (by decide); have z2 := hz 2 (by decide); have z3 := hz 3 (by decide); simp at hne z0 z1 z2 z3; simp [z0, z1, z2, z3]
    rw [this]
set_option maxRecDepth 100000 in
set_option maxHeartbeats 2000000 in
theorem compare_any (x y : Value) (n n' : Nat) (a b a' b' : Int) (s s' : ByteArray) (hx : IVal x n a b s) (hy : IVal y n' a' b' s') (hn : n < 7) (hn' : n' < 7) (w : World) (hR : Rks w) :
    Calls Tryd.prog 18 #[x, y] w fun e w' => e = .returned (.int .i64 (or5 (cI (rkP n) (rkP n')) (cI a a') (cI n n') (cI b b') (compareBytes s.data.toList s'.data.toList))) ∧ G w w' := by
  obtain ⟨t, f, v, rfl, hm, hf, h1⟩ := hx
  obtain ⟨t', f', v', rfl, hm', hf', h2⟩ := hy
  have H1 : Hid _ := h1
  have H2 : Hid _ := h2
  have i1 : (n : Int) < 7 := by omega
  have i2 : (n' : Int) < 7 := by omega
  clear h1 h2
  go_enter Tryd.func18, Tryd.ntmps18
  go_wp2_with fail
  refine (H1.out _).mono ?_
  rintro e w1 ⟨rfl, hb1⟩
  go_wp2_with fail
  refine (H2.out _).mono ?_
  rintro e w2 ⟨rfl, hb2⟩
  go_wp2_with fail
  have g2 : G w w2 := hb1.trans hb2
  have r1 := (hR.G g2).2 n hn
  have r2 := (hR.G g2).2 n' hn'
  have r0 : 0 < w2.heap.size := (hR.G g2).1
  clear hb1 hb2 hR
  have hc0 : ∀ o, ((w2.alloc (.cells #[I n, I a, I b, .string s] 30)).alloc (.cells #[I n', I a', I b', .string s'] 30)).cell? { block := w2.heap.size, off := o } = [I n, I a, I b, Value.string s][o]? := fun o => by simp
  have hc1 : ∀ o, ((w2.alloc (.cells #[I n, I a, I b, .string s] 30)).alloc (.cells #[I n', I a', I b', .string s'] 30)).cell? { block := w2.heap.size + 1, off := o } = [I n', I a', I b', Value.string s'][o]? := fun o => by simp
  have hr1 : ((w2.alloc (.cells #[I n, I a, I b, .string s] 30)).alloc (.cells #[I n', I a', I b', .string s'] 30)).cell? { block := 0, off := n } = some (I (rkP n)) := by
    rw [G.cell (((G.refl w2).alloc _).alloc _) r0]; exact r1
  have hr2 : ((w2.alloc (.cells #[I n, I a, I b, .string s] 30)).alloc (.cells #[I n', I a', I b', .string s'] 30)).cell? { block := 0, off := n' } = some (I (rkP n')) := by
    rw [G.cell (((G.refl w2).alloc _).alloc _) r0]; exact r2
  have hg0 : G w ((w2.alloc (.cells #[I n, I a, I b, .string s] 30)).alloc (.cells #[I n', I a', I b', .string s'] 30)) := (g2.alloc _).alloc _
  generalize hp : rkP n = p at hr1
  generalize hp' : rkP n' = p' at hr2
  have HPP : Hid (rkP n = p ∧ rkP n' = p') := ⟨hp, hp'⟩
  clear hp hp'
  have hz0 : w2.heap.size + 1 < ((w2.alloc (.cells #[I n, I a, I b, .string s] 30)).alloc (.cells #[I n', I a', I b', .string s'] 30)).heap.size := by simp
  generalize w2.heap.size = B at hc0 hc1 hz0 r0 ⊢
  generalize (w2.alloc (.cells #[I n, I a, I b, .string s] 30)).alloc (.cells #[I n', I a', I b', .string s'] 30) = w3 at hc0 hc1 hr1 hr2 hg0 hz0 ⊢
  clear r1 r2 g2
  have hS : CS w 0 B n n' a b a' b' s s' p p' w3 := ⟨hc0, hc1, hr1, hr2, r0, hg0, hz0⟩
  clear hc0 hc1 hr1 hr2 r0 hg0 hz0
  unfold CS at hS
  have HO : Hid _ := or_five
  go_region_held3 (fun W => (∀ (o : Nat), W.cell? { block := B, off := o } = [I n, I a, I b, Value.string s][o]?) ∧ (∀ (o : Nat), W.cell? { block := B + 1, off := o } = [I n', I a', I b', Value.string s'][o]?) ∧ W.cell? { block := 0, off := n } = some (I p) ∧ W.cell? { block := 0, off := n' } = some (I p') ∧ 0 < B ∧ G w W ∧ B + 1 < W.heap.size)
    ((first | exact ‹_› | exact CS.keep (G.refl _).drew ‹_› | exact CS.keep ((G.refl _).alloc _) ‹_› | exact CS.keep (((G.refl _).alloc _).drew) ‹_› | exact CS.keep (((G.refl _).drew).alloc _) ‹_›))
    (first | (go_at_call 31; refine (cmp_int _ _ _).mono ?_; rintro e w' ⟨rfl, rfl⟩) | (go_at_call 32; refine (cmp_i64 _ _ _).mono ?_; rintro e w' ⟨rfl, rfl⟩) | (go_at_call 33; refine (cmp_str _ _ _).mono ?_; rintro e w' ⟨rfl, rfl⟩) | (go_at_call 30; refine (HO.out _ (cI p p') (cI a a') (cI n n') (cI b b') (compareBytes s.data.toList s'.data.toList) _ (by simp) (by simp) (by simp) (by simp) (by simp)).mono ?_; rintro e w' ⟨rfl, rfl⟩) | fail)
  rename_i hH
  go_wp2
  go_ret
  exact ⟨by rw [HPP.out.1, HPP.out.2]; rfl, hH.2.2.2.2.2.1⟩
end Go.Proofs.YtdiikofgilplkaaDoor
