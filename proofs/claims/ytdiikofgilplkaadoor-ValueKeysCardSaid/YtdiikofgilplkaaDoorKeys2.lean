/- ValueKeys: the walk. -/
import Derived.Test.YtdiikofgilplkaaDoorKeys1
namespace Go.Proofs.YtdiikofgilplkaaDoor
open Go.RowKit

/-- Compare of two values, and how their bytes stand. -/
theorem cmp_ok (k a b k' a' b' : Int) (s s' : ByteArray) (ok : okV k a b s = true) (ok' : okV k' a' b' s' = true) (ha : R64 a) (hb : R64 b) (ha' : R64 a') (hb' : R64 b') : ∃ z : Int, (∀ w, Tabs w → Rks w → Calls Tryd.prog 7 #[V k a b s, V k' a' b' s'] w fun e w' => e = .returned (.int .i64 z) ∧ G w w') ∧
    ((z = -1 ∧ Ls (encV k a b s) (encV k' a' b' s')) ∨ (z = 1 ∧ Ls (encV k' a' b' s') (encV k a b s)) ∨ (z = 0 ∧ k = k' ∧ a = a' ∧ b = b' ∧ s = s')) := by
  have h1 := okV_kind k a b s ok
  have h2 := okV_kind k' a' b' s' ok'
  obtain ⟨n, rfl⟩ : ∃ n : Nat, k = n := ⟨k.toNat, by omega⟩
  obtain ⟨n', rfl⟩ : ∃ n : Nat, k' = n := ⟨k'.toNat, by omega⟩
  refine ⟨ord n n' a b a' b' s s', fun w hT hR => Compare_any n a b n' a' b' s s' n n' a b a' b' s s' ⟨by omega, ok, .inl ⟨ok, rfl, rfl, rfl, rfl⟩⟩ ⟨by omega, ok', .inl ⟨ok', rfl, rfl, rfl, rfl⟩⟩ w hT hR, ?_⟩
  rcases ord_cases (by omega) (by omega) ok ok' ha hb ha' hb' with h | h | ⟨h, rfl, h'⟩
  · exact .inl h
  · exact .inr (.inl h)
  · exact .inr (.inr ⟨h, rfl, h'⟩)
theorem key_vals (pl pm : Nat) (ys zs : List Nat) (p q : Nat) (z : Int) (h : (z = -1 ∧ Ls ys zs) ∨ (z = 1 ∧ Ls zs ys) ∨ (z = 0 ∧ ys = zs)) :
    (z = -1 ∧ (lx (sub (keyF pl pm ys p) 12 8) (sub (keyF pl pm zs q) 12 8) = -1 ∨ lx (sub (keyF pl pm ys p) 12 8) (sub (keyF pl pm zs q) 12 8) = 0)) ∨ (z = 1 ∧ (lx (sub (keyF pl pm ys p) 12 8) (sub (keyF pl pm zs q) 12 8) = 1 ∨ lx (sub (keyF pl pm ys p) 12 8) (sub (keyF pl pm zs q) 12 8) = 0)) ∨ (z = 0 ∧ lx (sub (keyF pl pm ys p) 12 8) (sub (keyF pl pm zs q) 12 8) = 0) := by
  rw [key_8, key_8]
  rcases h with ⟨h, hs⟩ | ⟨h, hs⟩ | ⟨h, rfl⟩
  · rcases pad8_ls hs with h' | h'
    · exact .inl ⟨h, .inl h'.lt.1⟩
    · exact .inl ⟨h, .inr (by rw [h', lx_self])⟩
  · rcases pad8_ls hs with h' | h'
    · exact .inr (.inl ⟨h, .inl h'.lt.2⟩)
    · exact .inr (.inl ⟨h, .inr (by rw [h', lx_self])⟩)
  · exact .inr (.inr ⟨h, lx_self _⟩)
/-- What the walk is under: the two values in their boxes, and three keys. -/
structure KS (w : World) (k a b k' a' b' : Int) (s s' : ByteArray) (W : World) : Prop where
  g : G w W
  c1 : ∀ o, W.cell? { block := w.heap.size, off := o } = [I k, I a, I b, .string s][o]?
  c2 : ∀ o, W.cell? { block := w.heap.size + 1, off := o } = [I k', I a', I b', .string s'][o]?
  z : w.heap.size + 1 < W.heap.size
theorem KS.keep {w : World} {k a b k' a' b' : Int} {s s' : ByteArray} {W W' : World} (h : KS w k a b k' a' b' s s' W) (g : G W W') : KS w k a b k' a' b' s s' W' :=
  ⟨h.g.trans g, G.cells g h.c1 (by have := h.z; omega), G.cells g h.c2 h.z, Nat.lt_of_lt_of_le h.z g.size⟩
theorem KS.start (w : World) (k a b k' a' b' : Int) (s s' : ByteArray) : KS w k a b k' a' b' s s' ((w.alloc (.cells #[I k, I a, I b, .string s] 30)).alloc (.cells #[I k', I a', I b', .string s'] 30)) :=
  ⟨((G.refl w).alloc _).alloc _, fun o => by simp, fun o => by simp, by simp⟩
end Go.Proofs.YtdiikofgilplkaaDoor
