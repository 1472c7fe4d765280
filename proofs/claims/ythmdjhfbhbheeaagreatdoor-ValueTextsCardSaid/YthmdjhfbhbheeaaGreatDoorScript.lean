/- A script's loop: every entry of a kind from lo to hi is played. -/
import Derived.Test.YthmdjhfbhbheeaaGreatDoorForms2
import Derived.Deep.MidRow
namespace Go.Proofs.YthmdjhfbhbheeaaGreatDoor
open Go.RowKit Go.PlainAid Go.Lib Go.Shelf

set_option maxRecDepth 100000 in
set_option maxHeartbeats 1000000 in
theorem plays_1 (e : Ent) (hk : e.kind = 1) (hs : e.s.size ≤ 4611686018427387904) (w : World) (hT : Tabs w) : Calls Tryz.prog 7 #[e.V] w fun r w' => r = .returned (.bool true) ∧ G w w' := by
  have H1 : Hid _ := forms_any e hs
  obtain ⟨kind, op, k, a, b, s, k', a', b', s', vs, st, tt, bb, n, x, y, o1, o2⟩ := e
  simp only at hk
  subst hk
  have hr : (w.alloc (.cells #[I 1, I op, I k, I a, I b, .string s, I k', I a', I b', .string s', vs, .string st, .string tt, bb, I n, I x, I y, I o1, I o2] 35)).rangeAt w.heap.size 0 [I 1, I op, I k, I a, I b, .string s, I k', I a', I b', .string s', vs, .string st, .string tt, bb, I n, I x, I y, I o1, I o2] := fun j v hv => by rw [Nat.zero_add]; simpa using hv
  go_enter Tryz.func7, Tryz.ntmps7
  go_wp2_with (first | (refine wpList_load_mid rfl 35 _ rfl w.heap.size 0 rfl [I 1, I op, I k, I a, I b, .string s, I k', I a', I b', .string s', vs, .string st, .string tt, bb, I n, I x, I y, I o1, I o2] _ hr Tryz.underlying35 rfl (by kernel_rfl) ?_) | (go_at_call 13; refine (H1.out _ (hT.G ((G.refl w).alloc _))).mono ?_; rintro e w1 ⟨rfl, hb1⟩))
  go_wp2
  go_ret
  exact ⟨rfl, ((G.refl w).alloc _).trans hb1⟩
/-- n entries lie at (b, off) of W. -/
def Ents (W : World) (b off n : Nat) (E : Nat → Ent) : Prop := ∀ i, i < n → W.rangeAt b (off + i * 19) (E i).L
theorem cell_lt {W : World} {b o : Nat} {v : Value} (h : W.cell? ⟨b, o, none⟩ = some v) : b < W.heap.size := by
  rcases Nat.lt_or_ge b W.heap.size with h1 | h1
  · exact h1
  · exfalso
    have : W.heap[b]? = none := Array.getElem?_eq_none h1
    unfold World.cell? at h
    simp only [this] at h
    cases h
theorem rangeAt_G {W w : World} {b o : Nat} {cs : List Value} (h : W.rangeAt b o cs) (g : G W w) : w.rangeAt b o cs :=
  fun j v hv => (Below.cell g (p := ⟨b, o + j, none⟩) (cell_lt (h j v hv))).trans (h j v hv)
set_option maxRecDepth 100000 in
set_option maxHeartbeats 1000000 in
theorem upto_some (lo hi : Int) (b off n cap : Nat) (hn : n ≤ 140737488351232) (E : Nat → Ent) (w : World) (hE : Ents w b off n E)
    (hP : ∀ i, i < n → lo ≤ (E i).kind → (E i).kind ≤ hi → ∀ w', G w w' → Calls Tryz.prog 7 #[(E i).V] w' fun r w'' => r = .returned (.bool true) ∧ G w' w'') :
    Calls Tryz.prog 6 #[.slice (some ⟨b, off, none⟩) n cap, .int .i64 lo, .int .i64 hi] w fun r w' => r = .returned (.bool true) ∧ G w w' := by
  have HP : Hid _ := hP
  have HE : Hid (Ents w b off n E) := hE
  clear hP hE
  go_enter Tryz.func6, Tryz.ntmps6
  go_wp2
  go_loopw [7, 8] (fun i _ W => ∃ m : Nat, m ≤ n ∧ i = .int .i64 m ∧ G w W) (fun i _ _ => n - (RowKit.intOf i).toNat)
  case atStart => exact ⟨0, by omega, rfl, G.refl _⟩
  case round =>
    obtain ⟨m, hm, rfl, hG⟩ := hrel
    have HG : Hid (G w wr) := hG
    clear hG
    by_cases hlt : m < n
    · have hx : Hid (wr.rangeAt b (off + m * 19) (E m).L) := rangeAt_G (HE.out m hlt) HG.out
      have h0 : wr.cell? ⟨b, off + m * 19, none⟩ = some (I (E m).kind) := hx.out 0 _ rfl
      have HQ : Hid _ := HP.out m hlt
      generalize E m = e at hx h0 HQ
      by_cases h1 : lo ≤ e.kind
      · by_cases h2 : e.kind ≤ hi
        · have HR : Hid _ := HQ.out h1 h2
          go_wp2_with (first | (refine wpList_load_mid rfl 35 _ rfl b (off + m * 19) rfl e.L _ hx.out Tryz.underlying35 rfl (by kernel_rfl) ?_) | (go_at_call 7; refine (HR.out _ HG.out).mono ?_; rintro e w1 ⟨rfl, hb1⟩))
          go_roundw
          case rel => exact ⟨m + 1, by omega, by go_num, HG.out.trans hb1⟩
          case measure => simp [RowKit.intOf]; omega
        · go_wp2
          go_roundw
          case rel => exact ⟨m + 1, by omega, by go_num, HG.out⟩
          case measure => simp [RowKit.intOf]; omega
      · go_wp2
        go_roundw
        case rel => exact ⟨m + 1, by omega, by go_num, HG.out⟩
        case measure => simp [RowKit.intOf]; omega
    · go_wp2
      go_ret
      exact ⟨rfl, HG.out⟩
set_option maxRecDepth 100000 in
set_option maxHeartbeats 1000000 in
theorem upto_nil (lo hi : Int) (w : World) :
    Calls Tryz.prog 6 #[.slice none 0 0, .int .i64 lo, .int .i64 hi] w fun r w' => r = .returned (.bool true) ∧ G w w' := by
  go_enter Tryz.func6, Tryz.ntmps6
  go_wp2
  refine wp_loop_rounds 1 ?_
  rw [rounds_succ]
  go_wp2
  go_ret
  exact ⟨rfl, G.refl _⟩
end Go.Proofs.YthmdjhfbhbheeaaGreatDoor
