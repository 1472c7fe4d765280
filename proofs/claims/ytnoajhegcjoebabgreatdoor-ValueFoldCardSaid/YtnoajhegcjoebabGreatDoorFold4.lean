/- trellisref1.mean. -/
import Derived.Test.YtnoajhegcjoebabGreatDoorFold3
namespace Go.Proofs.YtnoajhegcjoebabGreatDoor
open Go.RowKit Go.Lib Go.Shelf

set_option maxRecDepth 100000 in
set_option maxHeartbeats 2000000 in
theorem rsum_nil (w : World) : Calls Tryz.prog 96 #[.slice none 0 0] w fun e w' => e = .returned (.tuple #[V 2 0 0 E0, .int .i64 0]) ∧ G w w' := by
  go_enter Tryz.func96, Tryz.ntmps96
  go_wp2
  go_loopw [4] (fun i W => i = .int .i64 0 ∧ W = w.alloc (.cells #[I 0, I 0, I 0, .string E0] 26)) (fun _ _ => 0)
  case atStart => exact ⟨rfl, rfl⟩
  case round =>
    obtain ⟨rfl, rfl⟩ := hrel
    go_wp2_with fail
    refine (rwhole _ _).mono ?_
    rintro e w1 ⟨rfl, hb1⟩
    have hz1 : w.heap.size < w1.heap.size := by have := hb1.size; simp at this; omega
    have hT : Two w w.heap.size w1.heap.size (fun o => [I 0, I 0, I 0, Value.string E0][o]?) (fun o => [I 2, I 0, I 0, Value.string E0][o]?) (w1.alloc (.cells #[I 2, I 0, I 0, .string E0] 26)) := by
      refine ⟨?_, fun o => by simp, ?_, fun o => by simp, (((G.refl w).alloc _).trans hb1).alloc _, by simp; omega, by simp⟩
      · exact G.cells (hb1.alloc _) (fun o => by simp) (by simp)
      · exact G.frozens (hb1.alloc _) (fun o => by simp) (by simp)
    clear hb1
    have HT0 : Hid _ := hT
    clear hT
    generalize hB5 : w1.heap.size = B5 at HT0 hz1
    go_wp2
    go_loopw [6] (fun i W => i = .int .i64 0 ∧ Hid (Two w w.heap.size B5 (fun o => [I 0, I 0, I 0, Value.string E0][o]?) (fun o => [I 2, I 0, I 0, Value.string E0][o]?) W)) (fun _ _ => 0)
    case atStart => exact ⟨rfl, HT0.out⟩
    case round =>
      obtain ⟨rfl, HS⟩ := hrel
      obtain ⟨c2, c5, f2, f5, hG6, z2, z5⟩ := HS.out
      clear HS
      go_wp2
      exact bodyPost_ret (v := .tuple #[V 2 0 0 E0, .int .i64 0]) (by simp [results, Tryz.results96, go_sem, c2]) rfl ⟨rfl, by
        repeat (first | exact hG6 | refine G.setCell ?_ (Nat.le_refl _) _)⟩
/-- summed, at whatever list. -/
theorem sd_any {D : List Qd} (hD : GoodD D) {rv : Value} {c : Int} {q : Qd} (h : SR D rv c q) (x : Value) (w : World) (hV : VRow w x D) : Calls Tryz.prog 96 #[x] w fun e w' => e = .returned (.tuple #[q.W, .int .i64 c]) ∧ G w w' := by
  have hV' := hV
  rcases hV with ⟨rfl, hn⟩ | ⟨b, off, cap, rfl, _, _⟩
  · subst hn
    rcases h with ⟨h, _⟩ | ⟨_, m, _, ⟨_, _, rfl, rfl⟩ | ⟨h, _⟩⟩
    · cases h
    · exact rsum_nil w
    · exact absurd h (Nat.not_lt_zero _)
  · rcases h with ⟨hA, _, rfl, rfl⟩ | ⟨hA, m, hm, hr⟩
    · exact rsum_no' b off cap D hD.2 w hV' hA
    · exact rsum_yes' b off cap D (good_num hD hA) hD.2 w hV' m hm c q (by
        rcases hr with ⟨h1, _, h2, h3⟩ | ⟨h1, _, h2, h3⟩
        · exact .inl ⟨h1, h2, h3⟩
        · exact .inr ⟨h1, h2, h3⟩)
set_option maxRecDepth 100000 in
set_option maxHeartbeats 2000000 in
theorem rmean_zero (a : Option Addr) (cap : Nat) (w : World) : Calls Tryz.prog 97 #[.slice a 0 cap] w fun e w' => e = .returned (.tuple #[V0, .int .i64 0]) ∧ G w w' := by
  go_enter Tryz.func97, Tryz.ntmps97
  go_wp2
  exact bodyPost_ret (v := .tuple #[V0, .int .i64 0]) (by simp [results, Tryz.results97, go_sem]) rfl ⟨rfl, by repeat (first | exact G.refl _ | refine G.alloc ?_ _ | refine G.setCell ?_ (by simp) _)⟩
set_option maxRecDepth 100000 in
set_option maxHeartbeats 2000000 in
theorem rmean_err (a : Option Addr) (n cap : Nat) (h0 : 0 < n) (q : Qd) (c : Int) (hc : (c != 0) = true) (w : World) (h : ∀ W, G w W → Calls Tryz.prog 96 #[.slice a n cap] W fun e w' => e = .returned (.tuple #[q.W, .int .i64 c]) ∧ G W w') :
    Calls Tryz.prog 97 #[.slice a n cap] w fun e w' => e = .returned (.tuple #[V0, .int .i64 c]) ∧ G w w' := by
  have H : Hid _ := h
  have z : ((n : Int) == 0) = false := beq_false_of_ne (by omega)
  clear h h0
  obtain ⟨qk, qa, qb, qs⟩ := q
  go_enter Tryz.func97, Tryz.ntmps97
  go_wp2_with fail
  refine (H.out _ ((G.refl w).alloc _)).mono ?_
  rintro e w1 ⟨rfl, hb1⟩
  have hz1 : w.heap.size < w1.heap.size := by have := hb1.size; simp at this; omega
  have g1 : G w w1 := ((G.refl w).alloc _).trans hb1
  obtain ⟨hc1, hf1⟩ := hb1.rules
  go_wp2
  exact bodyPost_ret (v := .tuple #[V0, .int .i64 c]) (by simp [results, Tryz.results97, go_sem, hc1, hz1]) rfl ⟨rfl, by
    repeat (first | exact g1 | refine G.alloc ?_ _ | refine G.setCell ?_ (by first | (simp; done) | (simp; omega)) _)⟩
/-- What mean's last region stands on. -/
abbrev RM (w : World) (B4 : Nat) (tk ta tb : Int) (ts : ByteArray) (W : World) : Prop := (∀ (o : Nat), W.cell? { block := B4, off := o } = [I tk, I ta, I tb, Value.string ts][o]?) ∧ G w W ∧ B4 < W.heap.size ∧ w.heap.size < B4
theorem RM.keep {w W W' : World} {B4 : Nat} {tk ta tb : Int} {ts : ByteArray} (hb : G W W') (h : RM w B4 tk ta tb ts W) : RM w B4 tk ta tb ts W' :=
  ⟨G.cells hb h.1 h.2.2.1, h.2.1.trans hb, Nat.lt_of_lt_of_le h.2.2.1 hb.size, h.2.2.2⟩
theorem RM.set {w W : World} {B4 : Nat} {tk ta tb : Int} {ts : ByteArray} (j : Nat) (u : Value) (h : RM w B4 tk ta tb ts W) : RM w B4 tk ta tb ts (W.setCell ⟨w.heap.size, j, none⟩ u) :=
  ⟨fun o => by rw [World.cell?_setCell_far _ _ _ _ (by have := h.2.2.2; simp only; omega)]; exact h.1 o, h.2.1.setCell (Nat.le_refl _) _, by simpa using h.2.2.1, h.2.2.2⟩
set_option maxRecDepth 100000 in
set_option maxHeartbeats 2000000 in
theorem rmean_ok (a : Option Addr) (n cap : Nat) (h0 : 0 < n) (t q : Qd) (c : Int) (w : World) (h : ∀ W, G w W → Calls Tryz.prog 96 #[.slice a n cap] W fun e w' => e = .returned (.tuple #[t.W, .int .i64 0]) ∧ G W w')
    (h2 : ∀ w, Calls Tryz.prog 45 #[.int .i64 4, t.W, Qd.W (2, (n : Int), 0, E0)] w fun e w' => e = .returned (.tuple #[q.W, .int .i64 c]) ∧ G w w') :
    Calls Tryz.prog 97 #[.slice a n cap] w fun e w' => e = .returned (.tuple #[q.W, .int .i64 c]) ∧ G w w' := by
  have H : Hid _ := h
  have H2 : Hid _ := h2
  have z : ((n : Int) == 0) = false := beq_false_of_ne (by omega)
  clear h h0 h2
  obtain ⟨qk, qa, qb, qs⟩ := q
  obtain ⟨tk, ta, tb, ts⟩ := t
  go_enter Tryz.func97, Tryz.ntmps97
  go_wp2_with fail
  refine (H.out _ ((G.refl w).alloc _)).mono ?_
  rintro e w1 ⟨rfl, hb1⟩
  have hz1 : w.heap.size < w1.heap.size := by have := hb1.size; simp at this; omega
  have hr0 : RM w w1.heap.size tk ta tb ts (w1.alloc (.cells #[I tk, I ta, I tb, .string ts] 26)) := ⟨fun o => by simp, (((G.refl w).alloc _).trans hb1).alloc _, by simp, hz1⟩
  have hA0 : ∀ (o : Nat), (w1.alloc (.cells #[I tk, I ta, I tb, .string ts] 26)).cell? { block := w.heap.size, off := o } = [I 0, I 0, I 0, Value.string E0][o]? := G.cells (hb1.alloc _) (fun o => by simp) (by simp)
  have hF0 : ∀ (o : Nat), (w1.alloc (.cells #[I tk, I ta, I tb, .string ts] 26)).frozen? { block := w.heap.size, off := o } = false := G.frozens (hb1.alloc _) (fun o => by simp) (by simp)
  have hz0 : w.heap.size < (w1.alloc (.cells #[I tk, I ta, I tb, .string ts] 26)).heap.size := by simp; omega
  clear hb1
  go_wp2
  generalize (w1.alloc (.cells #[I tk, I ta, I tb, .string ts] 26)) = W0 at hr0 hA0 hF0 hz0 ⊢
  generalize w1.heap.size = B4 at hr0 ⊢
  clear hz1
  go_region_held3 (fun W => (∀ (o : Nat), W.cell? { block := B4, off := o } = [I tk, I ta, I tb, Value.string ts][o]?) ∧ G w W ∧ B4 < W.heap.size ∧ w.heap.size < B4)
    ((first | assumption | (repeat (first | exact hr0 | assumption | refine RM.set _ _ ?_ | refine RM.keep hb6 ?_ | refine RM.keep hb5 ?_ | refine RM.keep (G.drew (G.refl _)) ?_))))
    (first | (go_at_call 37; refine (rwhole _ _).mono ?_; rintro e w5 ⟨rfl, hb5⟩; obtain ⟨hc5, hf5⟩ := hb5.rules; have hz5 : w.heap.size < w5.heap.size := (by have := hb5.size; first | omega | (simp at this; omega)); have hA5 : ∀ (o : Nat), w5.cell? { block := w.heap.size, off := o } = [I 0, I 0, I 0, Value.string E0][o]? := (by intro o; rw [hc5 _ _ (by first | omega | (simp; omega))]; first | exact hA0 o | simp [hA0]); have hF5 : ∀ (o : Nat), w5.frozen? { block := w.heap.size, off := o } = false := (by intro o; rw [hf5 _ _ (by first | omega | (simp; omega))]; first | exact hF0 o | simp [hF0]); clear hc5 hf5) | (go_at_call 45; refine (H2.out _).mono ?_; rintro e w6 ⟨rfl, hb6⟩; obtain ⟨hc6, hf6⟩ := hb6.rules; have hz6 : w.heap.size < w6.heap.size := (by have := hb6.size; first | omega | (simp at this; omega)); have hA6 : ∀ (o : Nat), w6.cell? { block := w.heap.size, off := o } = [I 0, I 0, I 0, Value.string E0][o]? := (by intro o; rw [hc6 _ _ (by first | omega | (simp; omega))]; first | exact hA5 o | simp [hA5]); have hF6 : ∀ (o : Nat), w6.frozen? { block := w.heap.size, off := o } = false := (by intro o; rw [hf6 _ _ (by first | omega | (simp; omega))]; first | exact hF5 o | simp [hF5]); clear hc6 hf6) | fail)
  rename_i hH
  have hgE := hH.2.1
  clear hH hb5 hb6 hr0
  go_wp2
  exact bodyPost_ret (v := .tuple #[V qk qa qb qs, .int .i64 c]) (by simp [results, Tryz.results97, go_sem, hA6]) rfl ⟨rfl, hgE⟩
/-- mean, at whatever list. -/
theorem mn_any {D : List Qd} (hD : GoodD D) {rv : Value} {c : Int} {q : Qd} (h : FR 5 D rv c q) (x : Value) (w : World) (hV : VRow w x D) : Calls Tryz.prog 97 #[x] w fun e w' => e = .returned (.tuple #[q.W, .int .i64 c]) ∧ G w w' := by
  have nn : D = [] → ∃ a cap, x = .slice a 0 cap := fun e => by
    rcases hV with ⟨rfl, _⟩ | ⟨g, off, cap, rfl, _, _⟩
    · exact ⟨_, _, rfl⟩
    · exact ⟨_, cap, by rw [e]; rfl⟩
  have som : D ≠ [] → ∃ a cap, x = .slice a D.length cap := fun e => by
    rcases hV with ⟨rfl, hn⟩ | ⟨g, off, cap, rfl, _, _⟩
    · exact absurd hn e
    · exact ⟨_, cap, rfl⟩
  rcases h with ⟨h, _⟩ | ⟨h, _⟩ | ⟨_, hn, rfl, rfl, rfl⟩ | ⟨h, _⟩ | ⟨h, _⟩ | ⟨_, hne, hm⟩
  · omega
  · omega
  · obtain ⟨a, cap, rfl⟩ := nn hn
    exact rmean_zero a cap w
  · omega
  · omega
  · obtain ⟨a, cap, rfl⟩ := som hne
    have h0 := List.length_pos_iff.2 hne
    rcases hm with ⟨rv0, hs, hc, rfl⟩ | ⟨rv0, q0, hs, hst⟩
    · have hq : q = Q0 := by
        rcases hs with ⟨_, _, _, rfl⟩ | ⟨_, m, _, ⟨_, _, h0, _⟩ | ⟨_, _, _, rfl⟩⟩
        · rfl
        · exact absurd h0 hc
        · rfl
      have hS := fun W (g : G w W) => sd_any hD hs _ W (hV.G g)
      rw [hq]
      exact rmean_err a _ cap h0 q c (by simpa using hc) w hS
    · exact rmean_ok a _ cap h0 q0 q c w (fun W g => sd_any hD hs _ W (hV.G g)) hst.2.2
end Go.Proofs.YtnoajhegcjoebabGreatDoor
