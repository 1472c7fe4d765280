/- trellisref1.Encode of a complex number; of any value. -/
import Derived.Test.YtficmpaeochcgaaGreatDoorEnc8
namespace Go.Proofs.YtficmpaeochcgaaGreatDoor
open Go.RowKit Go.Shelf Go.PlainAid Go.Lib

theorem one_cell {Y : World} {ad : Addr} {v : Value} (h : Y.cell? ad = some v) : ∀ (j : Nat) (u : Value), [v][j]? = some u → Y.cell? (ad.add j) = some u := by
  intro j u hj
  match j, hj with
  | 0, hj => simp at hj; subst hj; exact h
/-- A part. -/
def PR (n : Int) : Prop := -33554432 ≤ n ∧ n ≤ 33554432
set_option maxRecDepth 100000 in
set_option maxHeartbeats 2000000 in
theorem ren_3 (a b : Int) (s : ByteArray) (h1 : -33554432 ≤ a) (h2 : a ≤ 33554432) (h3 : -33554432 ≤ b) (h4 : b ≤ 33554432) (hs : s.size ≤ 4611686018427387904) (h : okV 3 a b s = true) (w : World) :
    Calls Tryz.prog 12 #[V 3 a b s] w fun e w' => ∃ x', e = .returned (.tuple #[x', .int .i64 0]) ∧ Bw w w' x' ((encW a ++ [1]) ++ encW b) := by
  obtain ⟨i0, hi, hz0, hz1, hz2⟩ := info_parts info_u8
  have hla := encW_len a (by omega) (by omega)
  have hlb := encW_len b (by omega) (by omega)
  have HX : Hid (∀ n, PR n → ∀ w, Calls Tryz.prog 31 #[.int .i64 n] w fun e w' => ∃ x', e = .returned x' ∧ Bw w w' x' (encW n)) := fun n hn w => rby_any n (by have := hn.1; omega) (by have := hn.2; omega) w
  have HJ : Hid (∀ a b xs ys w, RowB w a xs → RowB w b ys → xs.length ≤ 1000 → ys.length ≤ 1000 → Calls Tryz.prog 30 #[a, b] w fun e w' => ∃ x', e = .returned x' ∧ Bw w w' x' (xs ++ ys)) := joined_any
  have pa : PR a := ⟨h1, h2⟩
  have pb : PR b := ⟨h3, h4⟩
  have HV : Hid (∀ w, Calls Tryz.prog 29 #[V 3 a b s] w fun e w' => e = .returned (.bool (okV 3 a b s)) ∧ G w w') := rv_any 3 a b s hs
  rw [h] at HV
  clear h h1 h2 h3 h4
  go_enter Tryz.func12, Tryz.ntmps12
  go_wp2_with fail
  refine (HV.out _).mono ?_
  rintro e w1 ⟨rfl, hb1⟩
  have hc1 : ∀ o, w1.cell? { block := w.heap.size, off := o } = [I 3, I a, I b, .string s][o]? := G.cells hb1 (by simp) (by simp)
  have hz1' : w.heap.size < w1.heap.size := by have := hb1.size; simp at this; omega
  have hG1 : G w w1 := ((G.refl w).alloc _).trans hb1
  have HG : Hid _ := hG1
  clear hb1 HV hG1
  go_wp2
  have HK : Hid (∀ W, G w1 W → (∀ (o : Nat), W.cell? { block := w.heap.size, off := o } = [I 3, I a, I b, .string s][o]?) ∧ G w1 W) := fun W g => ⟨G.cells g hc1 hz1', g⟩
  have hS : (∀ (o : Nat), w1.cell? { block := w.heap.size, off := o } = [I 3, I a, I b, .string s][o]?) ∧ G w1 w1 := ⟨hc1, G.refl w1⟩
  clear hc1 hz1'
  go_region_held3 (fun W => (∀ (o : Nat), W.cell? { block := w.heap.size, off := o } = [I 3, I a, I b, .string s][o]?) ∧ G w1 W) ((first | assumption | exact HK.out _ hB7.g | exact HK.out _ hB6.g | exact HK.out _ (G.drew (And.right (by assumption))) | exact HK.out _ (G.alloc (And.right (by assumption)) _) | exact HK.out _ (G.trans (And.right (by assumption)) hb5.g)))
    (first | (go_at_call 31; refine (HX.out _ (by assumption) _).mono ?_; rintro e w5 ⟨x5, rfl, hb5⟩) | (have hBY := Bw.down (w0 := w1) hb5 (by repeat (first | exact G.refl _ | refine G.alloc ?_ _ | refine G.drew ?_)); refine (if_pos rfl).mpr ?_; refine wp_append_own _ _ _ 33 rfl w1.heap.size 5 i0 (.int .u8 0) 1 1 Tryz.underlying33 hi hz0 hz1 hz2 rfl (by decide) _ _ _ rfl (hBY.keep (by repeat (first | exact G.refl _ | refine G.alloc ?_ _ | refine G.drew ?_))).own _ 1 1 [bv 1] rfl rfl (one_cell (by first | (simp; done) | exact (G.cell hb5.g (by simp)).trans (by simp))) (fun u hu => by simp at hu; subst hu; rfl) (by unfold maxLen; omega) (by omega) (hBY.keep (by repeat (first | exact G.refl _ | refine G.alloc ?_ _ | refine G.drew ?_))).g.size ?_; intro x6 w6 hown6 hgrow6 _; have hB6 := (hBY.keep (by repeat (first | exact G.refl _ | refine G.alloc ?_ _ | refine G.drew ?_))).app [1] 1 rfl hown6 hgrow6; clear hown6 hgrow6 hBY) | (go_at_call 30; refine (HJ.out _ _ (encW a ++ [1]) (encW b) _ (RowB.G hB6.row (G.trans (by repeat (first | exact G.refl _ | refine G.alloc ?_ _ | refine G.drew ?_)) hb5.g)) hb5.row (by simp; omega) (by omega)).mono ?_; rintro e w7 ⟨x7, rfl, hb7⟩; have hB7 := Bw.down (w0 := w1) hb7 (hB6.g.trans (G.trans (by repeat (first | exact G.refl _ | refine G.alloc ?_ _ | refine G.drew ?_)) hb5.g))) | fail)
  all_goals
    have HB7 : Hid _ := hB7
    clear hB7 hb7 hb5 hB6
    go_wp2
    go_ret2
    exact ⟨_, rfl, HB7.out.down HG.out⟩
theorem ren_yes (k a b : Int) (s : ByteArray) (hs : s.size ≤ 4611686018427387904) (h : okV k a b s = true) (ha : R64 a) (w : World) : Calls Tryz.prog 12 #[V k a b s] w fun e w' => ∃ x', e = .returned (.tuple #[x', .int .i64 0]) ∧ Bw w w' x' (encV k a b s) := by
  have hk := okV_kind k a b s h
  have : k = 0 ∨ k = 1 ∨ k = 2 ∨ k = 3 ∨ k = 4 ∨ k = 5 ∨ k = 6 := by omega
  rcases this with rfl | rfl | rfl | rfl | rfl | rfl | rfl
  · exact ren_0 a b s hs h w
  · have ha' : a = 0 ∨ a = 1 := by simp [okV, Bool.and_eq_true] at h; exact h.1.1
    rcases ha' with rfl | rfl
    · exact ren_1_0 b s hs h w
    · exact ren_1_1 b s hs h w
  · exact ren_2 a b s ha.1 ha.2 hs h w
  · have hpp : partB a = true ∧ partB b = true := by simp [okV, Bool.and_eq_true] at h; exact h.1
    have pa := (partB_iff a).1 hpp.1; have pb := (partB_iff b).1 hpp.2
    exact ren_3 a b s pa.1 pa.2 pb.1 pb.2 hs h w
  · exact ren_4 a b s hs h w
  · exact ren_5 a b s ha.1 ha.2 hs h w
  · exact ren_6 a b s ha.1 ha.2 hs h w
end Go.Proofs.YtficmpaeochcgaaGreatDoor
