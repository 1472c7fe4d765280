/- value.Print. -/
import Derived.Test.YthmdjhfbhbheeaaGreatDoorBk4
import Derived.Test.YthmdjhfbhbheeaaGreatDoorOkK
namespace Go.Proofs.YthmdjhfbhbheeaaGreatDoor
open Go.RowKit Go.Lib Go.Shelf

theorem ilit_any (k a b : Int) (s : ByteArray) (h : okV k a b s = true) (ha : R64 a) : ILit (itemV k a b s) (litV k a b s) := by
  have hk := okV_kind k a b s h
  have : k = 0 ∨ k = 1 ∨ k = 2 ∨ k = 3 ∨ k = 4 ∨ k = 5 ∨ k = 6 := by omega
  rcases this with rfl | rfl | rfl | rfl | rfl | rfl | rfl
  · rw [itV_0 h]; exact lit_null
  · rw [itV_1 h]
    obtain ⟨hx, rfl, rfl⟩ := ok_1 h
    rcases hx with rfl | rfl
    · exact lit_truth false
    · exact lit_truth true
  · rw [itV_2 h]; exact lit_whole a ha
  · rw [itV_3 h]
    obtain ⟨h1, h2, rfl⟩ := ok_3 h
    exact lit_cpx (fl a) (fl b) a b (Fl.ofInt a (by omega)) (Fl.ofInt b (by omega)) (by omega) (by omega)
  · rw [itV_4 h]
    obtain ⟨rfl, rfl, h1, h2⟩ := ok_4 h
    exact lit_str s h2 h1
  · rw [itV_5 h]; exact lit_node a ha
  · rw [itV_6 h]; exact lit_edge a ha
set_option maxRecDepth 100000 in
set_option maxHeartbeats 2000000 in
theorem print_yes (k a b : Int) (s : ByteArray) (h : okV k a b s = true) (ha : R64 a) (w : World) (hE : Env w) : Calls Tryz.prog 55 #[V k a b s] w fun e w' => e = .returned (.string (strU (litV k a b s))) ∧ G w w' := by
  have HI : Hid (∀ w, Tabs w → Calls Tryz.prog 25 #[V k a b s] w fun e w' => e = .returned (.tuple #[itemV k a b s, .bool (okV k a b s)]) ∧ G w w') := itemOf_any k a b s
  rw [h] at HI
  have HL : Hid _ := ilit_any k a b s h ha
  have HE : Hid _ := hE
  clear hE h ha
  generalize itemV k a b s = x at HI HL
  generalize litV k a b s = l at HL
  obtain ⟨t, f, u, rfl, hm, hc, hl⟩ := HL.out
  have HF : Hid _ := hl
  clear hl HL
  go_enter Tryz.func55, Tryz.ntmps55
  go_wp2_with fail
  refine (HI.out _ (Tabs.G HE.out.t ((G.refl w).alloc _))).mono ?_
  rintro e w1 ⟨rfl, hb⟩
  have HG1 : Hid (G w w1) := G.trans ((G.refl w).alloc _) hb
  clear hb
  go_wp2_with fail
  refine (HF.out w1 (HE.out.G HG1.out)).mono ?_
  rintro e w2 ⟨rfl, hb⟩
  have HG2 : Hid (G w w2) := HG1.out.trans hb
  clear hb
  go_wp2
  go_ret
  exact ⟨rfl, HG2.out⟩
set_option maxRecDepth 100000 in
set_option maxHeartbeats 2000000 in
theorem print_no (k a b : Int) (s : ByteArray) (h : okV k a b s = false) (w : World) (hE : Env w) : Calls Tryz.prog 55 #[V k a b s] w fun e w' => e = .returned (.string (strU [])) ∧ G w w' := by
  have HI : Hid (∀ w, Tabs w → Calls Tryz.prog 25 #[V k a b s] w fun e w' => e = .returned (.tuple #[itemV k a b s, .bool (okV k a b s)]) ∧ G w w') := itemOf_any k a b s
  rw [h] at HI
  have HE : Hid _ := hE
  clear hE h
  generalize itemV k a b s = x at HI
  go_enter Tryz.func55, Tryz.ntmps55
  go_wp2_with fail
  refine (HI.out _ (Tabs.G HE.out.t ((G.refl w).alloc _))).mono ?_
  rintro e w1 ⟨rfl, hb⟩
  have HG1 : Hid (G w w1) := G.trans ((G.refl w).alloc _) hb
  clear hb
  go_wp2
  go_ret
  exact ⟨rfl, HG1.out⟩
end Go.Proofs.YthmdjhfbhbheeaaGreatDoor
