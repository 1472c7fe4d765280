/- The reader: what a part gives. -/
import Derived.Test.YthpflfkgbapbnaaGreatDoorRd10
namespace Go.Proofs.YthpflfkgbapbnaaGreatDoor
open Go.RowKit

theorem Ry.set {rb n : Nat} {vs : List Value} {W : World} (h : Ry rb vs n W) (o : Nat) (v : Value) (ho : o < vs.length) : Ry rb (vs.set o v) n (W.setCell ⟨n, o, none⟩ v) := by
  refine ⟨fun p => ?_, fun p => by rw [World.frozen?_setCell]; exact h.f p, by simp [World.setCell]; exact h.z, h.n⟩
  by_cases hp : o = p
  · subst hp
    rw [World.cell?_setCell_same' W _ _ (by rw [h.c]; simp [ho])]
    simp [ho]
  · rw [World.cell?_setCell_other W ⟨n, o, none⟩ ⟨n, p, none⟩ v (fun e => hp (by injection e)), h.c, List.getElem?_set_ne hp]
theorem Ry.far {rb n : Nat} {vs : List Value} {W : World} (h : Ry rb vs n W) {b : Nat} (o : Nat) (v : Value) (hb : b ≠ n) : Ry rb vs n (W.setCell ⟨b, o, none⟩ v) :=
  ⟨fun p => (World.cell?_of_block (set_other W b o n v hb)).trans (h.c p), fun p => by rw [World.frozen?_setCell]; exact h.f p, by simp [World.setCell]; exact h.z, h.n⟩
set_option maxRecDepth 100000 in
set_option maxHeartbeats 1000000 in
theorem given_ok {rb g : Nat} {ts : List Tok} {i j : Nat} {W : World} (h : Rd rb g ts i W) {w0 : World} (g0 : G w0 W) (hr : w0.heap.size ≤ rb) {y : Tok} (hy : ts[i]? = some y) (hyk : y.k = 3) (HL : ∀ W, Rd rb g ts i W → G w0 W → Calls Tryz.prog 81 #[ptr rb, .slice none 0 0, .int .i64 12, .func (.func 82) #[] #[], .func (.func 46) #[] #[]] W fun e W' => (∃ gb cap, e = .returned (.slice (some ⟨gb, 0, none⟩) 1 cap)) ∧ Rd rb g ts j W' ∧ Qr rb W W') {x1 x2 x3 x4 : Tok} (h1 : ts[j]? = some x1) (h1o : seB x1 ⟨#[111, 114, 100, 101, 114]⟩ = false) (h1s : seB x1 ⟨#[115, 107, 105, 112]⟩ = true) (h2 : ts[j + 1]? = some x2) (n2 : NumT x2) (m2 : decN x2.t.data.toList ≤ 9223372036854775807) (h3 : ts[j + 2]? = some x3) (h3s : seB x3 ⟨#[108, 105, 109, 105, 116]⟩ = true) (h4 : ts[j + 3]? = some x4) (n4 : NumT x4) (m4 : decN x4.t.data.toList ≤ 9223372036854775807) (hl : j + 4 < ts.length) : Calls Tryz.prog 45 #[ptr rb, .agg #[.slice none 0 0, .slice none 0 0, .bool false, .bool false, .slice none 0 0, .slice none 0 0, I (-1), I (-1), .slice none 0 0], .func (.func 46) #[] #[]] W fun e W' => (∃ gb cap, e = .returned (.agg #[.slice none 0 0, .slice none 0 0, .bool true, .bool false, .slice (some ⟨gb, 0, none⟩) 1 cap, .slice none 0 0, I (decN x2.t.data.toList : Nat), I (decN x4.t.data.toList : Nat), .slice none 0 0])) ∧ Rd rb g ts (j + 4) W' ∧ Qr rb W W' := by
  have HX0 : Hid (Ry rb [.slice none 0 0, .slice none 0 0, .bool true, .bool false, .slice none 0 0, .slice none 0 0, I (-1), I (-1), .slice none 0 0] W.heap.size ((W.alloc (.cells #[.slice none 0 0, .slice none 0 0, .bool true, .bool false, .slice none 0 0, .slice none 0 0, I (-1), I (-1), .slice none 0 0] 42)).alloc (.cells #[.slice none 0 0, .slice none 0 0, .bool false, .bool false, .slice none 0 0, .slice none 0 0, I 0, I 0, .slice none 0 0] 42))) := (Ry.new h.Q0.1 [.slice none 0 0, .slice none 0 0, .bool true, .bool false, .slice none 0 0, .slice none 0 0, I (-1), I (-1), .slice none 0 0] 42).G ((G.refl _).alloc _)
  have HZ0 : Hid (Ry rb [.slice none 0 0, .slice none 0 0, .bool false, .bool false, .slice none 0 0, .slice none 0 0, I 0, I 0, .slice none 0 0] (W.heap.size + 1) ((W.alloc (.cells #[.slice none 0 0, .slice none 0 0, .bool true, .bool false, .slice none 0 0, .slice none 0 0, I (-1), I (-1), .slice none 0 0] 42)).alloc (.cells #[.slice none 0 0, .slice none 0 0, .bool false, .bool false, .slice none 0 0, .slice none 0 0, I 0, I 0, .slice none 0 0] 42))) := by
    have := Ry.new (w := W.alloc (.cells #[.slice none 0 0, .slice none 0 0, .bool true, .bool false, .slice none 0 0, .slice none 0 0, I (-1), I (-1), .slice none 0 0] 42)) (rb := rb) (by have := h.Q0.1; simp; omega) [.slice none 0 0, .slice none 0 0, .bool false, .bool false, .slice none 0 0, .slice none 0 0, I 0, I 0, .slice none 0 0] 42
    rwa [World.size_alloc] at this
  have HGN := xh h.Q0.2
  have HGZ : Hid (W.heap.size + 1 ≠ g) := by have := h.gl; unfold Hid; omega
  have HNB : Hid (W.heap.size ≤ W.heap.size) := Nat.le_refl _
  have hga : G W ((W.alloc (.cells #[.slice none 0 0, .slice none 0 0, .bool true, .bool false, .slice none 0 0, .slice none 0 0, I (-1), I (-1), .slice none 0 0] 42)).alloc (.cells #[.slice none 0 0, .slice none 0 0, .bool false, .bool false, .slice none 0 0, .slice none 0 0, I 0, I 0, .slice none 0 0] 42)) := ((G.refl W).alloc _).alloc _
  have HR0 := xh (h.G hga)
  have HQ0 : Hid (Qr rb W ((W.alloc (.cells #[.slice none 0 0, .slice none 0 0, .bool true, .bool false, .slice none 0 0, .slice none 0 0, I (-1), I (-1), .slice none 0 0] 42)).alloc (.cells #[.slice none 0 0, .slice none 0 0, .bool false, .bool false, .slice none 0 0, .slice none 0 0, I 0, I 0, .slice none 0 0] 42))) := Qr.of hga
  have HG0 := xh g0
  have HRR := xh hr
  have HLL := xh HL
  have HYY := xh hy
  have HYK := xh (seB_num (x := y) (by omega) ⟨#[100, 105, 115, 116, 105, 110, 99, 116]⟩)
  have H1 := xh h1
  have H1O := xh h1o
  have H1S := xh h1s
  have H3 := xh h3
  have H3S := xh h3s
  have HN2 := xh (fun W h => @num_yes rb g ts (j + 1) W h x2 h2 n2 m2 (by omega))
  have HN4 := xh (fun W h => @num_yes rb g ts (j + 3) W h x4 h4 n4 m4 (by omega))
  generalize decN x2.t.data.toList = N2 at HN2 ⊢
  generalize decN x4.t.data.toList = N4 at HN4 ⊢
  clear h g0 hr HL hy hyk h1 h1o h1s h2 n2 m2 h3 h3s h4 n4 m4 HNB hga
  go_enter Tryz.func45, Tryz.ntmps45
  go_wp2_with (first | (go_at_call 44; refine Hid.out ?_) | fail)
  unfold Hid
  obtain ⟨nb, hnb⟩ : ∃ nb, nb = W.heap.size := ⟨_, rfl⟩
  rw [← hnb] at HX0 HZ0 HGN HGZ ⊢
  have HNB : Hid (W.heap.size ≤ nb) := by unfold Hid; omega
  clear hnb
  generalize (W.alloc (.cells #[.slice none 0 0, .slice none 0 0, .bool true, .bool false, .slice none 0 0, .slice none 0 0, I (-1), I (-1), .slice none 0 0] 42)).alloc (.cells #[.slice none 0 0, .slice none 0 0, .bool false, .bool false, .slice none 0 0, .slice none 0 0, I 0, I 0, .slice none 0 0] 42) = wa at HX0 HZ0 HR0 HQ0 ⊢
  refine (took_no HR0.out HYY.out ⟨#[100, 105, 115, 116, 105, 110, 99, 116]⟩ HYK.out).mono ?_
  rintro e w1 ⟨rfl, hg⟩
  have HR1 := xh (HR0.out.G hg)
  have HX1 := xh (HX0.out.G hg)
  have HZ1 := xh (HZ0.out.G hg)
  have HQ1 := xh (HQ0.out.trans (Qr.of hg))
  clear hg HR0 HX0 HZ0 HQ0
  have hcr := HX1.out.c
  have hfr := HX1.out.f
  go_wp2_with (first | (go_at_call 81; refine Hid.out ?_) | fail)
  unfold Hid
  clear hcr hfr
  have HX2 : Hid (Ry rb [.slice none 0 0, .slice none 0 0, .bool true, .bool false, .slice none 0 0, .slice none 0 0, I (-1), I (-1), .slice none 0 0] nb (w1.setCell ⟨nb, 3, none⟩ (.bool false))) := HX1.out.set 3 _ (by simp)
  have HZ2 : Hid (Ry rb [.slice none 0 0, .slice none 0 0, .bool false, .bool false, .slice none 0 0, .slice none 0 0, I 0, I 0, .slice none 0 0] (nb + 1) (w1.setCell ⟨nb, 3, none⟩ (.bool false))) := HZ1.out.far 3 _ (by omega)
  have HR2 := xh (HR1.out.set 3 (.bool false) HX1.out.n HGN.out)
  have HQ2 : Hid (Qr rb W (w1.setCell ⟨nb, 3, none⟩ (.bool false))) := HQ1.out.set 3 _ HNB.out
  clear HX1 HZ1 HR1 HQ1
  generalize w1.setCell ⟨nb, 3, none⟩ (.bool false) = w2 at HX2 HZ2 HR2 HQ2 ⊢
  refine (HLL.out _ HR2.out (HQ2.out.G HG0.out HRR.out)).mono ?_
  rintro e w3 ⟨⟨gb, cap, rfl⟩, hrd, hq⟩
  have HR3 := xh hrd
  have HX3 := xh (HX2.out.Q hq)
  have HZ3 := xh (HZ2.out.Q hq)
  have HQ3 := xh (HQ2.out.trans hq)
  clear hrd hq HR2 HX2 HZ2 HQ2
  have hcr := HX3.out.c
  have hfr := HX3.out.f
  go_wp2_with (first | (go_at_call 44; refine Hid.out ?_) | fail)
  unfold Hid
  clear hcr hfr
  have HX4 : Hid (Ry rb [.slice none 0 0, .slice none 0 0, .bool true, .bool false, .slice (some ⟨gb, 0, none⟩) 1 cap, .slice none 0 0, I (-1), I (-1), .slice none 0 0] nb (w3.setCell ⟨nb, 4, none⟩ (.slice (some ⟨gb, 0, none⟩) 1 cap))) := HX3.out.set 4 _ (by simp)
  have HZ4 : Hid (Ry rb [.slice none 0 0, .slice none 0 0, .bool false, .bool false, .slice none 0 0, .slice none 0 0, I 0, I 0, .slice none 0 0] (nb + 1) (w3.setCell ⟨nb, 4, none⟩ (.slice (some ⟨gb, 0, none⟩) 1 cap))) := HZ3.out.far 4 _ (by omega)
  have HR4 := xh (HR3.out.set 4 (.slice (some ⟨gb, 0, none⟩) 1 cap) HX3.out.n HGN.out)
  have HQ4 : Hid (Qr rb W (w3.setCell ⟨nb, 4, none⟩ (.slice (some ⟨gb, 0, none⟩) 1 cap))) := HQ3.out.set 4 _ HNB.out
  clear HX3 HZ3 HR3 HQ3
  generalize w3.setCell ⟨nb, 4, none⟩ (.slice (some ⟨gb, 0, none⟩) 1 cap) = w4 at HX4 HZ4 HR4 HQ4 ⊢
  refine (took_no HR4.out H1.out ⟨#[111, 114, 100, 101, 114]⟩ H1O.out).mono ?_
  rintro e w5 ⟨rfl, hg⟩
  have HR5 := xh (HR4.out.G hg)
  have HX5 := xh (HX4.out.G hg)
  have HZ5 := xh (HZ4.out.G hg)
  have HQ5 := xh (HQ4.out.trans (Qr.of hg))
  clear hg HR4 HX4 HZ4 HQ4
  have hcr := HX5.out.c
  have hfr := HX5.out.f
  go_wp2_with (first | (go_at_call 44; refine Hid.out ?_) | fail)
  unfold Hid
  clear hcr hfr
  refine (took_yes HR5.out H1.out ⟨#[115, 107, 105, 112]⟩ H1S.out (by omega)).mono ?_
  rintro e w6 ⟨rfl, hrd, hq⟩
  have HR6 := xh hrd
  have HX6 := xh (HX5.out.Q hq)
  have HZ6 := xh (HZ5.out.Q hq)
  have HQ6 := xh (HQ5.out.trans hq)
  clear hrd hq HR5 HX5 HZ5 HQ5
  have hcr := HX6.out.c
  have hfr := HX6.out.f
  go_wp2_with (first | (go_at_call 86; refine Hid.out ?_) | fail)
  unfold Hid
  clear hcr hfr
  refine (HN2.out _ HR6.out).mono ?_
  rintro e w7 ⟨rfl, hrd, hq⟩
  have HR7 := xh hrd
  have HX7 := xh (HX6.out.Q hq)
  have HZ7 := xh (HZ6.out.Q hq)
  have HQ7 := xh (HQ6.out.trans hq)
  clear hrd hq HR6 HX6 HZ6 HQ6
  have hcr := HX7.out.c
  have hfr := HX7.out.f
  go_wp2_with (first | (go_at_call 44; refine Hid.out ?_) | fail)
  unfold Hid
  clear hcr hfr
  have HX8 : Hid (Ry rb [.slice none 0 0, .slice none 0 0, .bool true, .bool false, .slice (some ⟨gb, 0, none⟩) 1 cap, .slice none 0 0, I (N2 : Nat), I (-1), .slice none 0 0] nb (w7.setCell ⟨nb, 6, none⟩ (I (N2 : Nat)))) := HX7.out.set 6 _ (by simp)
  have HZ8 : Hid (Ry rb [.slice none 0 0, .slice none 0 0, .bool false, .bool false, .slice none 0 0, .slice none 0 0, I 0, I 0, .slice none 0 0] (nb + 1) (w7.setCell ⟨nb, 6, none⟩ (I (N2 : Nat)))) := HZ7.out.far 6 _ (by omega)
  have HR8 := xh (HR7.out.set 6 (I (N2 : Nat)) HX7.out.n HGN.out)
  have HQ8 : Hid (Qr rb W (w7.setCell ⟨nb, 6, none⟩ (I (N2 : Nat)))) := HQ7.out.set 6 _ HNB.out
  clear HX7 HZ7 HR7 HQ7
  generalize w7.setCell ⟨nb, 6, none⟩ (I (N2 : Nat)) = w8 at HX8 HZ8 HR8 HQ8 ⊢
  refine (took_yes HR8.out H3.out ⟨#[108, 105, 109, 105, 116]⟩ H3S.out (by omega)).mono ?_
  rintro e w9 ⟨rfl, hrd, hq⟩
  have HR9 := xh hrd
  have HX9 := xh (HX8.out.Q hq)
  have HZ9 := xh (HZ8.out.Q hq)
  have HQ9 := xh (HQ8.out.trans hq)
  clear hrd hq HR8 HX8 HZ8 HQ8
  have hcr := HX9.out.c
  have hfr := HX9.out.f
  go_wp2_with (first | (go_at_call 86; refine Hid.out ?_) | fail)
  unfold Hid
  clear hcr hfr
  refine (HN4.out _ HR9.out).mono ?_
  rintro e w10 ⟨rfl, hrd, hq⟩
  have HR10 := xh hrd
  have HX10 := xh (HX9.out.Q hq)
  have HZ10 := xh (HZ9.out.Q hq)
  have HQ10 := xh (HQ9.out.trans hq)
  clear hrd hq HR9 HX9 HZ9 HQ9
  have hcr := HX10.out.c
  have hfr := HX10.out.f
  have hcz := HZ10.out.c
  have hfz := HZ10.out.f
  have hzn : ¬ nb + 1 = nb := by omega
  have hzn2 : ¬ nb = nb + 1 := by omega
  go_wp2
  refine bodyPost_ret (v := .agg #[.slice none 0 0, .slice none 0 0, .bool true, .bool false, .slice (some ⟨gb, 0, none⟩) 1 cap, .slice none 0 0, I (N2 : Nat), I (N4 : Nat), .slice none 0 0]) (by simp [results, Tryz.results45, go_sem, hcz]) rfl ⟨⟨gb, cap, rfl⟩, (HR10.out.set 7 _ HX10.out.n HGN.out).ni HZ10.out.n HGZ.out _ _ _ _ _ _ _ _ _, (HQ10.out.set 7 _ HNB.out).ni (Nat.le_succ_of_le HNB.out) _ _ _ _ _ _ _ _ _⟩
set_option maxRecDepth 100000 in
set_option maxHeartbeats 1000000 in
theorem given_no {rb g : Nat} {ts : List Tok} {i j : Nat} {W : World} (h : Rd rb g ts i W) {w0 : World} (g0 : G w0 W) (hr : w0.heap.size ≤ rb) {y : Tok} (hy : ts[i]? = some y) (hyk : y.k = 3) (HL : ∀ W, Rd rb g ts i W → G w0 W → Calls Tryz.prog 81 #[ptr rb, .slice none 0 0, .int .i64 12, .func (.func 82) #[] #[], .func (.func 46) #[] #[]] W fun e W' => (∃ gb cap, e = .returned (.slice (some ⟨gb, 0, none⟩) 1 cap)) ∧ Rd rb g ts j W' ∧ Qr rb W W') {x1 x2 : Tok} (h1 : ts[j]? = some x1) (h1o : seB x1 ⟨#[111, 114, 100, 101, 114]⟩ = false) (h1s : seB x1 ⟨#[115, 107, 105, 112]⟩ = true) (h2 : ts[j + 1]? = some x2) (k2 : ¬ x2.k = 3) (s2 : x2.t.size ≤ 4096) (hE : Env w0) (hl : j + 1 < ts.length) : Calls Tryz.prog 45 #[ptr rb, .agg #[.slice none 0 0, .slice none 0 0, .bool false, .bool false, .slice none 0 0, .slice none 0 0, I (-1), I (-1), .slice none 0 0], .func (.func 46) #[] #[]] W fun e W' => (∃ pp, e = .panicked [{ v := .iface 55 (.agg #[I 101, I pp]), recovered := false }]) ∧ Qr rb W W' := by
  have HX0 : Hid (Ry rb [.slice none 0 0, .slice none 0 0, .bool true, .bool false, .slice none 0 0, .slice none 0 0, I (-1), I (-1), .slice none 0 0] W.heap.size ((W.alloc (.cells #[.slice none 0 0, .slice none 0 0, .bool true, .bool false, .slice none 0 0, .slice none 0 0, I (-1), I (-1), .slice none 0 0] 42)).alloc (.cells #[.slice none 0 0, .slice none 0 0, .bool false, .bool false, .slice none 0 0, .slice none 0 0, I 0, I 0, .slice none 0 0] 42))) := (Ry.new h.Q0.1 [.slice none 0 0, .slice none 0 0, .bool true, .bool false, .slice none 0 0, .slice none 0 0, I (-1), I (-1), .slice none 0 0] 42).G ((G.refl _).alloc _)
  have HZ0 : Hid (Ry rb [.slice none 0 0, .slice none 0 0, .bool false, .bool false, .slice none 0 0, .slice none 0 0, I 0, I 0, .slice none 0 0] (W.heap.size + 1) ((W.alloc (.cells #[.slice none 0 0, .slice none 0 0, .bool true, .bool false, .slice none 0 0, .slice none 0 0, I (-1), I (-1), .slice none 0 0] 42)).alloc (.cells #[.slice none 0 0, .slice none 0 0, .bool false, .bool false, .slice none 0 0, .slice none 0 0, I 0, I 0, .slice none 0 0] 42))) := by
    have := Ry.new (w := W.alloc (.cells #[.slice none 0 0, .slice none 0 0, .bool true, .bool false, .slice none 0 0, .slice none 0 0, I (-1), I (-1), .slice none 0 0] 42)) (rb := rb) (by have := h.Q0.1; simp; omega) [.slice none 0 0, .slice none 0 0, .bool false, .bool false, .slice none 0 0, .slice none 0 0, I 0, I 0, .slice none 0 0] 42
    rwa [World.size_alloc] at this
  have HGN := xh h.Q0.2
  have HGZ : Hid (W.heap.size + 1 ≠ g) := by have := h.gl; unfold Hid; omega
  have HNB : Hid (W.heap.size ≤ W.heap.size) := Nat.le_refl _
  have hga : G W ((W.alloc (.cells #[.slice none 0 0, .slice none 0 0, .bool true, .bool false, .slice none 0 0, .slice none 0 0, I (-1), I (-1), .slice none 0 0] 42)).alloc (.cells #[.slice none 0 0, .slice none 0 0, .bool false, .bool false, .slice none 0 0, .slice none 0 0, I 0, I 0, .slice none 0 0] 42)) := ((G.refl W).alloc _).alloc _
  have HR0 := xh (h.G hga)
  have HQ0 : Hid (Qr rb W ((W.alloc (.cells #[.slice none 0 0, .slice none 0 0, .bool true, .bool false, .slice none 0 0, .slice none 0 0, I (-1), I (-1), .slice none 0 0] 42)).alloc (.cells #[.slice none 0 0, .slice none 0 0, .bool false, .bool false, .slice none 0 0, .slice none 0 0, I 0, I 0, .slice none 0 0] 42))) := Qr.of hga
  have HG0 := xh g0
  have HRR := xh hr
  have HLL := xh HL
  have HYY := xh hy
  have HYK := xh (seB_num (x := y) (by omega) ⟨#[100, 105, 115, 116, 105, 110, 99, 116]⟩)
  have H1 := xh h1
  have H1O := xh h1o
  have H1S := xh h1s
  have HN2 := xh (fun W h => @num_no rb g ts (j + 1) W h x2 h2 k2 s2)
  have HEE := xh hE
  clear h g0 hr HL hy hyk h1 h1o h1s h2 k2 s2 HNB hga hE
  go_enter Tryz.func45, Tryz.ntmps45
  go_wp2_with (first | (go_at_call 44; refine Hid.out ?_) | fail)
  unfold Hid
  obtain ⟨nb, hnb⟩ : ∃ nb, nb = W.heap.size := ⟨_, rfl⟩
  rw [← hnb] at HX0 HZ0 HGN HGZ ⊢
  have HNB : Hid (W.heap.size ≤ nb) := by unfold Hid; omega
  clear hnb
  generalize (W.alloc (.cells #[.slice none 0 0, .slice none 0 0, .bool true, .bool false, .slice none 0 0, .slice none 0 0, I (-1), I (-1), .slice none 0 0] 42)).alloc (.cells #[.slice none 0 0, .slice none 0 0, .bool false, .bool false, .slice none 0 0, .slice none 0 0, I 0, I 0, .slice none 0 0] 42) = wa at HX0 HZ0 HR0 HQ0 ⊢
  refine (took_no HR0.out HYY.out ⟨#[100, 105, 115, 116, 105, 110, 99, 116]⟩ HYK.out).mono ?_
  rintro e w1 ⟨rfl, hg⟩
  have HR1 := xh (HR0.out.G hg)
  have HX1 := xh (HX0.out.G hg)
  have HZ1 := xh (HZ0.out.G hg)
  have HQ1 := xh (HQ0.out.trans (Qr.of hg))
  clear hg HR0 HX0 HZ0 HQ0
  have hcr := HX1.out.c
  have hfr := HX1.out.f
  go_wp2_with (first | (go_at_call 81; refine Hid.out ?_) | fail)
  unfold Hid
  clear hcr hfr
  have HX2 : Hid (Ry rb [.slice none 0 0, .slice none 0 0, .bool true, .bool false, .slice none 0 0, .slice none 0 0, I (-1), I (-1), .slice none 0 0] nb (w1.setCell ⟨nb, 3, none⟩ (.bool false))) := HX1.out.set 3 _ (by simp)
  have HZ2 : Hid (Ry rb [.slice none 0 0, .slice none 0 0, .bool false, .bool false, .slice none 0 0, .slice none 0 0, I 0, I 0, .slice none 0 0] (nb + 1) (w1.setCell ⟨nb, 3, none⟩ (.bool false))) := HZ1.out.far 3 _ (by omega)
  have HR2 := xh (HR1.out.set 3 (.bool false) HX1.out.n HGN.out)
  have HQ2 : Hid (Qr rb W (w1.setCell ⟨nb, 3, none⟩ (.bool false))) := HQ1.out.set 3 _ HNB.out
  clear HX1 HZ1 HR1 HQ1
  generalize w1.setCell ⟨nb, 3, none⟩ (.bool false) = w2 at HX2 HZ2 HR2 HQ2 ⊢
  refine (HLL.out _ HR2.out (HQ2.out.G HG0.out HRR.out)).mono ?_
  rintro e w3 ⟨⟨gb, cap, rfl⟩, hrd, hq⟩
  have HR3 := xh hrd
  have HX3 := xh (HX2.out.Q hq)
  have HZ3 := xh (HZ2.out.Q hq)
  have HQ3 := xh (HQ2.out.trans hq)
  clear hrd hq HR2 HX2 HZ2 HQ2
  have hcr := HX3.out.c
  have hfr := HX3.out.f
  go_wp2_with (first | (go_at_call 44; refine Hid.out ?_) | fail)
  unfold Hid
  clear hcr hfr
  have HX4 : Hid (Ry rb [.slice none 0 0, .slice none 0 0, .bool true, .bool false, .slice (some ⟨gb, 0, none⟩) 1 cap, .slice none 0 0, I (-1), I (-1), .slice none 0 0] nb (w3.setCell ⟨nb, 4, none⟩ (.slice (some ⟨gb, 0, none⟩) 1 cap))) := HX3.out.set 4 _ (by simp)
  have HZ4 : Hid (Ry rb [.slice none 0 0, .slice none 0 0, .bool false, .bool false, .slice none 0 0, .slice none 0 0, I 0, I 0, .slice none 0 0] (nb + 1) (w3.setCell ⟨nb, 4, none⟩ (.slice (some ⟨gb, 0, none⟩) 1 cap))) := HZ3.out.far 4 _ (by omega)
  have HR4 := xh (HR3.out.set 4 (.slice (some ⟨gb, 0, none⟩) 1 cap) HX3.out.n HGN.out)
  have HQ4 : Hid (Qr rb W (w3.setCell ⟨nb, 4, none⟩ (.slice (some ⟨gb, 0, none⟩) 1 cap))) := HQ3.out.set 4 _ HNB.out
  clear HX3 HZ3 HR3 HQ3
  generalize w3.setCell ⟨nb, 4, none⟩ (.slice (some ⟨gb, 0, none⟩) 1 cap) = w4 at HX4 HZ4 HR4 HQ4 ⊢
  refine (took_no HR4.out H1.out ⟨#[111, 114, 100, 101, 114]⟩ H1O.out).mono ?_
  rintro e w5 ⟨rfl, hg⟩
  have HR5 := xh (HR4.out.G hg)
  have HX5 := xh (HX4.out.G hg)
  have HZ5 := xh (HZ4.out.G hg)
  have HQ5 := xh (HQ4.out.trans (Qr.of hg))
  clear hg HR4 HX4 HZ4 HQ4
  have hcr := HX5.out.c
  have hfr := HX5.out.f
  go_wp2_with (first | (go_at_call 44; refine Hid.out ?_) | fail)
  unfold Hid
  clear hcr hfr
  refine (took_yes HR5.out H1.out ⟨#[115, 107, 105, 112]⟩ H1S.out (by omega)).mono ?_
  rintro e w6 ⟨rfl, hrd, hq⟩
  have HR6 := xh hrd
  have HX6 := xh (HX5.out.Q hq)
  have HZ6 := xh (HZ5.out.Q hq)
  have HQ6 := xh (HQ5.out.trans hq)
  clear hrd hq HR5 HX5 HZ5 HQ5
  have hcr := HX6.out.c
  have hfr := HX6.out.f
  go_wp2_with (first | (go_at_call 86; refine Hid.out ?_) | fail)
  unfold Hid
  clear hcr hfr
  refine (HN2.out _ HR6.out (HEE.out.G (HQ6.out.G HG0.out HRR.out))).mono ?_
  rintro e wz ⟨rfl, hq⟩
  have HQZ := xh (HQ6.out.trans hq)
  clear hq
  go_wp2
  exact ⟨rfl, ⟨_, rfl⟩, HQZ.out⟩
end Go.Proofs.YthpflfkgbapbnaaGreatDoor
