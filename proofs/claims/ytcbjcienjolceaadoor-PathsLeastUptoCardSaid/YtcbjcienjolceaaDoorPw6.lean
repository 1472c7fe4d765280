/- Paths: pathsIsWay. -/
import Derived.Test.YtcbjcienjolceaaDoorPw4
import Derived.Test.YtcbjcienjolceaaDoorPw5
namespace Go.Proofs.YtcbjcienjolceaaDoor
open Go.RowKit

theorem wsum (a b : Int) (h0 : 0 ≤ b ∧ b ≤ 4611686018427387904) : wrap64 (a + (b - a)) = b := by
  rw [show a + (b - a) = b by omega]
  unfold wrap64
  omega
theorem wnat (i q : Nat) (h : q = i + 1) (hb : i ≤ 17179869184) : wrap64 ((i : Int) + 1) = (q : Int) := by
  subst h
  unfold wrap64
  omega
theorem wnat2 (i q : Nat) (h : q = i + 1) (hb : i ≤ 17179869184) : IntKind.i64.wrap ((i : Int) + 1) = (q : Int) := by rw [IntKind.wrap_i64]; omega
theorem qlt (i q m : Nat) (h : q = i + 1) (hl : i < m) : (q : Int) < (m : Int) + 1 := by omega
theorem qle (i q m : Nat) (h : q = i + 1) (hl : i < m) : q ≤ m := by omega
theorem qms (i q m : Nat) (h : q = i + 1) (hl : i < m) : m - q < m - i := by omega
theorem nlt (i m : Nat) (h : ¬ i < m) : ¬ ((i : Int) < m) := by omega
theorem wlst (m : Nat) (hb : m ≤ 17179869184) : wrap64 ((m : Int) + 1 - 1) = (m : Int) := by unfold wrap64; omega
theorem wlst2 (m : Nat) (hb : m ≤ 17179869184) : wrap64 (((m + 1 : Nat) : Int) - 1) = (m : Int) := by unfold wrap64; omega
theorem wsuc (m : Nat) (hb : m ≤ 17179869184) : wrap64 ((m : Int) + 1) = (m : Int) + 1 := by unfold wrap64; omega
set_option maxRecDepth 100000 in
set_option maxHeartbeats 2000000 in
theorem isway_any (Wb W : World) (rv : Value) (rs : List Nr) (from_ to_ : Int) (E : List Fd) (x : Fd) (k : Way rs from_ E x) (hx : x.n = to_) (hE : E.length ≤ 17179869184) (hR : ∀ (y : Fd), y ∈ E → R64 y.n) (hS : ∀ (y : Fd), y ∈ E → 0 ≤ y.s ∧ y.s ≤ 4611686018427387904) (lo1 lo2 : Nat) (nv ev : Value) (ns es : List Int) (hns : ns = E.map (·.n)) (hes : es = (E.drop 1).map (·.e)) (hn : Rw lo1 2 1 W nv ns.length (ns.map I)) (he : Rw lo2 2 1 W ev es.length (es.map I)) (hN : Nrs Wb rv rs) (hG : G Wb W) (hrl : rs.length ≤ 1048576) (hal : ∀ id, (netOf rs false id).1.length ≤ 1048576) :
    Calls Tryd.prog 15 #[.agg #[rv, .bool false], .agg #[I x.s, nv, ev], I from_, I to_] W fun e W' => e = .returned (.bool true) ∧ G W W' := by
  obtain ⟨rva, rvc, hrv⟩ : ∃ a c, rv = .slice a rs.length c := by obtain ⟨a, c, e, _⟩ := hN; exact ⟨a, c, e⟩
  subst hrv
  have hlen := k.len
  have hnl : ns.length = E.length := by rw [hns, List.length_map]
  have hel : es.length + 1 = ns.length := by rw [hes, hns, List.length_map, List.length_map, List.length_drop]; omega
  obtain ⟨g, cap, hv1, -, hc1, -⟩ := hn.cell (by omega)
  have HNC : Hid (∀ V, G W V → ∀ o y, E[o]? = some y → V.cell? ⟨g, o, none⟩ = some (I y.n)) := fun V gV o y hy => by
    obtain ⟨g2, cap2, e2, -, hc2, -⟩ := (Rw.G hn gV).cell (by omega)
    have : g = g2 := by rw [hv1] at e2; simp at e2; exact e2.1
    subst this
    rw [hc2 o (by have := (List.getElem?_eq_some_iff.1 hy).1; omega), List.getElem?_map, hns, List.getElem?_map, hy]
    rfl
  have HEC : Hid (∀ V, G W V → ∀ o y, E[o + 1]? = some y → ∃ g2 cap2, ev = .slice (some ⟨g2, 0, none⟩) es.length cap2 ∧ V.cell? ⟨g2, o, none⟩ = some (I y.e)) := fun V gV o y hy => by
    have hol : o < es.length := by have := (List.getElem?_eq_some_iff.1 hy).1; omega
    obtain ⟨g2, cap2, e2, -, hc2, -⟩ := (Rw.G he gV).cell (by omega)
    refine ⟨g2, cap2, e2, ?_⟩
    rw [hc2 o (by omega), List.getElem?_map, hes, List.getElem?_map, List.getElem?_drop, show 1 + o = o + 1 by omega, hy]
    rfl
  obtain ⟨m, hm⟩ : ∃ m, m = es.length := ⟨_, rfl⟩
  have hEm : E.length = m + 1 := by omega
  obtain ⟨ea, ec, rfl⟩ := Rw.form he
  subst hv1
  have hnm : ns.length = m + 1 := by omega
  have g0 := k.first
  have gl := k.last
  rw [hEm, Nat.add_sub_cancel] at gl
  have HK := hide k
  have HEM := hide hEm
  rw [hnm, ← hm]
  rw [← hm] at HEC
  have gA : G W ((W.alloc (.cells #[.slice rva rs.length rvc, .bool false] 25)).alloc (.cells #[I x.s, .slice (some ⟨g, 0, none⟩) (m + 1) cap, .slice ea m ec] 40)) := ((G.refl W).alloc _).alloc _
  have hbw := Blk.new (W.alloc (.cells #[.slice rva rs.length rvc, .bool false] 25)) [I x.s, .slice (some ⟨g, 0, none⟩) (m + 1) cap, .slice ea m ec] 40
  have hbn := (Blk.new W [.slice rva rs.length rvc, .bool false] 25).G ((G.refl _).alloc (.cells #[I x.s, .slice (some ⟨g, 0, none⟩) (m + 1) cap, .slice ea m ec] 40))
  rw [World.size_alloc] at hbw
  have q0 := HNC.out _ gA 0 _ g0
  have q1 := HNC.out _ gA m x gl
  rw [hx] at q1
  simp only at q0
  have HGL := hide gl
  have HG0 := hide g0
  have HGA := hide gA
  have HBW := hide hbw
  have HBN := hide hbn
  have HGB := hide hG
  have HNR := hide hN
  have HAL := hide hal
  have HR := hide hR
  have HS := hide hS
  have hmb : m < 17179869184 := by omega
  have w1 : wrap64 ((m : Int) + 1) = (m : Int) + 1 := wsuc m (Nat.le_of_lt hmb)
  have w2 : wrap64 (((m + 1 : Nat) : Int) - 1) = (m : Int) := wlst2 m (Nat.le_of_lt hmb)
  have w3 : wrap64 ((m : Int) + 1 - 1) = (m : Int) := wlst m (Nat.le_of_lt hmb)
  have HMB := hide hmb
  have i1 : (m : Int) < (m : Int) + 1 := by omega
  have i2 : (0 : Int) < (m : Int) + 1 := by omega
  clear k hx hE hR hS hns hes hn he hN hG hal hlen hnl hel hc1 hm hEm hnm g0 gl gA hbw hbn
  go_enter Tryd.func15, Tryd.ntmps15
  go_wp2_with fail
  generalize (W.alloc (.cells #[.slice rva rs.length rvc, .bool false] 25)).alloc (.cells #[I x.s, .slice (some ⟨g, 0, none⟩) (m + 1) cap, .slice ea m ec] 40) = w0 at *
  obtain ⟨wb, hwb⟩ : ∃ wb, wb = W.heap.size + 1 := ⟨_, rfl⟩
  rw [← hwb] at HBW ⊢
  clear hwb q0 q1
  go_loopw [9, 10] (fun sv iv wr => ∃ (i : Nat) (y : Fd), iv = I i ∧ i ≤ m ∧ E[i]? = some y ∧ sv = I y.s ∧ G w0 wr) (fun _ iv _ => m - (RowKit.intOf iv).toNat)
  case atStart => exact ⟨0, _, rfl, Nat.zero_le _, HG0.out, rfl, G.refl _⟩
  case round =>
    obtain ⟨i, y, rfl, hi, hy, rfl, hg⟩ := hrel
    have eb := (HBW.out.G hg).cell
    have en := (HBN.out.G hg).cell
    by_cases hil : i < m
    · have hiI : (i : Int) < m := Int.ofNat_lt.2 hil
      obtain ⟨c, hc⟩ : ∃ c, E[i + 1]? = some c := ⟨_, List.getElem?_eq_getElem (by rw [HEM.out]; exact Nat.succ_lt_succ hil)⟩
      have hgW := HGA.out.trans hg
      have cy := HNC.out _ hgW i y hy
      have cc := HNC.out _ hgW (i + 1) c hc
      obtain ⟨g2, cap2, he2, ce⟩ := HEC.out _ hgW i c hc
      obtain ⟨rfl, rfl⟩ : ea = some ⟨g2, 0, none⟩ ∧ ec = cap2 := by simp at he2; exact he2
      have hlk := HK.out.link i y c hy hc
      obtain ⟨l1, l2⟩ := hlk.least
      obtain ⟨q, hq⟩ : ∃ q : Nat, q = i + 1 := ⟨_, rfl⟩
      rw [← hq] at cc hc
      have ws : wrap64 (y.s + (c.s - y.s)) = c.s := wsum _ _ (HS.out c (List.mem_of_getElem? hc))
      have wi : wrap64 ((i : Int) + 1) = (q : Int) := wnat i q hq (Nat.le_of_lt (Nat.lt_trans hil HMB.out))
      have wj : IntKind.i64.wrap ((i : Int) + 1) = (q : Int) := wnat2 i q hq (Nat.le_of_lt (Nat.lt_trans hil HMB.out))
      have i3 : (i : Int) < (m : Int) + 1 := Int.lt_trans hiI i1
      have i4 : (q : Int) < (m : Int) + 1 := qlt i q m hq hil
      have HAR := hide (arc_any Wb (World.drew wr) (.slice rva rs.length rvc) rs y.n c.n c.e (c.s - y.s) HNR.out ((HGB.out.trans hgW).trans (G.drew (G.refl _))) (HR.out y (List.mem_of_getElem? hy)) hrl HAL.out l1 l2)
      have HALL : Hid (∀ V, G wr V → (fun V => (∀ j, V.cell? ⟨wb, j, none⟩ = ([I x.s, .slice (some ⟨g, 0, none⟩) (m + 1) cap, .slice (some ⟨g2, 0, none⟩) m ec] : List Value)[j]?) ∧ (∀ j, V.cell? ⟨W.heap.size, j, none⟩ = ([.slice rva rs.length rvc, .bool false] : List Value)[j]?) ∧ V.cell? ⟨g, i, none⟩ = some (I y.n) ∧ V.cell? ⟨g, q, none⟩ = some (I c.n) ∧ V.cell? ⟨g2, i, none⟩ = some (I c.e)) V) := fun V gV => by
        have h1 := (HBW.out.G (hg.trans gV)).cell
        have h2 := (HBN.out.G (hg.trans gV)).cell
        have h3 := HNC.out _ (hgW.trans gV) i y hy
        have h4 := HNC.out _ (hgW.trans gV) q c hc
        refine ⟨h1, h2, h3, h4, ?_⟩
        rw [gV.cell (cell_lt ce)]
        exact ce
      have HREL : Hid (∀ V, G wr V → ∃ (i' : Nat) (y' : Fd), I (q : Int) = I i' ∧ i' ≤ m ∧ E[i']? = some y' ∧ I c.s = I y'.s ∧ G w0 V) := fun V gV => ⟨q, c, rfl, qle i q m hq hil, hc, rfl, hg.trans gV⟩
      have HMS : Hid (m - q < m - i) := qms i q m hq hil
      clear hy hc hgW he2 hlk l1 l2 hil hg hi cy cc ce en hq HEC HNC HK HGL HG0 HGA HBW HBN HGB HNR HAL HR HS hrl
      go_wp2_with fail
      refine wp_region_noPanic ?_
      refine wp_region_held_drew (S := (fun V => (∀ j, V.cell? ⟨wb, j, none⟩ = ([I x.s, .slice (some ⟨g, 0, none⟩) (m + 1) cap, .slice (some ⟨g2, 0, none⟩) m ec] : List Value)[j]?) ∧ (∀ j, V.cell? ⟨W.heap.size, j, none⟩ = ([.slice rva rs.length rvc, .bool false] : List Value)[j]?) ∧ V.cell? ⟨g, i, none⟩ = some (I y.n) ∧ V.cell? ⟨g, q, none⟩ = some (I c.n) ∧ V.cell? ⟨g2, i, none⟩ = some (I c.e))) (by kernel_rfl) (HALL.out _ (G.drew (G.refl _))) (fun hHeld => ?_)
      refine wpAnyH_take (i := 0) (v := ?_) rfl (by kernel_rfl) (by kernel_rfl) (by kernel_rfl) (fun _ _ _ h => h) (Or.inl ⟨by rfl, ?_⟩) hHeld ?_
      rotate_left 1
      · (intro w hSw; obtain ⟨q1, q2, q3, q4, q5⟩ := hSw; go_simp; try with_reducible rfl)
      try simp only [Act.put, List.getElem_toArray, List.getElem_cons_zero, List.setIfInBounds_toArray, List.set_cons_zero, List.set_cons_succ]
      refine wpAnyH_take (i := 1) (v := ?_) rfl (by kernel_rfl) (by kernel_rfl) (by kernel_rfl) (fun _ _ _ h => h) (Or.inl ⟨by rfl, ?_⟩) hHeld ?_
      rotate_left 1
      · (intro w hSw; obtain ⟨q1, q2, q3, q4, q5⟩ := hSw; go_simp; try with_reducible rfl)
      try simp only [Act.put, List.getElem_toArray, List.getElem_cons_zero, List.getElem_cons_succ, List.setIfInBounds_toArray, List.set_cons_zero, List.set_cons_succ]
      refine wpAnyH_take (i := 2) (v := ?_) rfl (by kernel_rfl) (by kernel_rfl) (by kernel_rfl) (fun _ _ _ h => h) (Or.inl ⟨by rfl, ?_⟩) hHeld ?_
      rotate_left 1
      · (intro w hSw; obtain ⟨q1, q2, q3, q4, q5⟩ := hSw; go_simp; try with_reducible rfl)
      try simp only [Act.put, List.getElem_toArray, List.getElem_cons_zero, List.getElem_cons_succ, List.setIfInBounds_toArray, List.set_cons_zero, List.set_cons_succ]
      refine wpAnyH_take (i := 3) (v := ?_) rfl (by kernel_rfl) (by kernel_rfl) (by kernel_rfl) (fun _ _ _ h => h) (Or.inl ⟨by rfl, ?_⟩) hHeld ?_
      rotate_left 1
      · (intro w hSw; obtain ⟨q1, q2, q3, q4, q5⟩ := hSw; go_simp; try with_reducible rfl)
      try simp only [Act.put, List.getElem_toArray, List.getElem_cons_zero, List.getElem_cons_succ, List.setIfInBounds_toArray, List.set_cons_zero, List.set_cons_succ]
      refine wpAnyH_take (i := 4) (v := ?_) rfl (by kernel_rfl) (by kernel_rfl) (by kernel_rfl) (fun _ _ _ h => h) (Or.inl ⟨by rfl, ?_⟩) hHeld ?_
      rotate_left 1
      · (intro w hSw; obtain ⟨q1, q2, q3, q4, q5⟩ := hSw; go_simp; try with_reducible rfl)
      try simp only [Act.put, List.getElem_toArray, List.getElem_cons_zero, List.getElem_cons_succ, List.setIfInBounds_toArray, List.set_cons_zero, List.set_cons_succ]
      refine wpAnyH_take (i := 5) (v := ?_) rfl (by kernel_rfl) (by kernel_rfl) (by kernel_rfl) (fun _ _ _ h => h) (Or.inl ⟨by rfl, ?_⟩) hHeld ?_
      rotate_left 1
      · (intro w hSw; obtain ⟨q1, q2, q3, q4, q5⟩ := hSw; go_simp; try with_reducible rfl)
      try simp only [Act.put, List.getElem_toArray, List.getElem_cons_zero, List.getElem_cons_succ, List.setIfInBounds_toArray, List.set_cons_zero, List.set_cons_succ]
      refine wpAnyH_take (i := 6) (v := ?_) rfl (by kernel_rfl) (by kernel_rfl) (by kernel_rfl) (fun _ _ _ h => h) (Or.inl ⟨by rfl, ?_⟩) hHeld ?_
      rotate_left 1
      · (intro w hSw; obtain ⟨q1, q2, q3, q4, q5⟩ := hSw; go_simp; try with_reducible rfl)
      try simp only [Act.put, List.getElem_toArray, List.getElem_cons_zero, List.getElem_cons_succ, List.setIfInBounds_toArray, List.set_cons_zero, List.set_cons_succ]
      refine wpAnyH_take (i := 7) (v := ?_) rfl (by kernel_rfl) (by kernel_rfl) (by kernel_rfl) (fun _ _ _ h => h) (Or.inl ⟨by rfl, ?_⟩) hHeld ?_
      rotate_left 1
      · (intro w hSw; obtain ⟨q1, q2, q3, q4, q5⟩ := hSw; go_simp; try with_reducible rfl)
      try simp only [Act.put, List.getElem_toArray, List.getElem_cons_zero, List.getElem_cons_succ, List.setIfInBounds_toArray, List.set_cons_zero, List.set_cons_succ]
      refine wpAnyH_take (i := 8) (v := ?_) rfl (by kernel_rfl) (by kernel_rfl) (by kernel_rfl) (fun _ _ _ h => h) (Or.inl ⟨by rfl, ?_⟩) hHeld ?_
      rotate_left 1
      · (intro w hSw; obtain ⟨q1, q2, q3, q4, q5⟩ := hSw; go_simp; try with_reducible rfl)
      try simp only [Act.put, List.getElem_toArray, List.getElem_cons_zero, List.getElem_cons_succ, List.setIfInBounds_toArray, List.set_cons_zero, List.set_cons_succ]
      refine wpAnyH_take (i := 9) (v := ?_) rfl (by kernel_rfl) (by kernel_rfl) (by kernel_rfl) (fun _ _ _ h => h) (Or.inl ⟨by rfl, ?_⟩) hHeld ?_
      rotate_left 1
      · (intro w hSw; obtain ⟨q1, q2, q3, q4, q5⟩ := hSw; go_simp; try with_reducible rfl)
      try simp only [Act.put, List.getElem_toArray, List.getElem_cons_zero, List.getElem_cons_succ, List.setIfInBounds_toArray, List.set_cons_zero, List.set_cons_succ]
      refine wpAnyH_take (i := 10) (v := ?_) rfl (by kernel_rfl) (by kernel_rfl) (by kernel_rfl) (fun _ _ _ h => h) (Or.inl ⟨by rfl, ?_⟩) hHeld ?_
      rotate_left 1
      · (intro w hSw; obtain ⟨q1, q2, q3, q4, q5⟩ := hSw; go_simp; try with_reducible rfl)
      try simp only [Act.put, List.getElem_toArray, List.getElem_cons_zero, List.getElem_cons_succ, List.setIfInBounds_toArray, List.set_cons_zero, List.set_cons_succ]
      refine wpAnyH_take (i := 11) (v := ?_) rfl (by kernel_rfl) (by kernel_rfl) (by kernel_rfl) (fun _ _ _ h => h) (Or.inl ⟨by rfl, ?_⟩) hHeld ?_
      rotate_left 1
      · (intro w hSw; obtain ⟨q1, q2, q3, q4, q5⟩ := hSw; go_simp; try with_reducible rfl)
      try simp only [Act.put, List.getElem_toArray, List.getElem_cons_zero, List.getElem_cons_succ, List.setIfInBounds_toArray, List.set_cons_zero, List.set_cons_succ]
      refine wpAnyH_take (i := 12) (v := ?_) rfl (by kernel_rfl) (by kernel_rfl) (by kernel_rfl) (fun _ _ _ h => h) (Or.inl ⟨by rfl, ?_⟩) hHeld ?_
      rotate_left 1
      · (intro w hSw; obtain ⟨q1, q2, q3, q4, q5⟩ := hSw; go_simp; try with_reducible rfl)
      try simp only [Act.put, List.getElem_toArray, List.getElem_cons_zero, List.getElem_cons_succ, List.setIfInBounds_toArray, List.set_cons_zero, List.set_cons_succ]
      refine wpAnyH_take (i := 13) (v := ?_) rfl (by kernel_rfl) (by kernel_rfl) (by kernel_rfl) (fun _ _ _ h => h) (Or.inl ⟨by rfl, ?_⟩) hHeld ?_
      rotate_left 1
      · (intro w hSw; obtain ⟨q1, q2, q3, q4, q5⟩ := hSw; go_simp; try with_reducible rfl)
      try simp only [Act.put, List.getElem_toArray, List.getElem_cons_zero, List.getElem_cons_succ, List.setIfInBounds_toArray, List.set_cons_zero, List.set_cons_succ]
      refine wpAnyH_take (i := 14) (v := ?_) rfl (by kernel_rfl) (by kernel_rfl) (by kernel_rfl) (fun _ _ _ h => h) (Or.inl ⟨by rfl, ?_⟩) hHeld ?_
      rotate_left 1
      · (intro w hSw; obtain ⟨q1, q2, q3, q4, q5⟩ := hSw; go_simp; try with_reducible rfl)
      try simp only [Act.put, List.getElem_toArray, List.getElem_cons_zero, List.getElem_cons_succ, List.setIfInBounds_toArray, List.set_cons_zero, List.set_cons_succ]
      refine wpAnyH_take (i := 15) (v := ?_) rfl (by kernel_rfl) (by kernel_rfl) (by kernel_rfl) (fun _ _ _ h => h) (Or.inl ⟨by rfl, ?_⟩) hHeld ?_
      rotate_left 1
      · (intro w hSw; obtain ⟨q1, q2, q3, q4, q5⟩ := hSw; go_simp; try with_reducible rfl)
      try simp only [Act.put, List.getElem_toArray, List.getElem_cons_zero, List.getElem_cons_succ, List.setIfInBounds_toArray, List.set_cons_zero, List.set_cons_succ]
      refine wpAnyH_take (i := 16) (v := ?_) rfl (by kernel_rfl) (by kernel_rfl) (by kernel_rfl) (fun _ _ _ h => h) (Or.inl ⟨by rfl, ?_⟩) hHeld ?_
      rotate_left 1
      · (intro w hSw; obtain ⟨q1, q2, q3, q4, q5⟩ := hSw; go_simp; try with_reducible rfl)
      try simp only [Act.put, List.getElem_toArray, List.getElem_cons_zero, List.getElem_cons_succ, List.setIfInBounds_toArray, List.set_cons_zero, List.set_cons_succ]
      refine wpAnyH_ready (rs := [17]) (by kernel_rfl) (by simp) (AllReadyH.cons rfl (fun K hK => ?_) AllReadyH.nil)
      clear hHeld
      go_simp
      refine HAR.out.mono ?_
      rintro e w6 ⟨rfl, hg6⟩
      have HG6 := hide (G.trans (G.drew (G.refl wr)) hg6)
      clear hg6
      go_wp2_with fail
      refine hK.out _ _ (HALL.out _ HG6.out) (fun hHeld => ?_)
      clear hK K
      try simp only [Act.put, List.getElem_toArray, List.getElem_cons_zero, List.getElem_cons_succ, List.setIfInBounds_toArray, List.set_cons_zero, List.set_cons_succ]
      refine wpAnyH_take (i := 18) (v := ?_) rfl (by kernel_rfl) (by kernel_rfl) (by kernel_rfl) (fun _ _ _ h => h) (Or.inl ⟨by rfl, ?_⟩) hHeld ?_
      rotate_left 1
      · (intro w hSw; (try dsimp only at hSw); go_simp; try with_reducible rfl)
      try simp only [Act.put, List.getElem_toArray, List.getElem_cons_zero, List.getElem_cons_succ, List.setIfInBounds_toArray, List.set_cons_zero, List.set_cons_succ]
      refine wpAnyH_take (i := 19) (v := ?_) rfl (by kernel_rfl) (by kernel_rfl) (by kernel_rfl) (fun _ _ _ h => h) (Or.inl ⟨by rfl, ?_⟩) hHeld ?_
      rotate_left 1
      · (intro w hSw; (try dsimp only at hSw); go_simp; try with_reducible rfl)
      try simp only [Act.put, List.getElem_toArray, List.getElem_cons_zero, List.getElem_cons_succ, List.setIfInBounds_toArray, List.set_cons_zero, List.set_cons_succ]
      refine wpAnyH_take (i := 20) (v := ?_) rfl (by kernel_rfl) (by kernel_rfl) (by kernel_rfl) (fun _ _ _ h => h) (Or.inl ⟨by rfl, ?_⟩) hHeld ?_
      rotate_left 1
      · (intro w hSw; (try dsimp only at hSw); go_simp; try with_reducible rfl)
      try simp only [Act.put, List.getElem_toArray, List.getElem_cons_zero, List.getElem_cons_succ, List.setIfInBounds_toArray, List.set_cons_zero, List.set_cons_succ]
      refine wpAnyH_take (i := 21) (v := ?_) rfl (by kernel_rfl) (by kernel_rfl) (by kernel_rfl) (fun _ _ _ h => h) (Or.inl ⟨by rfl, ?_⟩) hHeld ?_
      rotate_left 1
      · (intro w hSw; (try dsimp only at hSw); go_simp; try with_reducible rfl)
      try simp only [Act.put, List.getElem_toArray, List.getElem_cons_zero, List.getElem_cons_succ, List.setIfInBounds_toArray, List.set_cons_zero, List.set_cons_succ]
      refine wpAnyH_take (i := 22) (v := ?_) rfl (by kernel_rfl) (by kernel_rfl) (by kernel_rfl) (fun _ _ _ h => h) (Or.inl ⟨by rfl, ?_⟩) hHeld ?_
      rotate_left 1
      · (intro w hSw; (try dsimp only at hSw); go_simp; try with_reducible rfl)
      try simp only [Act.put, List.getElem_toArray, List.getElem_cons_zero, List.getElem_cons_succ, List.setIfInBounds_toArray, List.set_cons_zero, List.set_cons_succ]
      refine wpAnyH_done (by kernel_rfl) ?_ _
      refine NoPanic.normal ?_
      clear eb
      go_wp2_with fail
      go_roundw
      case rel => (try rw [ws]); (try rw [wi]); exact HREL.out _ HG6.out
      case measure => (try rw [wi]); simp only [RowKit.intOf, Int.toNat_natCast]; exact HMS.out
    · have hiI : ¬ ((i : Int) < m) := nlt i m hil
      obtain rfl : i = m := Nat.le_antisymm hi (Nat.le_of_not_lt hil)
      have hyx : y = x := Option.some.inj (hy.symm.trans HGL.out)
      subst hyx
      have HG := hide (HGA.out.trans hg)
      clear hy hg hil hi HEC HNC HK HGL HG0 HGA HBW HBN HGB HNR HAL HR HS hrl en
      go_wp2_with fail
      go_ret
      first | exact ⟨rfl, HG.out⟩ | exact ⟨by simp, HG.out⟩
end Go.Proofs.YtcbjcienjolceaaDoor
