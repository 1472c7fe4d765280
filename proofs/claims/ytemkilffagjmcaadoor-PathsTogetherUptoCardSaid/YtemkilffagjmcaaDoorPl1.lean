/- Paths: pathsIds, whole. -/
import Derived.Test.YtemkilffagjmcaaDoorPj6
namespace Go.Proofs.YtemkilffagjmcaaDoor
open Go.RowKit

theorem neqA (a b c : Int) (w : World) : (binOp .neq 40 (.agg #[I a, I b, I c]) (.agg #[I a, I b, I c])).run Tryd.prog w = .ok (.bool false) w := by
  go_simp
  try rfl
/-- A cell that is there. -/
structure Cel (w : World) (b o : Nat) (v : Value) : Prop where
  c : w.cell? ⟨b, o, none⟩ = some v
theorem Cel.G {w w' : World} {b o : Nat} {v : Value} (h : Cel w b o v) (g : Go.Proofs.YtemkilffagjmcaaDoor.G w w') : w'.cell? ⟨b, o, none⟩ = some v := by
  rw [g.cell (cell_lt h.c)]
  exact h.c
set_option maxRecDepth 100000 in
set_option maxHeartbeats 2000000 in
theorem ids_eq (lo1 lo2 : Nat) (W : World) (v1 v2 : Value) (l : List Int) (h1 : Rw lo1 2 1 W v1 l.length (l.map I)) (h2 : Rw lo2 2 1 W v2 l.length (l.map I)) (hb : l.length ≤ 1048576) : Calls Tryd.prog 15 #[v1, v2] W fun e W' => e = .returned (.bool true) ∧ G W W' := by
  obtain ⟨a1, c1, rfl⟩ := Rw.form h1
  obtain ⟨a2, c2, rfl⟩ := Rw.form h2
  have H1 := hide h1
  have H2 := hide h2
  clear h1 h2
  go_enter Tryd.func15, Tryd.ntmps15
  go_wp2_with fail
  go_loopw [5] (fun iv wr => ∃ k : Nat, iv = I k ∧ k ≤ l.length ∧ G W wr) (fun iv _ => l.length - (RowKit.intOf iv).toNat)
  case atStart => exact ⟨0, rfl, Nat.zero_le _, G.refl _⟩
  case round =>
    obtain ⟨k, rfl, hk, hg⟩ := hrel
    by_cases hkl : k < l.length
    · have hkI : (k : Int) < l.length := by omega
      obtain ⟨x, hx⟩ : ∃ x, l[k]? = some x := ⟨_, List.getElem?_eq_getElem hkl⟩
      have hxm : (l.map I)[k]? = some (I x) := by rw [List.getElem?_map, hx]; rfl
      obtain ⟨g1, cc1, e1, -, hc1, -⟩ := (Rw.G H1.out hg).cell (by omega)
      obtain ⟨g2, cc2, e2, -, hc2, -⟩ := (Rw.G H2.out hg).cell (by omega)
      obtain ⟨rfl, rfl⟩ : a1 = some ⟨g1, 0, none⟩ ∧ c1 = cc1 := by simp at e1; exact e1
      obtain ⟨rfl, rfl⟩ : a2 = some ⟨g2, 0, none⟩ ∧ c2 = cc2 := by simp at e2; exact e2
      have y1 := (hc1 k (by omega)).trans hxm
      have y2 := (hc2 k (by omega)).trans hxm
      have hw : wrap64 ((k : Int) + 1) = (k : Int) + 1 := by unfold wrap64; omega
      have HKL := hide hkl
      have HG := hide hg
      clear e1 e2 hc1 hc2 hx hxm hkl hg
      go_wp2_with fail
      go_quiet (fail)
      go_wp2_with fail
      go_roundw
      case rel => exact ⟨k + 1, by simp, HKL.out, HG.out.trans (g_drewN _ _)⟩
      case measure => simp only [RowKit.intOf]; have := HKL.out; omega
    · have hkI : ¬ ((k : Int) < l.length) := by omega
      have HG := hide hg
      clear hg
      go_wp2_with fail
      go_ret
      exact ⟨rfl, HG.out⟩
set_option maxRecDepth 100000 in
set_option maxHeartbeats 2000000 in
theorem whole_any (Wb W : World) (sh : Nat) (rv : Value) (rs : List Nr) (tail : Bool) (av gv : Value) (asked : List Int) (gl : List Value) (k : Shn Wb W sh rv rs tail av gv asked gl) (lo : Nat) (qv : Value) (hq : Rw lo 2 1 W qv asked.length (asked.map I)) (hr : ∀ id ∈ asked, R64 id) (hrl : rs.length ≤ 1048576) (hal : ∀ id, (netOf rs tail id).1.length ≤ 1048576) (hask : asked.length ≤ 1048576) :
    Calls Tryd.prog 16 #[ptr sh, qv] W fun e W' => e = .returned (.bool true) ∧ G W W' := by
  obtain ⟨rva, rvc, hrv, -⟩ := k.rows
  subst hrv
  obtain ⟨ava, avc, rfl⟩ := k.ask.form
  obtain ⟨gva, gvc, rfl⟩ := k.giv.form
  obtain ⟨qa, qc, rfl⟩ := Rw.form hq
  have hlen := k.len
  have HBC : Hid (∀ V, G W V → ∀ j, V.cell? ⟨sh, j, none⟩ = ([.slice rva rs.length rvc, .bool tail, .slice ava asked.length avc, .slice gva asked.length gvc] : List Value)[j]?) := fun V g => by
    have := (k.G g).blk.cell
    rw [hlen] at this
    exact this
  have hc := HBC.out W (G.refl _)
  have HID := hide (ids_eq Wb.heap.size lo W (.slice ava asked.length avc) (.slice qa asked.length qc) asked k.ask hq hask)
  have HK := hide k
  have HQ := hide hq
  have HR := hide hr
  have HAL := hide hal
  have HLEN := hide hlen
  clear k hq hr hal hlen
  go_enter Tryd.func16, Tryd.ntmps16
  go_wp2_with fail
  with_reducible refine HID.out.mono ?_
  rintro e w1 ⟨rfl, hg1⟩
  have HG1 := hide hg1
  have hc1 := HBC.out _ hg1
  clear hc hg1 HID
  go_wp2_with fail
  go_loopw [5] (fun iv wr => ∃ kk : Nat, iv = I kk ∧ kk ≤ asked.length ∧ G W wr) (fun iv _ => asked.length - (RowKit.intOf iv).toNat)
  case atStart => exact ⟨0, rfl, Nat.zero_le _, HG1.out⟩
  case round =>
    obtain ⟨kk, rfl, hkk, hg⟩ := hrel
    by_cases hkl : kk < asked.length
    · have hkI : (kk : Int) < asked.length := by omega
      obtain ⟨id, hid⟩ : ∃ id, asked[kk]? = some id := ⟨_, List.getElem?_eq_getElem hkl⟩
      obtain ⟨gvl, hgvl⟩ : ∃ v, gl[kk]? = some v := ⟨_, List.getElem?_eq_getElem (by rw [HLEN.out]; exact hkl)⟩
      have hsn := HK.out.G hg
      obtain ⟨qg, qcc, e1, -, hqc, -⟩ := (Rw.G HQ.out hg).cell (by omega)
      obtain ⟨rfl, rfl⟩ : qa = some ⟨qg, 0, none⟩ ∧ qc = qcc := by simp at e1; exact e1
      have hqk := hqc kk (by omega)
      rw [List.getElem?_map, hid] at hqk
      have HQC : Hid (Cel wr qg kk (I id)) := ⟨hqk⟩
      have HSN := hide hsn
      have HOF := hide (of_any Wb wr.drew (.slice rva rs.length rvc) rs tail id HK.out.rows (hsn.g.drew) (HR.out id (List.mem_of_getElem? hid)) hrl)
      have HGV := hide hgvl
      have HDD := hide hid
      have HG := hide hg
      have HKL := hide hkl
      clear hqk hqc e1 hsn hgvl hid hg hkl hc1
      go_wp2_with fail
      refine wp_region_noPanic ?_
      refine wp_region_held_drew (S := (fun V => (∀ j, V.cell? ⟨sh, j, none⟩ = ([.slice rva rs.length rvc, .bool tail, .slice ava asked.length avc, .slice gva asked.length gvc] : List Value)[j]?) ∧ V.cell? ⟨qg, kk, none⟩ = some (I id))) (by kernel_rfl) (⟨HBC.out _ HG.out.drew, HQC.out.G (G.drew (G.refl _))⟩) (fun hHeld => ?_)
      refine wpAnyH_take (i := 0) (v := ?_) rfl (by kernel_rfl) (by kernel_rfl) (by kernel_rfl) (fun _ _ _ h => h) (Or.inl ⟨by rfl, ?_⟩) hHeld ?_
      rotate_left 1
      · (intro w hSw; obtain ⟨q1, q2⟩ := hSw; go_simp; try with_reducible rfl)
      try simp only [Act.put, List.getElem_toArray, List.getElem_cons_zero, List.setIfInBounds_toArray, List.set_cons_zero, List.set_cons_succ]
      refine wpAnyH_take (i := 1) (v := ?_) rfl (by kernel_rfl) (by kernel_rfl) (by kernel_rfl) (fun _ _ _ h => h) (Or.inl ⟨by rfl, ?_⟩) hHeld ?_
      rotate_left 1
      · (intro w hSw; obtain ⟨q1, q2⟩ := hSw; go_simp; try with_reducible rfl)
      try simp only [Act.put, List.getElem_toArray, List.getElem_cons_zero, List.getElem_cons_succ, List.setIfInBounds_toArray, List.set_cons_zero, List.set_cons_succ]
      refine wpAnyH_take (i := 2) (v := ?_) rfl (by kernel_rfl) (by kernel_rfl) (by kernel_rfl) (fun _ _ _ h => h) (Or.inl ⟨by rfl, ?_⟩) hHeld ?_
      rotate_left 1
      · (intro w hSw; obtain ⟨q1, q2⟩ := hSw; go_simp; try with_reducible rfl)
      try simp only [Act.put, List.getElem_toArray, List.getElem_cons_zero, List.getElem_cons_succ, List.setIfInBounds_toArray, List.set_cons_zero, List.set_cons_succ]
      refine wpAnyH_take (i := 3) (v := ?_) rfl (by kernel_rfl) (by kernel_rfl) (by kernel_rfl) (fun _ _ _ h => h) (Or.inl ⟨by rfl, ?_⟩) hHeld ?_
      rotate_left 1
      · (intro w hSw; obtain ⟨q1, q2⟩ := hSw; go_simp; try with_reducible rfl)
      try simp only [Act.put, List.getElem_toArray, List.getElem_cons_zero, List.getElem_cons_succ, List.setIfInBounds_toArray, List.set_cons_zero, List.set_cons_succ]
      refine wpAnyH_take (i := 4) (v := ?_) rfl (by kernel_rfl) (by kernel_rfl) (by kernel_rfl) (fun _ _ _ h => h) (Or.inl ⟨by rfl, ?_⟩) hHeld ?_
      rotate_left 1
      · (intro w hSw; obtain ⟨q1, q2⟩ := hSw; go_simp; try with_reducible rfl)
      try simp only [Act.put, List.getElem_toArray, List.getElem_cons_zero, List.getElem_cons_succ, List.setIfInBounds_toArray, List.set_cons_zero, List.set_cons_succ]
      refine wpAnyH_take (i := 5) (v := ?_) rfl (by kernel_rfl) (by kernel_rfl) (by kernel_rfl) (fun _ _ _ h => h) (Or.inl ⟨by rfl, ?_⟩) hHeld ?_
      rotate_left 1
      · (intro w hSw; obtain ⟨q1, q2⟩ := hSw; go_simp; try with_reducible rfl)
      try simp only [Act.put, List.getElem_toArray, List.getElem_cons_zero, List.getElem_cons_succ, List.setIfInBounds_toArray, List.set_cons_zero, List.set_cons_succ]
      refine wpAnyH_take (i := 6) (v := ?_) rfl (by kernel_rfl) (by kernel_rfl) (by kernel_rfl) (fun _ _ _ h => h) (Or.inl ⟨by rfl, ?_⟩) hHeld ?_
      rotate_left 1
      · (intro w hSw; obtain ⟨q1, q2⟩ := hSw; go_simp; try with_reducible rfl)
      try simp only [Act.put, List.getElem_toArray, List.getElem_cons_zero, List.getElem_cons_succ, List.setIfInBounds_toArray, List.set_cons_zero, List.set_cons_succ]
      refine wpAnyH_take (i := 7) (v := ?_) rfl (by kernel_rfl) (by kernel_rfl) (by kernel_rfl) (fun _ _ _ h => h) (Or.inl ⟨by rfl, ?_⟩) hHeld ?_
      rotate_left 1
      · (intro w hSw; obtain ⟨q1, q2⟩ := hSw; go_simp; try with_reducible rfl)
      try simp only [Act.put, List.getElem_toArray, List.getElem_cons_zero, List.getElem_cons_succ, List.setIfInBounds_toArray, List.set_cons_zero, List.set_cons_succ]
      refine wpAnyH_ready (rs := [8]) (by kernel_rfl) (by simp) (AllReadyH.cons rfl (fun K hK => ?_) AllReadyH.nil)
      clear hHeld
      go_simp
      refine HOF.out.mono ?_
      rintro e w6 ⟨lv, rfl, hax, hg6⟩
      have HG6 := hide (G.trans (G.drew (G.refl wr)) hg6)
      have HX6 := hide hax
      obtain ⟨la, lc, rfl⟩ : ∃ la lc, lv = .slice la (netOf rs tail id).1.length lc := by
        obtain ⟨a, c, e, -, -⟩ := (hax.arcs (HSN.out.g.trans (G.trans (G.drew (G.refl wr)) hg6))).at_
        exact ⟨a, c, e⟩
      clear hg6 hax
      go_wp2_with fail
      refine hK.out _ _ (⟨HBC.out _ (HG.out.trans HG6.out), (HQC.out.G HG6.out)⟩) (fun hHeld => ?_)
      clear hK K
      try simp only [Act.put, List.getElem_toArray, List.getElem_cons_zero, List.getElem_cons_succ, List.setIfInBounds_toArray, List.set_cons_zero, List.set_cons_succ]
      refine wpAnyH_take (i := 9) (v := ?_) rfl (by kernel_rfl) (by kernel_rfl) (by kernel_rfl) (fun _ _ _ h => h) (Or.inl ⟨by rfl, ?_⟩) hHeld ?_
      rotate_left 1
      · (intro w hSw; (try dsimp only at hSw); go_simp; try with_reducible rfl)
      try simp only [Act.put, List.getElem_toArray, List.getElem_cons_zero, List.getElem_cons_succ, List.setIfInBounds_toArray, List.set_cons_zero, List.set_cons_succ]
      refine wpAnyH_take (i := 10) (v := ?_) rfl (by kernel_rfl) (by kernel_rfl) (by kernel_rfl) (fun _ _ _ h => h) (Or.inl ⟨by rfl, ?_⟩) hHeld ?_
      rotate_left 1
      · (intro w hSw; (try dsimp only at hSw); go_simp; try with_reducible rfl)
      try simp only [Act.put, List.getElem_toArray, List.getElem_cons_zero, List.getElem_cons_succ, List.setIfInBounds_toArray, List.set_cons_zero, List.set_cons_succ]
      refine wpAnyH_take (i := 11) (v := ?_) rfl (by kernel_rfl) (by kernel_rfl) (by kernel_rfl) (fun _ _ _ h => h) (Or.inl ⟨by rfl, ?_⟩) hHeld ?_
      rotate_left 1
      · (intro w hSw; (try dsimp only at hSw); go_simp; try with_reducible rfl)
      try simp only [Act.put, List.getElem_toArray, List.getElem_cons_zero, List.getElem_cons_succ, List.setIfInBounds_toArray, List.set_cons_zero, List.set_cons_succ]
      refine wpAnyH_take (i := 12) (v := ?_) rfl (by kernel_rfl) (by kernel_rfl) (by kernel_rfl) (fun _ _ _ h => h) (Or.inl ⟨by rfl, ?_⟩) hHeld ?_
      rotate_left 1
      · (intro w hSw; (try dsimp only at hSw); go_simp; try with_reducible rfl)
      try simp only [Act.put, List.getElem_toArray, List.getElem_cons_zero, List.getElem_cons_succ, List.setIfInBounds_toArray, List.set_cons_zero, List.set_cons_succ]
      refine wpAnyH_take (i := 13) (v := ?_) rfl (by kernel_rfl) (by kernel_rfl) (by kernel_rfl) (fun _ _ _ h => h) (Or.inl ⟨by rfl, ?_⟩) hHeld ?_
      rotate_left 1
      · (intro w hSw; (try dsimp only at hSw); go_simp; try with_reducible rfl)
      try simp only [Act.put, List.getElem_toArray, List.getElem_cons_zero, List.getElem_cons_succ, List.setIfInBounds_toArray, List.set_cons_zero, List.set_cons_succ]
      refine wpAnyH_done (by kernel_rfl) ?_ _
      refine NoPanic.normal ?_
      have hsn6 := HSN.out.G HG6.out
      obtain ⟨gg, gcap, grest, rfl, -, hgb⟩ := hsn6.all kk id gvl HDD.out HGV.out
      obtain ⟨m, hm⟩ : ∃ m, m = (netOf rs tail id).1.length := ⟨_, rfl⟩
      have hml : m ≤ 1048576 := by rw [hm]; exact HAL.out id
      obtain ⟨asl, has⟩ : ∃ asl, asl = (netOf rs tail id).1 := ⟨_, rfl⟩
      rw [← has] at hm hgb HX6
      rw [← has, ← hm]
      have hfl := flA_len asl
      have hgc := hgb.cell
      have m0 : w6.cell? ⟨gg, m * 3, none⟩ = some (I (-71)) := by
        rw [hgc, List.getElem?_append_left (by rw [flA_len]; simp; omega), flA_app, List.getElem?_append_right (by omega), hfl, hm]; simp [flA]
      have m1 : w6.cell? ⟨gg, m * 3 + 1, none⟩ = some (I (-72)) := by
        rw [hgc, List.getElem?_append_left (by rw [flA_len]; simp; omega), flA_app, List.getElem?_append_right (by omega), hfl, hm, show asl.length * 3 + 1 - asl.length * 3 = 1 by omega]; simp [flA]
      have m2 : w6.cell? ⟨gg, m * 3 + 2, none⟩ = some (I (-73)) := by
        rw [hgc, List.getElem?_append_left (by rw [flA_len]; simp; omega), flA_app, List.getElem?_append_right (by omega), hfl, hm, show asl.length * 3 + 2 - asl.length * 3 = 2 by omega]; simp [flA]
      have m3 : w6.cell? ⟨gg, (m + 1) * 3, none⟩ = some (I (-71)) := by
        rw [hgc, List.getElem?_append_left (by rw [flA_len]; simp; omega), flA_app, List.getElem?_append_right (by omega), hfl, hm, show (asl.length + 1) * 3 - asl.length * 3 = 3 by omega]; simp [flA]
      have m4 : w6.cell? ⟨gg, (m + 1) * 3 + 1, none⟩ = some (I (-72)) := by
        rw [hgc, List.getElem?_append_left (by rw [flA_len]; simp; omega), flA_app, List.getElem?_append_right (by omega), hfl, hm, show (asl.length + 1) * 3 + 1 - asl.length * 3 = 4 by omega]; simp [flA]
      have m5 : w6.cell? ⟨gg, (m + 1) * 3 + 2, none⟩ = some (I (-73)) := by
        rw [hgc, List.getElem?_append_left (by rw [flA_len]; simp; omega), flA_app, List.getElem?_append_right (by omega), hfl, hm, show (asl.length + 1) * 3 + 2 - asl.length * 3 = 5 by omega]; simp [flA]
      have hmk := HK.out.mark.G hsn6.g
      have p0 := hmk.c 0 (by omega)
      have p1 := hmk.c 1 (by omega)
      have p2 := hmk.c 2 (by omega)
      simp only [List.getElem?_cons_zero, List.getElem?_cons_succ] at p0 p1 p2
      have hc6 := HBC.out _ (HG.out.trans HG6.out)
      obtain ⟨gvg, gvcc, e2, -, hgvc, -⟩ := hsn6.giv.cell (by have := HLEN.out; have := HKL.out; omega)
      obtain ⟨rfl, rfl⟩ : gva = some ⟨gvg, 0, none⟩ ∧ gvc = gvcc := by simp at e2; exact e2
      have hgk := (hgvc kk (by have := HLEN.out; have := HKL.out; omega)).trans HGV.out
      rw [← has, ← hm] at hgk
      have qn := neqA (-71) (-72) (-73)
      have w1 : wrap64 ((m : Int) + 1) = (m : Int) + 1 := by unfold wrap64; omega
      have w2 : wrap64 ((m : Int) + 2) = (m : Int) + 2 := by unfold wrap64; omega
      have i1 : (m : Int) < (m : Int) + 2 := by omega
      have i2 : (m : Int) + 1 < (m : Int) + 2 := by omega
      have HSN6 := hide hsn6
      have HGB := hide hgb
      have HM := hide hm
      have HAS := hide has
      clear has hgvc e2 hsn6 hgb hgc hmk hfl hm
      go_wp2_with fail
      go_quiet (fail)
      go_wp2_with fail
      generalize hw7 : World.drewN w6 _ = w7
      have HG7 : Hid (G w6 w7) := by rw [← hw7]; exact g_drewN _ _
      clear hw7 m0 m1 m2 m3 m4 m5 p0 p1 p2 hc6 hgk qn w1 w2 i1 i2
      go_loopw [8] (fun iv wi => ∃ jj : Nat, iv = I jj ∧ jj ≤ m ∧ G w6 wi) (fun iv _ => m - (RowKit.intOf iv).toNat)
      case atStart => exact ⟨0, rfl, Nat.zero_le _, HG7.out⟩
      case round =>
        obtain ⟨jj, rfl, hjj, hgi⟩ := hrel
        by_cases hjl : jj < m
        · have hjI : (jj : Int) < m := by omega
          have hjI2 : (jj : Int) < (m : Int) + 2 := by omega
          obtain ⟨⟨ae, at_, aw⟩, ha⟩ : ∃ a, asl[jj]? = some a := ⟨_, List.getElem?_eq_getElem (by rw [← HM.out]; exact hjl)⟩
          have hsni := HSN6.out.G hgi
          have hci := HBC.out _ (HG.out.trans (HG6.out.trans hgi))
          obtain ⟨gvg2, gvcc2, e2, -, hgvc, -⟩ := hsni.giv.cell (by have := HLEN.out; have := HKL.out; omega)
          obtain ⟨rfl, rfl⟩ : gvg = gvg2 ∧ gvc = gvcc2 := by simp at e2; exact e2
          have hgk := (hgvc kk (by have := HLEN.out; have := HKL.out; omega)).trans HGV.out
          rw [← HAS.out, ← HM.out] at hgk
          obtain ⟨-, b, off, e3, y1, y2, y3, -⟩ := ((HX6.out.arcs HSN6.out.g).G hgi).get ha
          subst e3
          have hgc := (HGB.out.G hgi).cell
          obtain ⟨g1, g2, g3⟩ := flA_get asl jj _ ha
          have hfl := flA_len asl
          have hml2 := HM.out
          have z1 : wr.cell? ⟨gg, jj * 3, none⟩ = some (I ae) := by
            rw [hgc, List.getElem?_append_left (by rw [flA_len]; simp; omega), flA_app, List.getElem?_append_left (by omega)]; exact g1
          have z2 : wr.cell? ⟨gg, jj * 3 + 1, none⟩ = some (I at_) := by
            rw [hgc, List.getElem?_append_left (by rw [flA_len]; simp; omega), flA_app, List.getElem?_append_left (by omega)]; exact g2
          have z3 : wr.cell? ⟨gg, jj * 3 + 2, none⟩ = some (I aw) := by
            rw [hgc, List.getElem?_append_left (by rw [flA_len]; simp; omega), flA_app, List.getElem?_append_left (by omega)]; exact g3
          simp only at y1 y2 y3
          have qn := neqA ae at_ aw
          have hw : wrap64 ((jj : Int) + 1) = (jj : Int) + 1 := by unfold wrap64; omega
          have HGI := hide hgi
          have HJL := hide hjl
          clear hgc g1 g2 g3 hfl hml2 ha hgvc e2 hsni hgi hjl
          go_wp2_with fail
          go_quiet (fail)
          go_wp2_with fail
          go_roundw
          case rel => exact ⟨jj + 1, by simp, HJL.out, HGI.out.trans (g_drewN _ _)⟩
          case measure => simp only [RowKit.intOf]; have := HJL.out; omega
        · have hjI : ¬ ((jj : Int) < m) := by omega
          have hw : wrap64 ((kk : Int) + 1) = (kk : Int) + 1 := by unfold wrap64; omega
          have HGI := hide (HG.out.trans (HG6.out.trans hgi))
          clear hgi hjl hjj
          go_wp2_with fail
          go_roundw
          case rel => exact ⟨kk + 1, by simp, HKL.out, HGI.out⟩
          case measure => (have := HKL.out; first | (simp [RowKit.intOf]; done) | (simp [RowKit.intOf]; omega))
    · have hkI : ¬ ((kk : Int) < asked.length) := by omega
      have HG := hide hg
      clear hg
      go_wp2_with fail
      go_ret
      exact ⟨rfl, HG.out⟩
end Go.Proofs.YtemkilffagjmcaaDoor
