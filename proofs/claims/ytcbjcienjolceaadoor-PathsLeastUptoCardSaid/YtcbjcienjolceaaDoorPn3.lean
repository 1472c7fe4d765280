/- Paths: pathsEnds. -/
import Derived.Test.YtcbjcienjolceaaDoorPn2
namespace Go.Proofs.YtcbjcienjolceaaDoor
open Go.RowKit

/-- The ids of a row. -/
def idsN (r : Nr) : List Int := r.id :: r.arcs.map (·.2.1)
def endsL (rs : List Nr) (from_ : Int) : List Int := from_ :: rs.flatMap idsN
set_option maxRecDepth 100000 in
set_option maxHeartbeats 2000000 in
theorem ends_any (W : World) (rv : Value) (rs : List Nr) (from_ : Int) (h : Nrs W rv rs) (hrl : rs.length ≤ 1048576) (hal : ∀ r ∈ rs, r.arcs.length ≤ 1048576) (hbig : (endsL rs from_).length ≤ 4294967296) :
    Calls Tryd.prog 10 #[rv, I from_] W fun e W' => ∃ ov : Value, e = .returned ov ∧ Rw W.heap.size 2 1 W' ov (endsL rs from_).length ((endsL rs from_).map I) ∧ G W W' := by
  obtain ⟨a, cap, rfl, h1⟩ := h
  have H1 := hide h1
  have HAL := hide hal
  have HBIG : Hid (∀ k, k ≤ rs.length → (from_ :: (rs.take k).flatMap idsN).length ≤ 4294967296) := fun k hk => by
    refine Nat.le_trans ?_ hbig
    have : rs = rs.take k ++ rs.drop k := (List.take_append_drop _ _).symm
    show _ ≤ (from_ :: rs.flatMap idsN).length
    rw [this, List.flatMap_append]
    simp
  have HG0 : Hid (G W (W.alloc (.cells #[I from_] 2))) := (G.refl W).alloc _
  have HR0 : Hid (Rw W.heap.size 2 1 (W.alloc (.cells #[I from_] 2)) (.slice (some ⟨W.heap.size, 0, none⟩) 1 1) 1 [I from_]) := ⟨by simp, .inr ⟨W.heap.size, 1, _, rfl, Nat.le_refl _, heap_alloc_new W _, Nat.le_refl _, of_decide_eq_true (by kernel_rfl), rfl, rfl⟩⟩
  clear h1 hal hbig
  go_enter Tryd.func10, Tryd.ntmps10
  go_wp2_with fail
  go_loopw [5, 6] (fun ov iv wr => ∃ k : Nat, iv = I k ∧ k ≤ rs.length ∧ Rw W.heap.size 2 1 wr ov (from_ :: (rs.take k).flatMap idsN).length ((from_ :: (rs.take k).flatMap idsN).map I) ∧ G W wr) (fun _ iv _ => rs.length - (RowKit.intOf iv).toNat)
  case atStart => exact ⟨0, rfl, Nat.zero_le _, HR0.out, HG0.out⟩
  case round =>
    obtain ⟨k, rfl, hk, hrow, hg⟩ := hrel
    by_cases hkl : k < rs.length
    · have hkI : (k : Int) < rs.length := by omega
      obtain ⟨r, hrk⟩ : ∃ r, rs[k]? = some r := ⟨_, List.getElem?_eq_getElem hkl⟩
      obtain ⟨b, off, rfl, h2⟩ : ∃ b off, a = some ⟨b, off, none⟩ ∧ ∀ i r, rs[i]? = some r → W.cell? ⟨b, off + i * 3, none⟩ = some (I r.id) ∧ (∃ va, W.cell? ⟨b, off + i * 3 + 1, none⟩ = some va ∧ Arcs W va r.arcs) ∧ W.cell? ⟨b, off + i * 3 + 2, none⟩ = some (I r.code) ∧ R64 r.id := by
        rcases H1.out with rfl | q
        · simp at hrk
        · exact q
      obtain ⟨c1, ⟨va, c2, h3⟩, c3, h4⟩ := h2 k r hrk
      have hbl := cell_lt c1
      obtain ⟨aa, ac, rfl⟩ : ∃ aa ac, va = .slice aa r.arcs.length ac := by obtain ⟨q1, q2, q3, -⟩ := h3.at_; exact ⟨q1, q2, q3⟩
      have HC : Hid (∀ V, G W V → V.cell? ⟨b, off + k * 3, none⟩ = some (I r.id) ∧ V.cell? ⟨b, off + k * 3 + 1, none⟩ = some (.slice aa r.arcs.length ac)) := fun V gV => ⟨(gV.cell hbl).trans c1, (gV.cell hbl).trans c2⟩
      obtain ⟨d1, d2⟩ := HC.out wr hg
      have HA := hide h3
      have HLR := hide (HAL.out r (List.mem_of_getElem? hrk))
      have hb4 := HBIG.out k hk
      have hb5 := HBIG.out (k + 1) hkl
      have htk : (from_ :: (rs.take (k + 1)).flatMap idsN) = (from_ :: (rs.take k).flatMap idsN) ++ idsN r := by rw [List.take_add_one, hrk]; simp
      have HTK := hide htk
      rw [htk] at hb5
      have HB5 := hide hb5
      obtain ⟨l0, hl0⟩ : ∃ l0, l0 = from_ :: (rs.take k).flatMap idsN := ⟨_, rfl⟩
      rw [← hl0] at hrow HTK HB5 hb4
      have HL0 := hide hl0
      have HKL := hide hkl
      obtain ⟨oa, oc, rfl⟩ := Rw.form hrow
      have gA : G wr (wr.alloc (.cells #[I r.id] 2)) := (G.refl wr).alloc _
      obtain ⟨v', w', q1, q2, q3, q4⟩ := app_I (wr.alloc (.cells #[I r.id] 2)) W.heap.size (.slice oa (l0).length oc) (l0).length ((l0).map I) (Rw.G hrow gA) ⟨wr.heap.size, 0, none⟩ 1 1 [I r.id] rfl (fun o u ho => by rw [Addr.add_mid, Nat.zero_add, (Blk.new wr [I r.id] 2).cell]; exact ho) (fun u hu => by simp at hu; subst hu; rfl) (by omega) (Nat.le_trans hg.size gA.size)
      have HRUN := hide q1
      have HROW : Hid (Rw W.heap.size 2 1 w' v' (l0 ++ [r.id]).length ((l0 ++ [r.id]).map I)) := by
        show Rw _ _ _ _ _ _ _
        rw [List.length_append, List.map_append]
        exact q2
      have HG4 : Hid (G W w') := ((hg.trans gA).chg (F := fun _ => False)).more q3 (fun i hi e => by have := (Rw.own (Rw.G hrow gA) e).1; omega) |>.G (fun _ q => q.elim)
      obtain ⟨va, vc, rfl⟩ := Rw.form HROW.out
      clear c1 c2 c3 h2 h3 h4 hbl hrk hkl hrow hg q1 q2 q3 q4 gA htk hl0 hb4 hb5 hk
      go_wp2_with (first | (at_builtin; refine wpList_append_run rfl _ _ 26 rfl (.slice oa l0.length oc) (.slice (some ⟨wr.heap.size, 0, none⟩) 1 1) rfl rfl HRUN.out ?_) | fail)
      go_loopw [5, 7] (fun ov jv wi => ∃ j : Nat, jv = I j ∧ j ≤ r.arcs.length ∧ Rw W.heap.size 2 1 wi ov ((l0 ++ [r.id]) ++ (r.arcs.take j).map (·.2.1)).length (((l0 ++ [r.id]) ++ (r.arcs.take j).map (·.2.1)).map I) ∧ G W wi) (fun _ jv _ => r.arcs.length - (RowKit.intOf jv).toNat)
      case atStart => exact ⟨0, rfl, Nat.zero_le _, by simpa using HROW.out, HG4.out⟩
      case round =>
        obtain ⟨j, rfl, hj, hrow, hg⟩ := hrel
        obtain ⟨d1, d2⟩ := HC.out _ hg
        by_cases hjl : j < r.arcs.length
        · have hjI : (j : Int) < r.arcs.length := by omega
          obtain ⟨⟨xe, xt, xw⟩, hx⟩ : ∃ x, r.arcs[j]? = some x := ⟨_, List.getElem?_eq_getElem hjl⟩
          obtain ⟨-, ab, aoff, rfl, y1, y2, y3, hab⟩ := (HA.out.G hg).get hx
          simp only at y1 y2 y3
          have htj : (l0 ++ [r.id]) ++ (r.arcs.take (j + 1)).map (·.2.1) = ((l0 ++ [r.id]) ++ (r.arcs.take j).map (·.2.1)) ++ [xt] := by rw [List.take_add_one, hx]; simp
          have HTJ := hide htj
          have hlen : ((l0 ++ [r.id]) ++ (r.arcs.take j).map (·.2.1)).length ≤ 4294967296 := by
            refine Nat.le_trans ?_ HB5.out
            have : (r.arcs.take j).length ≤ r.arcs.length := by rw [List.length_take]; exact Nat.min_le_right _ _
            simp [idsN]
            omega
          obtain ⟨l1, hl1⟩ : ∃ l1, l1 = (l0 ++ [r.id]) ++ (r.arcs.take j).map (·.2.1) := ⟨_, rfl⟩
          rw [← hl1] at hrow HTJ hlen
          have HJL := hide hjl
          obtain ⟨oa, oc, rfl⟩ := Rw.form hrow
          have gA : G wr (wr.alloc (.cells #[I xt] 2)) := (G.refl wr).alloc _
          obtain ⟨v', w', q1, q2, q3, q4⟩ := app_I (wr.alloc (.cells #[I xt] 2)) W.heap.size (.slice oa (l1).length oc) (l1).length ((l1).map I) (Rw.G hrow gA) ⟨wr.heap.size, 0, none⟩ 1 1 [I xt] rfl (fun o u ho => by rw [Addr.add_mid, Nat.zero_add, (Blk.new wr [I xt] 2).cell]; exact ho) (fun u hu => by simp at hu; subst hu; rfl) (by omega) (Nat.le_trans hg.size gA.size)
          have HRUN := hide q1
          have HROW : Hid (Rw W.heap.size 2 1 w' v' (l1 ++ [xt]).length ((l1 ++ [xt]).map I)) := by
            show Rw _ _ _ _ _ _ _
            rw [List.length_append, List.map_append]
            exact q2
          have HG4 : Hid (G W w') := ((hg.trans gA).chg (F := fun _ => False)).more q3 (fun i hi e => by have := (Rw.own (Rw.G hrow gA) e).1; omega) |>.G (fun _ q => q.elim)
          obtain ⟨va, vc, rfl⟩ := Rw.form HROW.out
          have hw : wrap64 ((j : Int) + 1) = (j : Int) + 1 := by have := HLR.out; unfold wrap64; omega
          clear hx hrow hg q1 q2 q3 q4 gA htj hl1 hlen hjl hj
          go_wp2_with (first | (at_builtin; refine wpList_append_run rfl _ _ 26 rfl (.slice oa l1.length oc) (.slice (some ⟨wr.heap.size, 0, none⟩) 1 1) rfl rfl HRUN.out ?_) | fail)
          go_roundw
          case rel =>
            (try rw [hw])
            refine ⟨j + 1, by simp, HJL.out, ?_, HG4.out⟩
            rw [HTJ.out]
            have h := HROW.out
            simp only [List.length_append, List.length_cons, List.length_nil, Nat.zero_add] at h ⊢
            exact h
          case measure => (try rw [hw]); simp only [RowKit.intOf]; exact ms2 HJL.out
        · have hjI : ¬ ((j : Int) < r.arcs.length) := by omega
          obtain rfl : j = r.arcs.length := by omega
          rw [List.take_length] at hrow
          have htl : (l0 ++ [r.id]) ++ r.arcs.map (·.2.1) = from_ :: (rs.take (k + 1)).flatMap idsN := by rw [HTK.out]; simp [idsN]
          rw [htl] at hrow
          have HROW2 := hide hrow
          have HG5 := hide hg
          have hw : wrap64 ((k : Int) + 1) = (k : Int) + 1 := by have := HKL.out; unfold wrap64; omega
          clear hrow hg hjl hj htl
          go_wp2_with fail
          go_roundw
          case rel => (try rw [hw]); exact ⟨k + 1, by simp, HKL.out, HROW2.out, HG5.out⟩
          case measure => (try rw [hw]); simp only [RowKit.intOf]; exact ms2 HKL.out
    · have hkI : ¬ ((k : Int) < rs.length) := by omega
      obtain rfl : k = rs.length := by omega
      rw [List.take_length] at hrow
      obtain ⟨E, hE⟩ : ∃ E, E = from_ :: rs.flatMap idsN := ⟨_, rfl⟩
      rw [← hE] at hrow
      have HE : Hid (E = endsL rs from_) := hE
      obtain ⟨oa, oc, rfl⟩ := Rw.form hrow
      have HROW := hide hrow
      have HG := hide hg
      clear hg hkl hrow hE
      go_wp2_with fail
      go_ret
      rw [← HE.out]
      exact ⟨_, rfl, HROW.out, HG.out⟩
end Go.Proofs.YtcbjcienjolceaaDoor
