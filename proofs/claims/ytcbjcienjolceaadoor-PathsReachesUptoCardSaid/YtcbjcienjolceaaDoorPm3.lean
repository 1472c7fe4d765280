/- Paths: the document's Reach. -/
import Derived.Test.YtcbjcienjolceaaDoorPk5
import Derived.Test.YtcbjcienjolceaaDoorPl3
import Derived.Test.YtcbjcienjolceaaDoorPm4
namespace Go.Proofs.YtcbjcienjolceaaDoor
open Go.RowKit

set_option maxRecDepth 100000 in
set_option maxHeartbeats 2000000 in
theorem rreach_neg (W : World) (rv : Value) (tail : Bool) (from_ most : Int) (hm : most < 0) :
    Calls Tryd.prog 19 #[.agg #[rv, .bool tail], I from_, I most] W fun e W' => e = .returned (.tuple #[.slice none 0 0, I 1, .slice none 0 0]) ∧ G W W' := by
  have hmd : decide (most < 0) = true := decide_eq_true hm
  have HG : Hid (G W (W.alloc (.cells #[rv, .bool tail] 25))) := (G.refl W).alloc _
  go_enter Tryd.func19, Tryd.ntmps19
  go_wp2_with fail
  go_ret3
  first | exact ⟨rfl, HG.out⟩ | exact ⟨rfl, G.refl _⟩
set_option maxRecDepth 100000 in
set_option maxHeartbeats 2000000 in
theorem rreach_any (W : World) (rv : Value) (rs : List Nr) (tail : Bool) (from_ most : Int) (hN : Nrs W rv rs) (hrl : rs.length ≤ 1048576) (hal : ∀ id, (netOf rs tail id).1.length ≤ 1048576) (hf : R64 from_) (hm0 : 0 ≤ most) (R : Rs) (hR : R = srch true rs tail none most 4097 [] [(from_, 0)] []) :
    Calls Tryd.prog 19 #[.agg #[rv, .bool tail], I from_, I most] W fun e W' => ∃ ov av, e = .returned (.tuple #[ov, I R.code, av]) ∧ (R.code = 0 → Rw W.heap.size 2 1 W' ov R.st.length ((R.st.map (·.1)).map I)) ∧ (R.code ≠ 0 → ov = .slice none 0 0) ∧ Rw W.heap.size 2 1 W' av R.asked.length (R.asked.map I) ∧ G W W' := by
  obtain ⟨rva, rvc, hrv⟩ : ∃ a c, rv = .slice a rs.length c := by obtain ⟨a, c, e, _⟩ := hN; exact ⟨a, c, e⟩
  have g1 : G W (W.alloc (.cells #[rv, .bool tail] 25)) := (G.refl W).alloc _
  have hse := search_reach _ rv rs tail from_ most true (hN.G g1) hrl hal hf hm0 R hR
  have HG1 := hide g1
  have hs4 := srch_stlen true rs tail none most 4097 [] [(from_, 0)] []
  rw [← hR] at hs4
  simp only [List.length_nil, Nat.zero_add] at hs4
  have HS4 := hide hs4
  obtain ⟨code, hcd⟩ : ∃ code, code = R.code := ⟨_, rfl⟩
  obtain ⟨hit, hht⟩ : ∃ hit, hit = R.hit := ⟨_, rfl⟩
  rw [← hcd]
  rw [← hcd, ← hht] at hse
  have HSE := hide hse
  have hmn : ¬ (most < 0) := by omega
  have hmd : decide (most < 0) = false := decide_eq_false hmn
  subst hrv
  clear hN hal hR g1 hse hs4 hht hcd
  go_enter Tryd.func19, Tryd.ntmps19
  go_wp2_with fail
  refine HSE.out.mono ?_
  rintro e w2 ⟨sv, av, rfl, hsr, har, hg2⟩
  obtain ⟨sva, svc, rfl⟩ := Rw.form hsr
  obtain ⟨ava, avc, rfl⟩ := Rw.form har
  have hG3 : G w2 (w2.alloc (.cells #[.slice sva R.st.length svc, .slice ava R.asked.length avc, I code, .bool hit] 86)) := (G.refl w2).alloc _
  have hb3 := Blk.new w2 [.slice sva R.st.length svc, .slice ava R.asked.length avc, I code, .bool hit] 86
  have HAR := hide ((Rw.base har HG1.out.size).G hG3)
  have HGG := hide ((HG1.out.trans hg2).trans hG3)
  have HSR := hide (Rw.G hsr hG3)
  have HB3 := hide hb3
  clear hsr har hg2 HSE hb3
  by_cases hc0 : code = 0
  · subst hc0
    go_wp2_with fail
    generalize hw3 : w2.alloc (.cells #[.slice sva R.st.length svc, .slice ava R.asked.length avc, I 0, .bool hit] 86) = w3 at *
    obtain ⟨b3, hb3e⟩ : ∃ b3, b3 = w2.heap.size := ⟨_, rfl⟩
    rw [← hb3e] at HB3 ⊢
    clear hw3 hb3e hG3
    go_loopw [10, 11] (fun ov iv wr => ∃ k : Nat, iv = I k ∧ k ≤ R.st.length ∧ Rw w3.heap.size 2 1 wr ov k (((R.st.take k).map (·.1)).map I) ∧ G w3 wr) (fun _ iv _ => R.st.length - (RowKit.intOf iv).toNat)
    case atStart => exact ⟨0, rfl, Nat.zero_le _, Rw.nil _ _ _ _, G.refl _⟩
    case round =>
      obtain ⟨k, rfl, hk, hrow, hg⟩ := hrel
      obtain ⟨oa, oc, rfl⟩ := Rw.form hrow
      have hcb := (HB3.out.G hg).cell
      by_cases hkl : k < R.st.length
      · have hkI : (k : Int) < R.st.length := by omega
        obtain ⟨x, hx⟩ : ∃ x, R.st[k]? = some x := ⟨_, List.getElem?_eq_getElem hkl⟩
        obtain ⟨g, cap, he, hgl, x1, x2⟩ := sr_at (Rw.G HSR.out hg) hx
        obtain ⟨rfl, rfl⟩ : sva = some ⟨g, 0, none⟩ ∧ svc = cap := by simp at he; exact he
        have hs4 := HS4.out
        have gA : G wr (wr.alloc (.cells #[I x.1] 2)) := (G.refl wr).alloc _
        obtain ⟨v', w', q1, q2, q3, q4⟩ := app_I (wr.alloc (.cells #[I x.1] 2)) w3.heap.size (.slice oa k oc) k (((R.st.take k).map (·.1)).map I) (Rw.G hrow gA) ⟨wr.heap.size, 0, none⟩ 1 1 [I x.1] rfl (fun j u hj => by rw [Addr.add_mid, Nat.zero_add, (Blk.new wr [I x.1] 2).cell]; exact hj) (fun u hu => by simp at hu; subst hu; rfl) (by omega) (Nat.le_trans hg.size gA.size)
        have HRUN := hide q1
        have HROW : Hid (Rw w3.heap.size 2 1 w' v' (k + 1) (((R.st.take (k + 1)).map (·.1)).map I)) := by
          show Rw _ _ _ _ _ _ _
          rw [List.take_add_one, hx]
          simpa using q2
        have HG4 : Hid (G w3 w') := ((hg.trans gA).chg (F := fun _ => False)).more q3 (fun i hi e => by have := ((Rw.G hrow gA).own e).1; omega) |>.G (fun _ q => q.elim)
        obtain ⟨va, vc, rfl⟩ := Rw.form q2
        have hw : wrap64 ((k : Int) + 1) = (k : Int) + 1 := by unfold wrap64; omega
        have HKL := hide hkl
        clear he hx hkl hrow hg q1 q2 q3 q4 gA hs4
        go_wp2_with (first | (at_builtin; refine wpList_append_run rfl _ _ 26 rfl (.slice oa k oc) (.slice (some ⟨wr.heap.size, 0, none⟩) 1 1) rfl rfl HRUN.out ?_) | fail)
        go_roundw
        case rel => (try rw [hw]); exact ⟨k + 1, by simp, HKL.out, HROW.out, HG4.out⟩
        case measure => (try rw [hw]); simp only [RowKit.intOf]; exact ms2 HKL.out
      · have hkI : ¬ ((k : Int) < R.st.length) := by omega
        obtain rfl : k = R.st.length := by omega
        have HROW : Hid (Rw W.heap.size 2 1 wr (.slice oa R.st.length oc) R.st.length ((R.st.map (·.1)).map I)) := by
          show Rw _ _ _ _ _ _ _
          have := Rw.base hrow HGG.out.size
          rwa [List.take_length] at this
        have HA2 := hide (Rw.G HAR.out hg)
        have HG5 := hide (HGG.out.trans hg)
        clear hrow hg hkl
        go_wp2_with fail
        try (go_quiet (fail); go_wp2_with fail)
        refine bodyPost_ret (v := .tuple #[.slice oa R.st.length oc, I 0, .slice ava R.asked.length avc]) (by simp [results, Tryd.results19, go_sem]) rfl ⟨.slice oa R.st.length oc, .slice ava R.asked.length avc, rfl, by first | exact ⟨fun _ => Rw.G HROW.out (g_drewN _ _), fun q => absurd rfl q, Rw.G HA2.out (g_drewN _ _), HG5.out.trans (g_drewN _ _)⟩ | (refine ⟨?_, Rw.G HA2.out (g_drewN _ _), HG5.out.trans (g_drewN _ _)⟩; have h := Rw.G HROW.out (g_drewN wr nq); rw [List.map_map] at h; exact h)⟩
  · have hcb : (code == 0) = false := beq_eq_false_iff_ne.2 hc0
    have HC0 := hide hc0
    clear hc0 hG3
    go_wp2_with fail
    try (go_quiet (fail); go_wp2_with fail)
    refine bodyPost_ret (v := .tuple #[.slice none 0 0, I code, .slice ava R.asked.length avc]) (by simp [results, Tryd.results19, go_sem]) rfl ⟨.slice none 0 0, .slice ava R.asked.length avc, rfl, fun q => absurd q HC0.out, fun _ => rfl, HAR.out.G (g_drewN _ _), HGG.out.trans (g_drewN _ _)⟩
end Go.Proofs.YtcbjcienjolceaaDoor
