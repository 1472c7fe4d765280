/- Graphs: the document's search of a node. -/
import Derived.Test.YtifioikdhfhljaaGreatDoorSh10
namespace Go.Proofs.YtifioikdhfhljaaGreatDoor
open Go.RowKit
attribute [local go_sem] bin_geq
set_option maxRecDepth 100000 in
set_option maxHeartbeats 4000000 in
theorem nodeAt_any (ns : List Nd) (nv ev : Value) (id : Int) (W : World) (h : Row relN W nv ns) (he : ∃ qa qn qc, ev = .slice qa qn qc) (hs : (ns.map fun y => y.id).Pairwise (· < ·)) (hl : ns.length ≤ 1048576) :
    Calls Tryz.prog 40 #[.agg #[nv, ev], I id] W fun e W' => (∃ r : Int, e = .returned (I r) ∧ decide (r < 0) = !decide (id ∈ ns.map fun y => y.id)) ∧ G W W' := by
  obtain ⟨pa, pc, rfl⟩ := h.form
  obtain ⟨qa, qn, qc, rfl⟩ := he
  obtain ⟨n, hn⟩ : ∃ n, n = ns.length := ⟨_, rfl⟩
  rw [← hn] at h ⊢
  obtain ⟨w2, hw2⟩ : ∃ w2, w2 = W.alloc (.cells #[.slice pa n pc, .slice qa qn qc] 25) := ⟨_, rfl⟩
  obtain ⟨B1, hB1⟩ : ∃ B1, B1 = W.heap.size := ⟨_, rfl⟩
  have hgw : G W w2 := by rw [hw2]; exact (G.refl W).alloc _
  have hb1 : Blk w2 B1 25 [.slice pa n pc, .slice qa qn qc] := by rw [hw2, hB1]; exact Blk.new W [.slice pa n pc, .slice qa qn qc] 25
  obtain ⟨bb, hbb⟩ : ∃ bb, bb = decide (id ∈ ns.map fun y => y.id) := ⟨_, rfl⟩
  rw [← hbb]
  have HBB := hide hbb
  have HEW : Hid (W.alloc (.cells #[.slice pa n pc, .slice qa qn qc] 25) = w2) := hw2.symm
  have HE1 : Hid (W.heap.size = B1) := hB1.symm
  have HS := hide (h.G hgw); have HR := hide hs; have HB1 := hide hb1; have HGW := hide hgw
  have HL : Hid (n = ns.length ∧ n ≤ 1048576) := ⟨hn, by omega⟩
  clear h hs hl hn hw2 hB1 hgw hb1 hbb
  go_enter Tryz.func40, Tryz.ntmps40
  go_wp2_with fail
  try rw [HEW.out]
  try rw [HE1.out]
  clear HEW HE1
  go_loopw [5, 6, 7] (fun iv jv _ wr => ∃ i j : Nat, i ≤ j ∧ j ≤ n ∧ iv = I (i : Int) ∧ jv = I (j : Int) ∧ (∀ k y, k < i → (ns.map fun y => y.id)[k]? = some y → y < id) ∧ (∀ k y, j ≤ k → (ns.map fun y => y.id)[k]? = some y → id ≤ y) ∧ wr = w2) (fun iv jv _ _ => (RowKit.intOf jv).toNat - (RowKit.intOf iv).toNat)
  case atStart => exact ⟨0, n, Nat.zero_le _, Nat.le_refl _, rfl, rfl, fun k y hk => by omega, fun k y hk e => by have := (List.getElem?_eq_some_iff.1 e).1; have := HL.out; rw [List.length_map] at *; omega, rfl⟩
  case round =>
    obtain ⟨i, j, hij, hjn, rfl, rfl, h1, h2, hwr⟩ := hrel
    subst wr
    have kb1 := HB1.out.cell
    have hl := HL.out
    by_cases hlt : i < j
    · obtain ⟨m, hm⟩ : ∃ m, m = (i + j) / 2 := ⟨_, rfl⟩
      have hmn : m < ns.length := by omega
      obtain ⟨x, hx⟩ : ∃ x, ns[m]? = some x := ⟨_, List.getElem?_eq_getElem hmn⟩
      obtain ⟨g, o, cp, q⟩ := HS.out.addr (by omega)
      injection q with q1 q2 q3
      subst q1 q3
      obtain ⟨cs, ⟨vp, hcs, hvp⟩, hr1⟩ := HS.out.at hx
      subst hcs
      have x1 : w2.cell? ⟨g, o + m * 3, none⟩ = some (I x.id) := by have := rangeAt_G hr1 (G.refl w2) 0 _ rfl; simpa using this
      have hxm : (ns.map fun y => y.id)[m]? = some x.id := by rw [List.getElem?_map, hx]; rfl
      have i1 : (i : Int) < (j : Int) := by omega
      have i2 : (m : Int) < (n : Int) := by omega
      have hw1 : wrap64 ((i : Int) + (j : Int)) = ((i + j : Nat) : Int) := by unfold wrap64; omega
      have hw2 : Int.tdiv ((i + j : Nat) : Int) 2 = (m : Int) := by rw [Int.tdiv_eq_ediv_of_nonneg (by omega)]; omega
      have hw3 : wrap64 (m : Int) = (m : Int) := by unfold wrap64; omega
      have hw4 : wrap64 ((m : Int) + 1) = ((m + 1 : Nat) : Int) := by unfold wrap64; omega
      have hv3 : IntKind.i64.wrap (m : Int) = (m : Int) := by rw [Go.PlainAid.i64_is]; exact hw3
      have H9 := hide (And.intro hij (And.intro hjn (And.intro h1 (And.intro h2 (And.intro hm (And.intro hxm hlt))))))
      generalize (i + j : Nat) = ij at hw1 hw2
      by_cases hc : x.id < id
      · clear hij hjn h1 h2 hl hlt hm hmn hx q2 hvp hr1 hxm
        go_wp2_with fail
        obtain ⟨hij, hjn, h1, h2, hm, hxm, hlt⟩ := H9.out
        refine ⟨⟨m + 1, j, by omega, hjn, ?_, rfl, fun k y hk e => ?_, h2, by first | rfl | trivial⟩, ?_⟩
        · first | rfl | (rw [hw4])
        · rcases Nat.lt_or_ge k m with q | q
          · have := rises_at HR.out e hxm q; omega
          · obtain rfl : k = m := by omega
            rw [hxm] at e; cases e; exact hc
        · have hmeas : j - (m + 1) < j - i := by omega
          (try rw [hw4])
          simp only [RowKit.intOf, Int.toNat_natCast]
          exact hmeas
      · clear hij hjn h1 h2 hl hlt hm hmn hx q2 hvp hr1 hxm
        go_wp2_with fail
        obtain ⟨hij, hjn, h1, h2, hm, hxm, hlt⟩ := H9.out
        refine ⟨⟨i, m, by omega, by omega, rfl, rfl, h1, fun k y hk e => ?_, by first | rfl | trivial⟩, ?_⟩
        · rcases Nat.lt_or_ge m k with q | q
          · have := rises_at HR.out hxm e q; omega
          · obtain rfl : k = m := by omega
            rw [hxm] at e; cases e; omega
        · have hmeas : m - i < j - i := by omega
          simp only [RowKit.intOf, Int.toNat_natCast]
          exact hmeas
    · obtain rfl : i = j := by omega
      have i1 : ¬ (i : Int) < (i : Int) := by omega
      have hmem : ∀ y, id ∈ (ns.map fun y => y.id) → (ns.map fun y => y.id)[i]? = some y → y = id := fun y hid hy => by
        obtain ⟨k, hk, e⟩ := List.getElem_of_mem hid
        have e' : (ns.map fun y => y.id)[k]? = some id := by rw [List.getElem?_eq_getElem hk, e]
        rcases Nat.lt_trichotomy k i with q | q | q
        · have := h1 k id q e'; omega
        · subst q; rw [e'] at hy; cases hy; rfl
        · have := rises_at HR.out hy e' q
          have := h2 i y (Nat.le_refl _) hy; omega
      by_cases hin : i < n
      · obtain ⟨x, hx⟩ : ∃ x, ns[i]? = some x := ⟨_, List.getElem?_eq_getElem (by omega)⟩
        obtain ⟨g, o, cp, q⟩ := HS.out.addr (by omega)
        injection q with q1 q2 q3
        subst q1 q3
        obtain ⟨cs, ⟨vp, hcs, hvp⟩, hr1⟩ := HS.out.at hx
        subst hcs
        have x1 : w2.cell? ⟨g, o + i * 3, none⟩ = some (I x.id) := by have := rangeAt_G hr1 (G.refl w2) 0 _ rfl; simpa using this
        have hxm : (ns.map fun y => y.id)[i]? = some x.id := by rw [List.getElem?_map, hx]; rfl
        have i2 : (i : Int) < (n : Int) := by omega
        by_cases hc : x.id = id
        · have HF : Hid (decide ((i : Int) < 0) = !bb) := by
            rw [Hid, HBB.out, decide_eq_false (by omega), decide_eq_true (hc ▸ List.mem_of_getElem? hxm)]; rfl
          have hc' : (x.id == id) = true := by simp [hc]
          clear hij hjn h1 h2 hl hlt hmem hx q2 hvp hr1 hxm hin
          go_wp2_with fail
          go_ret
          exact ⟨⟨i, rfl, HF.out⟩, HGW.out⟩
        · have HF : Hid (decide ((-1 : Int) < 0) = !bb) := by
            rw [Hid, HBB.out, decide_eq_true (by decide), decide_eq_false (fun q => hc (hmem _ q hxm))]; rfl
          have hc' : (x.id == id) = false := by simp [hc]
          clear hij hjn h1 h2 hl hlt hmem hx q2 hvp hr1 hxm hin
          go_wp2_with fail
          go_ret
          exact ⟨⟨-1, rfl, HF.out⟩, HGW.out⟩
      · have i2 : ¬ (i : Int) < (n : Int) := by omega
        have HF : Hid (decide ((-1 : Int) < 0) = !bb) := by
          rw [Hid, HBB.out, decide_eq_true (by decide), decide_eq_false (fun q => ?_)]
          · rfl
          · obtain ⟨k, hk, e⟩ := List.getElem_of_mem q
            rw [List.length_map] at hk
            have e' : (ns.map fun y => y.id)[k]? = some id := by rw [List.getElem?_eq_getElem (by rw [List.length_map]; exact hk), e]
            have := h1 k id (by omega) e'; omega
        clear hij hjn h1 h2 hl hlt hmem hin
        go_wp2_with fail
        go_ret
        exact ⟨⟨-1, rfl, HF.out⟩, HGW.out⟩
end Go.Proofs.YtifioikdhfhljaaGreatDoor
