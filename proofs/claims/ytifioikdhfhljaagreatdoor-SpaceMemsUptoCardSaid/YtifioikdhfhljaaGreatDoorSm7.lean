/- Graphs: what the document answers. -/
import Derived.Test.YtifioikdhfhljaaGreatDoorSm5
import Derived.Test.YtifioikdhfhljaaGreatDoorSh18
namespace Go.Proofs.YtifioikdhfhljaaGreatDoor
open Go.RowKit
attribute [local go_sem] bin_geq

/-- Where an id stands. -/
def AtP (l : List Int) (id r : Int) : Prop := (id ∉ l ∧ r = -1) ∨ ∃ i : Nat, l[i]? = some id ∧ r = i
set_option maxRecDepth 100000 in
set_option maxHeartbeats 4000000 in
theorem nodeIx_any (ns : List Nd) (nv ev : Value) (id : Int) (W : World) (h : Row relN W nv ns) (he : ∃ qa qn qc, ev = .slice qa qn qc) (hs : (ns.map fun y => y.id).Pairwise (· < ·)) (hl : ns.length ≤ 1048576) :
    Calls Tryz.prog 40 #[.agg #[nv, ev], I id] W fun e W' => (∃ r : Int, e = .returned (I r) ∧ AtP (ns.map fun y => y.id) id r) ∧ G W W' := by
  obtain ⟨pa, pc, rfl⟩ := h.form
  obtain ⟨qa, qn, qc, rfl⟩ := he
  obtain ⟨n, hn⟩ : ∃ n, n = ns.length := ⟨_, rfl⟩
  rw [← hn] at h ⊢
  obtain ⟨w2, hw2⟩ : ∃ w2, w2 = W.alloc (.cells #[.slice pa n pc, .slice qa qn qc] 25) := ⟨_, rfl⟩
  obtain ⟨B1, hB1⟩ : ∃ B1, B1 = W.heap.size := ⟨_, rfl⟩
  have hgw : G W w2 := by rw [hw2]; exact (G.refl W).alloc _
  have hb1 : Blk w2 B1 25 [.slice pa n pc, .slice qa qn qc] := by rw [hw2, hB1]; exact Blk.new W [.slice pa n pc, .slice qa qn qc] 25
  have HEW : Hid (W.alloc (.cells #[.slice pa n pc, .slice qa qn qc] 25) = w2) := hw2.symm
  have HE1 : Hid (W.heap.size = B1) := hB1.symm
  have HS := hide (h.G hgw); have HR := hide hs; have HB1 := hide hb1; have HGW := hide hgw
  have HL : Hid (n = ns.length ∧ n ≤ 1048576) := ⟨hn, by omega⟩
  clear h hs hl hn hw2 hB1 hgw hb1
  go_enter Tryz.func40, Tryz.ntmps40
  go_wp2_with fail
  try rw [HEW.out]
  try rw [HE1.out]
  clear HEW HE1
  go_loopw [5, 6, 7] (fun iv jv _ wr => ∃ i j : Nat, i ≤ j ∧ j ≤ n ∧ iv = I (i : Int) ∧ jv = I (j : Int) ∧ (∀ k y, k < i → (ns.map fun y => y.id)[k]? = some y → y < id) ∧ (∀ k y, j ≤ k → (ns.map fun y => y.id)[k]? = some y → id ≤ y) ∧ wr = w2) (fun iv jv _ _ => (RowKit.intOf jv).toNat - (RowKit.intOf iv).toNat)
  case atStart => exact ⟨0, n, Nat.zero_le _, Nat.le_refl _, rfl, rfl, fun k y hk => by omega, fun k y hk e => by have := (List.getElem?_eq_some_iff.1 e).1; have := HL.out; rw [List.length_map] at *; omega, rfl⟩
  case round =>
    obtain ⟨i, j, hij, hjn, rfl, rfl, h1, h2, hwr⟩ := hrel
    subst wr
    have kb1 := HB1.out.cell
    have hl := HL.out
    by_cases hlt : i < j
    · obtain ⟨m, hm⟩ : ∃ m, m = (i + j) / 2 := ⟨_, rfl⟩
      have hmn : m < ns.length := by omega
      obtain ⟨x, hx⟩ : ∃ x, ns[m]? = some x := ⟨_, List.getElem?_eq_getElem hmn⟩
      obtain ⟨g, o, cp, q⟩ := HS.out.addr (by omega)
      injection q with q1 q2 q3
      subst q1 q3
      obtain ⟨cs, ⟨vp, hcs, hvp⟩, hr1⟩ := HS.out.at hx
      subst hcs
      have x1 : w2.cell? ⟨g, o + m * 3, none⟩ = some (I x.id) := by have := rangeAt_G hr1 (G.refl w2) 0 _ rfl; simpa using this
      have hxm : (ns.map fun y => y.id)[m]? = some x.id := by rw [List.getElem?_map, hx]; rfl
      have i1 : (i : Int) < (j : Int) := by omega
      have i2 : (m : Int) < (n : Int) := by omega
      have hw1 : wrap64 ((i : Int) + (j : Int)) = ((i + j : Nat) : Int) := by unfold wrap64; omega
      have hw2 : Int.tdiv ((i + j : Nat) : Int) 2 = (m : Int) := by rw [Int.tdiv_eq_ediv_of_nonneg (by omega)]; omega
      have hw3 : wrap64 (m : Int) = (m : Int) := by unfold wrap64; omega
      have hw4 : wrap64 ((m : Int) + 1) = ((m + 1 : Nat) : Int) := by unfold wrap64; omega
      have hv3 : IntKind.i64.wrap (m : Int) = (m : Int) := by rw [Go.PlainAid.i64_is]; exact hw3
      have H9 := hide (And.intro hij (And.intro hjn (And.intro h1 (And.intro h2 (And.intro hm (And.intro hxm hlt))))))
      generalize (i + j : Nat) = ij at hw1 hw2
      by_cases hc : x.id < id
      · clear hij hjn h1 h2 hl hlt hm hmn hx q2 hvp hr1 hxm
        go_wp2_with fail
        obtain ⟨hij, hjn, h1, h2, hm, hxm, hlt⟩ := H9.out
        refine ⟨⟨m + 1, j, by omega, hjn, ?_, rfl, fun k y hk e => ?_, h2, by first | rfl | trivial⟩, ?_⟩
        · first | rfl | (rw [hw4])
        · rcases Nat.lt_or_ge k m with q | q
          · have := rises_at HR.out e hxm q; omega
          · obtain rfl : k = m := by omega
            rw [hxm] at e; cases e; exact hc
        · have hmeas : j - (m + 1) < j - i := by omega
          (try rw [hw4])
          simp only [RowKit.intOf, Int.toNat_natCast]
          exact hmeas
      · clear hij hjn h1 h2 hl hlt hm hmn hx q2 hvp hr1 hxm
        go_wp2_with fail
        obtain ⟨hij, hjn, h1, h2, hm, hxm, hlt⟩ := H9.out
        refine ⟨⟨i, m, by omega, by omega, rfl, rfl, h1, fun k y hk e => ?_, by first | rfl | trivial⟩, ?_⟩
        · rcases Nat.lt_or_ge m k with q | q
          · have := rises_at HR.out hxm e q; omega
          · obtain rfl : k = m := by omega
            rw [hxm] at e; cases e; omega
        · have hmeas : m - i < j - i := by omega
          simp only [RowKit.intOf, Int.toNat_natCast]
          exact hmeas
    · obtain rfl : i = j := by omega
      have i1 : ¬ (i : Int) < (i : Int) := by omega
      have hmem : ∀ y, id ∈ (ns.map fun y => y.id) → (ns.map fun y => y.id)[i]? = some y → y = id := fun y hid hy => by
        obtain ⟨k, hk, e⟩ := List.getElem_of_mem hid
        have e' : (ns.map fun y => y.id)[k]? = some id := by rw [List.getElem?_eq_getElem hk, e]
        rcases Nat.lt_trichotomy k i with q | q | q
        · have := h1 k id q e'; omega
        · subst q; rw [e'] at hy; cases hy; rfl
        · have := rises_at HR.out hy e' q
          have := h2 i y (Nat.le_refl _) hy; omega
      by_cases hin : i < n
      · obtain ⟨x, hx⟩ : ∃ x, ns[i]? = some x := ⟨_, List.getElem?_eq_getElem (by omega)⟩
        obtain ⟨g, o, cp, q⟩ := HS.out.addr (by omega)
        injection q with q1 q2 q3
        subst q1 q3
        obtain ⟨cs, ⟨vp, hcs, hvp⟩, hr1⟩ := HS.out.at hx
        subst hcs
        have x1 : w2.cell? ⟨g, o + i * 3, none⟩ = some (I x.id) := by have := rangeAt_G hr1 (G.refl w2) 0 _ rfl; simpa using this
        have hxm : (ns.map fun y => y.id)[i]? = some x.id := by rw [List.getElem?_map, hx]; rfl
        have i2 : (i : Int) < (n : Int) := by omega
        by_cases hc : x.id = id
        · have HF : Hid (AtP (ns.map fun y => y.id) id (i : Int)) := .inr ⟨i, by rw [hxm, hc], rfl⟩
          have hc' : (x.id == id) = true := by simp [hc]
          clear hij hjn h1 h2 hl hlt hmem hx q2 hvp hr1 hxm hin
          go_wp2_with fail
          go_ret
          exact ⟨⟨i, rfl, HF.out⟩, HGW.out⟩
        · have HF : Hid (AtP (ns.map fun y => y.id) id (-1)) := .inl ⟨fun q => hc (hmem _ q hxm), rfl⟩
          have hc' : (x.id == id) = false := by simp [hc]
          clear hij hjn h1 h2 hl hlt hmem hx q2 hvp hr1 hxm hin
          go_wp2_with fail
          go_ret
          exact ⟨⟨-1, rfl, HF.out⟩, HGW.out⟩
      · have i2 : ¬ (i : Int) < (n : Int) := by omega
        have HF : Hid (AtP (ns.map fun y => y.id) id (-1)) := by
          refine .inl ⟨fun q => ?_, rfl⟩
          · obtain ⟨k, hk, e⟩ := List.getElem_of_mem q
            rw [List.length_map] at hk
            have e' : (ns.map fun y => y.id)[k]? = some id := by rw [List.getElem?_eq_getElem (by rw [List.length_map]; exact hk), e]
            have := h1 k id (by omega) e'; omega
        clear hij hjn h1 h2 hl hlt hmem hin
        go_wp2_with fail
        go_ret
        exact ⟨⟨-1, rfl, HF.out⟩, HGW.out⟩
set_option maxRecDepth 100000 in
set_option maxHeartbeats 4000000 in
theorem edgeIx_any (ns : List Ed) (ev nv : Value) (id : Int) (W : World) (h : Row relE W nv ns) (he : ∃ qa qn qc, ev = .slice qa qn qc) (hs : (ns.map fun y => y.id).Pairwise (· < ·)) (hl : ns.length ≤ 1048576) :
    Calls Tryz.prog 58 #[.agg #[ev, nv], I id] W fun e W' => (∃ r : Int, e = .returned (I r) ∧ AtP (ns.map fun y => y.id) id r) ∧ G W W' := by
  obtain ⟨pa, pc, rfl⟩ := h.form
  obtain ⟨qa, qn, qc, rfl⟩ := he
  obtain ⟨n, hn⟩ : ∃ n, n = ns.length := ⟨_, rfl⟩
  rw [← hn] at h ⊢
  obtain ⟨w2, hw2⟩ : ∃ w2, w2 = W.alloc (.cells #[.slice qa qn qc, .slice pa n pc] 25) := ⟨_, rfl⟩
  obtain ⟨B1, hB1⟩ : ∃ B1, B1 = W.heap.size := ⟨_, rfl⟩
  have hgw : G W w2 := by rw [hw2]; exact (G.refl W).alloc _
  have hb1 : Blk w2 B1 25 [.slice qa qn qc, .slice pa n pc] := by rw [hw2, hB1]; exact Blk.new W [.slice qa qn qc, .slice pa n pc] 25
  have HEW : Hid (W.alloc (.cells #[.slice qa qn qc, .slice pa n pc] 25) = w2) := hw2.symm
  have HE1 : Hid (W.heap.size = B1) := hB1.symm
  have HS := hide (h.G hgw); have HR := hide hs; have HB1 := hide hb1; have HGW := hide hgw
  have HL : Hid (n = ns.length ∧ n ≤ 1048576) := ⟨hn, by omega⟩
  clear h hs hl hn hw2 hB1 hgw hb1
  go_enter Tryz.func58, Tryz.ntmps58
  go_wp2_with fail
  try rw [HEW.out]
  try rw [HE1.out]
  clear HEW HE1
  go_loopw [5, 6, 7] (fun iv jv _ wr => ∃ i j : Nat, i ≤ j ∧ j ≤ n ∧ iv = I (i : Int) ∧ jv = I (j : Int) ∧ (∀ k y, k < i → (ns.map fun y => y.id)[k]? = some y → y < id) ∧ (∀ k y, j ≤ k → (ns.map fun y => y.id)[k]? = some y → id ≤ y) ∧ wr = w2) (fun iv jv _ _ => (RowKit.intOf jv).toNat - (RowKit.intOf iv).toNat)
  case atStart => exact ⟨0, n, Nat.zero_le _, Nat.le_refl _, rfl, rfl, fun k y hk => by omega, fun k y hk e => by have := (List.getElem?_eq_some_iff.1 e).1; have := HL.out; rw [List.length_map] at *; omega, rfl⟩
  case round =>
    obtain ⟨i, j, hij, hjn, rfl, rfl, h1, h2, hwr⟩ := hrel
    subst wr
    have kb1 := HB1.out.cell
    have hl := HL.out
    by_cases hlt : i < j
    · obtain ⟨m, hm⟩ : ∃ m, m = (i + j) / 2 := ⟨_, rfl⟩
      have hmn : m < ns.length := by omega
      obtain ⟨x, hx⟩ : ∃ x, ns[m]? = some x := ⟨_, List.getElem?_eq_getElem hmn⟩
      obtain ⟨g, o, cp, q⟩ := HS.out.addr (by omega)
      injection q with q1 q2 q3
      subst q1 q3
      obtain ⟨cs, ⟨vp, hcs, hvp⟩, hr1⟩ := HS.out.at hx
      subst hcs
      have x1 : w2.cell? ⟨g, o + m * 5, none⟩ = some (I x.id) := by have := rangeAt_G hr1 (G.refl w2) 0 _ rfl; simpa using this
      have hxm : (ns.map fun y => y.id)[m]? = some x.id := by rw [List.getElem?_map, hx]; rfl
      have i1 : (i : Int) < (j : Int) := by omega
      have i2 : (m : Int) < (n : Int) := by omega
      have hw1 : wrap64 ((i : Int) + (j : Int)) = ((i + j : Nat) : Int) := by unfold wrap64; omega
      have hw2 : Int.tdiv ((i + j : Nat) : Int) 2 = (m : Int) := by rw [Int.tdiv_eq_ediv_of_nonneg (by omega)]; omega
      have hw3 : wrap64 (m : Int) = (m : Int) := by unfold wrap64; omega
      have hw4 : wrap64 ((m : Int) + 1) = ((m + 1 : Nat) : Int) := by unfold wrap64; omega
      have hv3 : IntKind.i64.wrap (m : Int) = (m : Int) := by rw [Go.PlainAid.i64_is]; exact hw3
      have H9 := hide (And.intro hij (And.intro hjn (And.intro h1 (And.intro h2 (And.intro hm (And.intro hxm hlt))))))
      generalize (i + j : Nat) = ij at hw1 hw2
      by_cases hc : x.id < id
      · clear hij hjn h1 h2 hl hlt hm hmn hx q2 hvp hr1 hxm
        go_wp2_with fail
        obtain ⟨hij, hjn, h1, h2, hm, hxm, hlt⟩ := H9.out
        refine ⟨⟨m + 1, j, by omega, hjn, ?_, rfl, fun k y hk e => ?_, h2, by first | rfl | trivial⟩, ?_⟩
        · first | rfl | (rw [hw4])
        · rcases Nat.lt_or_ge k m with q | q
          · have := rises_at HR.out e hxm q; omega
          · obtain rfl : k = m := by omega
            rw [hxm] at e; cases e; exact hc
        · have hmeas : j - (m + 1) < j - i := by omega
          (try rw [hw4])
          simp only [RowKit.intOf, Int.toNat_natCast]
          exact hmeas
      · clear hij hjn h1 h2 hl hlt hm hmn hx q2 hvp hr1 hxm
        go_wp2_with fail
        obtain ⟨hij, hjn, h1, h2, hm, hxm, hlt⟩ := H9.out
        refine ⟨⟨i, m, by omega, by omega, rfl, rfl, h1, fun k y hk e => ?_, by first | rfl | trivial⟩, ?_⟩
        · rcases Nat.lt_or_ge m k with q | q
          · have := rises_at HR.out hxm e q; omega
          · obtain rfl : k = m := by omega
            rw [hxm] at e; cases e; omega
        · have hmeas : m - i < j - i := by omega
          simp only [RowKit.intOf, Int.toNat_natCast]
          exact hmeas
    · obtain rfl : i = j := by omega
      have i1 : ¬ (i : Int) < (i : Int) := by omega
      have hmem : ∀ y, id ∈ (ns.map fun y => y.id) → (ns.map fun y => y.id)[i]? = some y → y = id := fun y hid hy => by
        obtain ⟨k, hk, e⟩ := List.getElem_of_mem hid
        have e' : (ns.map fun y => y.id)[k]? = some id := by rw [List.getElem?_eq_getElem hk, e]
        rcases Nat.lt_trichotomy k i with q | q | q
        · have := h1 k id q e'; omega
        · subst q; rw [e'] at hy; cases hy; rfl
        · have := rises_at HR.out hy e' q
          have := h2 i y (Nat.le_refl _) hy; omega
      by_cases hin : i < n
      · obtain ⟨x, hx⟩ : ∃ x, ns[i]? = some x := ⟨_, List.getElem?_eq_getElem (by omega)⟩
        obtain ⟨g, o, cp, q⟩ := HS.out.addr (by omega)
        injection q with q1 q2 q3
        subst q1 q3
        obtain ⟨cs, ⟨vp, hcs, hvp⟩, hr1⟩ := HS.out.at hx
        subst hcs
        have x1 : w2.cell? ⟨g, o + i * 5, none⟩ = some (I x.id) := by have := rangeAt_G hr1 (G.refl w2) 0 _ rfl; simpa using this
        have hxm : (ns.map fun y => y.id)[i]? = some x.id := by rw [List.getElem?_map, hx]; rfl
        have i2 : (i : Int) < (n : Int) := by omega
        by_cases hc : x.id = id
        · have HF : Hid (AtP (ns.map fun y => y.id) id (i : Int)) := .inr ⟨i, by rw [hxm, hc], rfl⟩
          have hc' : (x.id == id) = true := by simp [hc]
          clear hij hjn h1 h2 hl hlt hmem hx q2 hvp hr1 hxm hin
          go_wp2_with fail
          go_ret
          exact ⟨⟨i, rfl, HF.out⟩, HGW.out⟩
        · have HF : Hid (AtP (ns.map fun y => y.id) id (-1)) := .inl ⟨fun q => hc (hmem _ q hxm), rfl⟩
          have hc' : (x.id == id) = false := by simp [hc]
          clear hij hjn h1 h2 hl hlt hmem hx q2 hvp hr1 hxm hin
          go_wp2_with fail
          go_ret
          exact ⟨⟨-1, rfl, HF.out⟩, HGW.out⟩
      · have i2 : ¬ (i : Int) < (n : Int) := by omega
        have HF : Hid (AtP (ns.map fun y => y.id) id (-1)) := by
          refine .inl ⟨fun q => ?_, rfl⟩
          · obtain ⟨k, hk, e⟩ := List.getElem_of_mem q
            rw [List.length_map] at hk
            have e' : (ns.map fun y => y.id)[k]? = some id := by rw [List.getElem?_eq_getElem (by rw [List.length_map]; exact hk), e]
            have := h1 k id (by omega) e'; omega
        clear hij hjn h1 h2 hl hlt hmem hin
        go_wp2_with fail
        go_ret
        exact ⟨⟨-1, rfl, HF.out⟩, HGW.out⟩
set_option maxRecDepth 100000 in
set_option maxHeartbeats 4000000 in
theorem nodesOf_any (ns : List Nd) (es : List Ed) (nv ev : Value) (label : ByteArray) (W : World) (h : Row relN W nv ns) (he : Row relE W ev es) (hl : ns.length ≤ 1048576 ∧ es.length ≤ 1048576) :
    Calls Tryz.prog 52 #[.agg #[nv, ev], .string label] W fun e W' => AnsI W W' e (nodesA label ns) ∧ G W W' := by
  obtain ⟨pa, pc, rfl⟩ := h.form
  obtain ⟨qa, qc, rfl⟩ := he.form
  obtain ⟨n, hn⟩ : ∃ n, n = ns.length := ⟨_, rfl⟩
  obtain ⟨en, hen⟩ : ∃ en, en = es.length := ⟨_, rfl⟩
  rw [← hn] at h ⊢
  rw [← hen] at he ⊢
  obtain ⟨B1, hB1⟩ : ∃ B1, B1 = W.heap.size := ⟨_, rfl⟩
  obtain ⟨w2, hw2⟩ : ∃ w2, w2 = (W.alloc (.cells #[.slice pa n pc, .slice qa en qc] 25)) := ⟨_, rfl⟩
  have hgw : G W w2 := by rw [hw2]; exact (G.refl W).alloc _
  have hb1 : Blk w2 B1 25 [.slice pa n pc, .slice qa en qc] := by rw [hw2, hB1]; exact Blk.new W [.slice pa n pc, .slice qa en qc] 25
  have HEW : Hid ((W.alloc (.cells #[.slice pa n pc, .slice qa en qc] 25)) = w2) := hw2.symm
  have HE1 : Hid (W.heap.size = B1) := hB1.symm
  have HS := hide (h.G hgw); have HB1 := hide hb1; have HGW := hide hgw
  have HG0 : Hid (G w2 w2) := G.refl _
  have HL : Hid (n = ns.length ∧ n ≤ 1048576) := ⟨hn, by omega⟩
  have KM := hide (fun w : World => rnm_any label w)
  clear h he hl hn hen hw2 hB1 hgw hb1
  have HC : Hid ((nodesA label ns = (73, []) ∧ label.toList.isEmpty = false ∧ nameB label = false) ∨ (nodesA label ns = (0, ((ns.map Nd.ed).filter (viewB label)).map (·.id)) ∧ (label.toList.isEmpty = true ∨ label.toList.isEmpty = false ∧ nameB label = true))) := by
    cases h1 : label.toList.isEmpty with
    | true => exact .inr ⟨by rw [nodesA, h1]; rfl, .inl rfl⟩
    | false =>
      cases h2 : nameB label with
      | true => exact .inr ⟨by rw [nodesA, h1, h2]; rfl, .inr ⟨rfl, rfl⟩⟩
      | false => exact .inl ⟨by rw [nodesA, h1, h2]; rfl, rfl, rfl⟩
  rcases HC.out with ⟨h1, h2, h3⟩ | ⟨h1, h2⟩
  · have HF := hide h1
    rw [h3] at KM
    clear h1 h3
    go_enter Tryz.func52, Tryz.ntmps52
    go_wp2_with fail
    try rw [HEW.out]
    refine (KM.out _).mono ?_
    rintro e w3 ⟨rfl, h9⟩
    subst w3
    go_wp2_with fail
    go_ret2
    exact ⟨by rw [HF.out]; exact AnsI.bad 73, HGW.out⟩
  · have HANS := hide h1
    clear h1 HC
    rcases h2 with h2 | ⟨h2, h3⟩
    · go_enter Tryz.func52, Tryz.ntmps52
      go_wp2_with fail
      try rw [HEW.out]
      try rw [HE1.out]
      clear HEW HE1 h2
      go_loopw [7, 6] (fun iv ov wr => ∃ (i : Nat) (ra : Option Addr) (rn rc : Nat), iv = I i ∧ i ≤ ns.length ∧ ov = .slice ra rn rc ∧ Sw eI 2 wr (.slice ra rn rc) ((((ns.take i).map Nd.ed).filter (viewB label)).map (·.id)) ∧ Fresh w2 (.slice ra rn rc) ∧ G w2 wr) (fun iv _ _ => ns.length - (RowKit.intOf iv).toNat)
      case atStart => exact ⟨0, none, 0, 0, rfl, Nat.zero_le _, rfl, Sw.nil _ _ _, Fresh.nil _, HG0.out⟩
      case round =>
        obtain ⟨i, ra, rn, rc, rfl, hik, rfl, hso, hfo, hg⟩ := hrel
        have hll := HL.out
        have kb := (HB1.out.G hg).cell
        
        by_cases hil : i < ns.length
        · obtain ⟨x, hx⟩ : ∃ x, ns[i]? = some x := ⟨_, List.getElem?_eq_getElem hil⟩
          have HIL := hide hil; have HX := hide hx
          obtain ⟨g, o, cp, qq⟩ := HS.out.addr (by omega)
          injection qq with p1 p2 p3
          subst p1 p3
          obtain ⟨cs, ⟨vp, hcs, hvp⟩, hr1⟩ := HS.out.at hx
          subst hcs
          obtain ⟨va, vc, rfl⟩ := hvp.form
          obtain ⟨vn, hvn⟩ : ∃ vn, vn = x.ps.length := ⟨_, rfl⟩
          rw [← hvn] at hvp hr1
          have x1 : wr.cell? ⟨g, o + i * 3, none⟩ = some (I x.id) := rangeAt_G hr1 hg 0 _ rfl
          have x2 : wr.cell? ⟨g, o + i * 3 + 1, none⟩ = some (.string x.lb) := rangeAt_G hr1 hg 1 _ rfl
          have x3 : wr.cell? ⟨g, o + i * 3 + 2, none⟩ = some (.slice va vn vc) := rangeAt_G hr1 hg 2 _ rfl
          have i1 : (i : Int) < (n : Int) := by omega
          have HW : Hid (wrap64 ((i : Int) + 1) = (i : Int) + 1) := by show _ = _; unfold wrap64; omega
          have hrn := hso.len_eq
          have hrl : rn ≤ i := by
            have h1 := List.length_filter_le (viewB label) ((ns.take i).map Nd.ed)
            rw [List.length_map, List.length_take] at h1
            rw [List.length_map] at hrn
            omega
          have HRL := hide hrl
          have HVP := hide (And.intro (hvp.G hg) hvn)
          have HSO := hide hso; have HFO := hide hfo; have HG := hide hg
          clear hik hil hx p2 hvp hr1 hvn hso hfo hg hll hrn hrl
          cases he : label.toList.isEmpty with
          | true =>
            have hpx : viewB label x.ed = true := by rw [viewB, he]; rfl
            have HPX := hide hpx
            obtain ⟨i0, hi0, hz0, hz1, hz2⟩ := info_64
            have hmx : (4000000000000 : Nat) ≤ maxLen := of_decide_eq_true (by kernel_rfl)
            have hll : ((((ns.take i).map Nd.ed).filter (viewB label)).map (·.id)).length = rn := HSO.out.len_eq
            have hrl := HRL.out
            have hil := HIL.out
            have hlm := HL.out
            obtain ⟨a5, c5, w5, r1, r2, r3, r4, -⟩ := push (P := Tryz.prog) (tr := 73) i0 _ 8 Tryz.underlying73 hi0 hz0 hz1 hz2 rfl (by decide) (HSO.out) (x.id) (HG.out) HFO.out (by omega) (by omega)
            rw [hll] at r1 r2 r4
            have HF : Hid (Sw eI 2 w5 (.slice a5 (rn + 1) c5) ((((ns.take (i + 1)).map Nd.ed).filter (viewB label)).map (·.id)) ∧ Fresh w2 (.slice a5 (rn + 1) c5) ∧ G w2 w5) := by
              refine ⟨?_, r4, r3⟩
              rw [List.take_add_one, HX.out, List.map_append, List.filter_append]
              simpa [hpx, show x.ed.id = x.id from rfl] using r2
            have HR := hide r1
            clear hi0 hz0 hz1 hz2 hmx hll hrl hil hlm r1 r2 r3 r4
            clear hpx
            go_wp2_with (first | (at_builtin; refine wpList_append_run rfl _ _ 73 rfl (.slice ra rn rc) (.slice (some ⟨wr.heap.size, 0, none⟩) 1 1) rfl rfl HR.out ?_) | fail)
            obtain ⟨f1, f2, f3⟩ := HF.out
            exact ⟨⟨i + 1, a5, rn + 1, c5, by rw [HW.out]; exact srl i, HIL.out, rfl, f1, f2, f3⟩, by rw [HW.out]; exact sms HIL.out⟩
          | false =>
            cases hq : (x.lb.toList == label.toList) with
            | true =>
              have hpx : viewB label x.ed = true := by rw [viewB, he]; exact hq
              obtain ⟨i0, hi0, hz0, hz1, hz2⟩ := info_64
              have hmx : (4000000000000 : Nat) ≤ maxLen := of_decide_eq_true (by kernel_rfl)
              have hll : ((((ns.take i).map Nd.ed).filter (viewB label)).map (·.id)).length = rn := HSO.out.len_eq
              have hrl := HRL.out
              have hil := HIL.out
              have hlm := HL.out
              obtain ⟨a5, c5, w5, r1, r2, r3, r4, -⟩ := push (P := Tryz.prog) (tr := 73) i0 _ 8 Tryz.underlying73 hi0 hz0 hz1 hz2 rfl (by decide) (HSO.out) (x.id) (HG.out) HFO.out (by omega) (by omega)
              rw [hll] at r1 r2 r4
              have HF : Hid (Sw eI 2 w5 (.slice a5 (rn + 1) c5) ((((ns.take (i + 1)).map Nd.ed).filter (viewB label)).map (·.id)) ∧ Fresh w2 (.slice a5 (rn + 1) c5) ∧ G w2 w5) := by
                refine ⟨?_, r4, r3⟩
                rw [List.take_add_one, HX.out, List.map_append, List.filter_append]
                simpa [hpx, show x.ed.id = x.id from rfl] using r2
              have HR := hide r1
              clear hi0 hz0 hz1 hz2 hmx hll hrl hil hlm r1 r2 r3 r4
              clear hpx
              go_wp2_with (first | (at_builtin; refine wpList_append_run rfl _ _ 73 rfl (.slice ra rn rc) (.slice (some ⟨wr.heap.size, 0, none⟩) 1 1) rfl rfl HR.out ?_) | fail)
              obtain ⟨f1, f2, f3⟩ := HF.out
              exact ⟨⟨i + 1, a5, rn + 1, c5, by rw [HW.out]; exact srl i, HIL.out, rfl, f1, f2, f3⟩, by rw [HW.out]; exact sms HIL.out⟩
            | false =>
              have hpx : viewB label x.ed = false := by rw [viewB, he]; exact hq
              have HF : Hid (Sw eI 2 wr (.slice ra rn rc) ((((ns.take (i + 1)).map Nd.ed).filter (viewB label)).map (·.id))) := by
                rw [Hid, List.take_add_one, HX.out, List.map_append, List.filter_append]
                simpa [hpx] using HSO.out
              have HG9 : Hid (G w2 wr) := HG.out
              clear hpx
              go_wp2_with fail
              exact ⟨⟨i + 1, ra, rn, rc, by rw [HW.out]; exact srl i, HIL.out, rfl, HF.out, HFO.out, HG9.out⟩, by rw [HW.out]; exact sms HIL.out⟩
        · have i1 : ¬ (i : Int) < (n : Int) := by omega
          have HF : Hid (AnsI W wr (.returned (.tuple #[.slice ra rn rc, I 0])) (0, (((ns.map Nd.ed).filter (viewB label)).map (·.id))) ∧ G W wr) := ⟨⟨ra, rn, rc, rfl, by rw [List.take_of_length_le (by omega)] at hso; exact hso, hfo.old HGW.out⟩, HGW.out.trans hg⟩
          clear hik hil hso hfo hg hll
          go_wp2_with fail
          go_ret2
          rw [HANS.out]
          exact HF.out
    · rw [h3] at KM
      clear h3
      go_enter Tryz.func52, Tryz.ntmps52
      go_wp2_with fail
      try rw [HEW.out]
      try rw [HE1.out]
      refine (KM.out _).mono ?_
      rintro e w3 ⟨rfl, h9⟩
      subst w3
      clear h2
      go_wp2_with fail
      clear HEW HE1
      go_loopw [7, 6] (fun iv ov wr => ∃ (i : Nat) (ra : Option Addr) (rn rc : Nat), iv = I i ∧ i ≤ ns.length ∧ ov = .slice ra rn rc ∧ Sw eI 2 wr (.slice ra rn rc) ((((ns.take i).map Nd.ed).filter (viewB label)).map (·.id)) ∧ Fresh w2 (.slice ra rn rc) ∧ G w2 wr) (fun iv _ _ => ns.length - (RowKit.intOf iv).toNat)
      case atStart => exact ⟨0, none, 0, 0, rfl, Nat.zero_le _, rfl, Sw.nil _ _ _, Fresh.nil _, HG0.out⟩
      case round =>
        obtain ⟨i, ra, rn, rc, rfl, hik, rfl, hso, hfo, hg⟩ := hrel
        have hll := HL.out
        have kb := (HB1.out.G hg).cell
        
        by_cases hil : i < ns.length
        · obtain ⟨x, hx⟩ : ∃ x, ns[i]? = some x := ⟨_, List.getElem?_eq_getElem hil⟩
          have HIL := hide hil; have HX := hide hx
          obtain ⟨g, o, cp, qq⟩ := HS.out.addr (by omega)
          injection qq with p1 p2 p3
          subst p1 p3
          obtain ⟨cs, ⟨vp, hcs, hvp⟩, hr1⟩ := HS.out.at hx
          subst hcs
          obtain ⟨va, vc, rfl⟩ := hvp.form
          obtain ⟨vn, hvn⟩ : ∃ vn, vn = x.ps.length := ⟨_, rfl⟩
          rw [← hvn] at hvp hr1
          have x1 : wr.cell? ⟨g, o + i * 3, none⟩ = some (I x.id) := rangeAt_G hr1 hg 0 _ rfl
          have x2 : wr.cell? ⟨g, o + i * 3 + 1, none⟩ = some (.string x.lb) := rangeAt_G hr1 hg 1 _ rfl
          have x3 : wr.cell? ⟨g, o + i * 3 + 2, none⟩ = some (.slice va vn vc) := rangeAt_G hr1 hg 2 _ rfl
          have i1 : (i : Int) < (n : Int) := by omega
          have HW : Hid (wrap64 ((i : Int) + 1) = (i : Int) + 1) := by show _ = _; unfold wrap64; omega
          have hrn := hso.len_eq
          have hrl : rn ≤ i := by
            have h1 := List.length_filter_le (viewB label) ((ns.take i).map Nd.ed)
            rw [List.length_map, List.length_take] at h1
            rw [List.length_map] at hrn
            omega
          have HRL := hide hrl
          have HVP := hide (And.intro (hvp.G hg) hvn)
          have HSO := hide hso; have HFO := hide hfo; have HG := hide hg
          clear hik hil hx p2 hvp hr1 hvn hso hfo hg hll hrn hrl
          cases he : label.toList.isEmpty with
          | true =>
            have hpx : viewB label x.ed = true := by rw [viewB, he]; rfl
            have HPX := hide hpx
            obtain ⟨i0, hi0, hz0, hz1, hz2⟩ := info_64
            have hmx : (4000000000000 : Nat) ≤ maxLen := of_decide_eq_true (by kernel_rfl)
            have hll : ((((ns.take i).map Nd.ed).filter (viewB label)).map (·.id)).length = rn := HSO.out.len_eq
            have hrl := HRL.out
            have hil := HIL.out
            have hlm := HL.out
            obtain ⟨a5, c5, w5, r1, r2, r3, r4, -⟩ := push (P := Tryz.prog) (tr := 73) i0 _ 8 Tryz.underlying73 hi0 hz0 hz1 hz2 rfl (by decide) (HSO.out) (x.id) (HG.out) HFO.out (by omega) (by omega)
            rw [hll] at r1 r2 r4
            have HF : Hid (Sw eI 2 w5 (.slice a5 (rn + 1) c5) ((((ns.take (i + 1)).map Nd.ed).filter (viewB label)).map (·.id)) ∧ Fresh w2 (.slice a5 (rn + 1) c5) ∧ G w2 w5) := by
              refine ⟨?_, r4, r3⟩
              rw [List.take_add_one, HX.out, List.map_append, List.filter_append]
              simpa [hpx, show x.ed.id = x.id from rfl] using r2
            have HR := hide r1
            clear hi0 hz0 hz1 hz2 hmx hll hrl hil hlm r1 r2 r3 r4
            clear hpx
            go_wp2_with (first | (at_builtin; refine wpList_append_run rfl _ _ 73 rfl (.slice ra rn rc) (.slice (some ⟨wr.heap.size, 0, none⟩) 1 1) rfl rfl HR.out ?_) | fail)
            obtain ⟨f1, f2, f3⟩ := HF.out
            exact ⟨⟨i + 1, a5, rn + 1, c5, by rw [HW.out]; exact srl i, HIL.out, rfl, f1, f2, f3⟩, by rw [HW.out]; exact sms HIL.out⟩
          | false =>
            cases hq : (x.lb.toList == label.toList) with
            | true =>
              have hpx : viewB label x.ed = true := by rw [viewB, he]; exact hq
              obtain ⟨i0, hi0, hz0, hz1, hz2⟩ := info_64
              have hmx : (4000000000000 : Nat) ≤ maxLen := of_decide_eq_true (by kernel_rfl)
              have hll : ((((ns.take i).map Nd.ed).filter (viewB label)).map (·.id)).length = rn := HSO.out.len_eq
              have hrl := HRL.out
              have hil := HIL.out
              have hlm := HL.out
              obtain ⟨a5, c5, w5, r1, r2, r3, r4, -⟩ := push (P := Tryz.prog) (tr := 73) i0 _ 8 Tryz.underlying73 hi0 hz0 hz1 hz2 rfl (by decide) (HSO.out) (x.id) (HG.out) HFO.out (by omega) (by omega)
              rw [hll] at r1 r2 r4
              have HF : Hid (Sw eI 2 w5 (.slice a5 (rn + 1) c5) ((((ns.take (i + 1)).map Nd.ed).filter (viewB label)).map (·.id)) ∧ Fresh w2 (.slice a5 (rn + 1) c5) ∧ G w2 w5) := by
                refine ⟨?_, r4, r3⟩
                rw [List.take_add_one, HX.out, List.map_append, List.filter_append]
                simpa [hpx, show x.ed.id = x.id from rfl] using r2
              have HR := hide r1
              clear hi0 hz0 hz1 hz2 hmx hll hrl hil hlm r1 r2 r3 r4
              clear hpx
              go_wp2_with (first | (at_builtin; refine wpList_append_run rfl _ _ 73 rfl (.slice ra rn rc) (.slice (some ⟨wr.heap.size, 0, none⟩) 1 1) rfl rfl HR.out ?_) | fail)
              obtain ⟨f1, f2, f3⟩ := HF.out
              exact ⟨⟨i + 1, a5, rn + 1, c5, by rw [HW.out]; exact srl i, HIL.out, rfl, f1, f2, f3⟩, by rw [HW.out]; exact sms HIL.out⟩
            | false =>
              have hpx : viewB label x.ed = false := by rw [viewB, he]; exact hq
              have HF : Hid (Sw eI 2 wr (.slice ra rn rc) ((((ns.take (i + 1)).map Nd.ed).filter (viewB label)).map (·.id))) := by
                rw [Hid, List.take_add_one, HX.out, List.map_append, List.filter_append]
                simpa [hpx] using HSO.out
              have HG9 : Hid (G w2 wr) := HG.out
              clear hpx
              go_wp2_with fail
              exact ⟨⟨i + 1, ra, rn, rc, by rw [HW.out]; exact srl i, HIL.out, rfl, HF.out, HFO.out, HG9.out⟩, by rw [HW.out]; exact sms HIL.out⟩
        · have i1 : ¬ (i : Int) < (n : Int) := by omega
          have HF : Hid (AnsI W wr (.returned (.tuple #[.slice ra rn rc, I 0])) (0, (((ns.map Nd.ed).filter (viewB label)).map (·.id))) ∧ G W wr) := ⟨⟨ra, rn, rc, rfl, by rw [List.take_of_length_le (by omega)] at hso; exact hso, hfo.old HGW.out⟩, HGW.out.trans hg⟩
          clear hik hil hso hfo hg hll
          go_wp2_with fail
          go_ret2
          rw [HANS.out]
          exact HF.out
set_option maxRecDepth 100000 in
set_option maxHeartbeats 4000000 in
theorem outOf_any (ns : List Nd) (es : List Ed) (nv ev : Value) (id : Int) (W : World) (h : Row relN W nv ns) (he : Row relE W ev es) (hl : ns.length ≤ 1048576 ∧ es.length ≤ 1048576) (hs : (ns.map fun y => y.id).Pairwise (· < ·)) :
    Calls Tryz.prog 60 #[.agg #[nv, ev], I id] W fun e W' => AnsI W W' e (fanA (fun y => y.fr) id ns es) ∧ G W W' := by
  obtain ⟨pa, pc, rfl⟩ := h.form
  obtain ⟨qa, qc, rfl⟩ := he.form
  obtain ⟨n, hn⟩ : ∃ n, n = ns.length := ⟨_, rfl⟩
  obtain ⟨en, hen⟩ : ∃ en, en = es.length := ⟨_, rfl⟩
  rw [← hn] at h ⊢
  rw [← hen] at he ⊢
  obtain ⟨B1, hB1⟩ : ∃ B1, B1 = W.heap.size := ⟨_, rfl⟩
  obtain ⟨w1, hw1⟩ : ∃ w1, w1 = (W.alloc (.cells #[.slice pa n pc, .slice qa en qc] 25)) := ⟨_, rfl⟩
  have hgw : G W w1 := by rw [hw1]; exact (G.refl W).alloc _
  have hb1 : Blk w1 B1 25 [.slice pa n pc, .slice qa en qc] := by rw [hw1, hB1]; exact Blk.new W [.slice pa n pc, .slice qa en qc] 25
  have HEW : Hid ((W.alloc (.cells #[.slice pa n pc, .slice qa en qc] 25)) = w1) := hw1.symm
  have HE1 : Hid (W.heap.size = B1) := hB1.symm
  have KA := hide (nodeIx_any ns _ _ id w1 (h.G hgw) ⟨qa, en, qc, rfl⟩ hs hl.1)
  have HSX := hide (he.G hgw); have HBX := hide hb1; have HGX := hide hgw
  have HL : Hid (en = es.length ∧ en ≤ 1048576) := ⟨hen, by omega⟩
  have b1 := hb1.cell
  clear h he hl hn hen hw1 hB1 hgw hb1 hs
  go_enter Tryz.func60, Tryz.ntmps60
  go_wp2_with fail
  rw [HEW.out]
  try rw [HE1.out]
  clear HEW HE1
  refine KA.out.mono ?_
  rintro e w2 ⟨⟨r, rfl, har⟩, hg2⟩
  clear KA b1
  rcases har with ⟨hno, rfl⟩ | ⟨i, hi, rfl⟩
  · have HF : Hid (fanA (fun y => y.fr) id ns es = (70, [])) := by rw [Hid, fanA, if_neg hno]
    have HG9 := hide (HGX.out.trans hg2)
    clear hno hg2
    go_wp2_with fail
    go_ret2
    exact ⟨by rw [HF.out]; exact AnsI.bad 70, HG9.out⟩
  · have HANS : Hid (fanA (fun y => y.fr) id ns es = (0, ((es.filter (fun y => y.fr == id)).map (·.id)))) := by rw [Hid, fanA, if_pos (List.mem_of_getElem? hi)]; rfl
    have HGW := hide (HGX.out.trans hg2)
    have HB1 := hide (HBX.out.G hg2)
    have HSE := hide (HSX.out.G hg2)
    have HG0 : Hid (G w2 w2) := G.refl _
    have hi0 : ¬ ((i : Int) < 0) := by omega
    clear hi hg2 HGX HBX HSX
    go_wp2_with fail
    clear hi0
    go_loopw [7, 6] (fun iv ov wr => ∃ (i : Nat) (ra : Option Addr) (rn rc : Nat), iv = I i ∧ i ≤ es.length ∧ ov = .slice ra rn rc ∧ Sw eI 2 wr (.slice ra rn rc) (((es.take i).filter (fun y => y.fr == id)).map (·.id)) ∧ Fresh w2 (.slice ra rn rc) ∧ G w2 wr) (fun iv _ _ => es.length - (RowKit.intOf iv).toNat)
    case atStart => exact ⟨0, none, 0, 0, rfl, Nat.zero_le _, rfl, Sw.nil _ _ _, Fresh.nil _, HG0.out⟩
    case round =>
      obtain ⟨i, ra, rn, rc, rfl, hik, rfl, hso, hfo, hg⟩ := hrel
      have hll := HL.out
      have kb := (HB1.out.G hg).cell
      
      by_cases hil : i < es.length
      · obtain ⟨x, hx⟩ : ∃ x, es[i]? = some x := ⟨_, List.getElem?_eq_getElem hil⟩
        have HIL := hide hil; have HX := hide hx
        obtain ⟨g, o, cp, qq⟩ := HSE.out.addr (by omega)
        injection qq with p1 p2 p3
        subst p1 p3
        obtain ⟨cs, ⟨vp, hcs, hvp⟩, hr1⟩ := HSE.out.at hx
        subst hcs
        obtain ⟨va, vc, rfl⟩ := hvp.form
        obtain ⟨vn, hvn⟩ : ∃ vn, vn = x.ps.length := ⟨_, rfl⟩
        rw [← hvn] at hvp hr1
        have x1 : wr.cell? ⟨g, o + i * 5, none⟩ = some (I x.id) := rangeAt_G hr1 hg 0 _ rfl
        have x2 : wr.cell? ⟨g, o + i * 5 + 1, none⟩ = some (.string x.ty) := rangeAt_G hr1 hg 1 _ rfl
        have x3 : wr.cell? ⟨g, o + i * 5 + 2, none⟩ = some (I x.fr) := rangeAt_G hr1 hg 2 _ rfl
        have x4 : wr.cell? ⟨g, o + i * 5 + 3, none⟩ = some (I x.to) := rangeAt_G hr1 hg 3 _ rfl
        have x5 : wr.cell? ⟨g, o + i * 5 + 4, none⟩ = some (.slice va vn vc) := rangeAt_G hr1 hg 4 _ rfl
        have i1 : (i : Int) < (en : Int) := by omega
        have HW : Hid (wrap64 ((i : Int) + 1) = (i : Int) + 1) := by show _ = _; unfold wrap64; omega
        have hrn := hso.len_eq
        have hrl : rn ≤ i := by
          have h1 := List.length_filter_le (fun y => y.fr == id) (es.take i)
          rw [List.length_take] at h1
          rw [List.length_map] at hrn
          omega
        have HRL := hide hrl
        have HVP := hide (And.intro (hvp.G hg) hvn)
        have HSO := hide hso; have HFO := hide hfo; have HG := hide hg
        clear hik hil hx p2 hvp hr1 hvn hso hfo hg hll hrn hrl
        by_cases hq : x.fr = id
        · have hpx : (x.fr == id) = true := by simp [hq]
          obtain ⟨i0, hi0, hz0, hz1, hz2⟩ := info_64
          have hmx : (4000000000000 : Nat) ≤ maxLen := of_decide_eq_true (by kernel_rfl)
          have hll : (((es.take i).filter (fun y => y.fr == id)).map (·.id)).length = rn := HSO.out.len_eq
          have hrl := HRL.out
          have hil := HIL.out
          have hlm := HL.out
          obtain ⟨a5, c5, w5, r1, r2, r3, r4, -⟩ := push (P := Tryz.prog) (tr := 73) i0 _ 8 Tryz.underlying73 hi0 hz0 hz1 hz2 rfl (by decide) (HSO.out) (x.id) (HG.out) HFO.out (by omega) (by omega)
          rw [hll] at r1 r2 r4
          have HF : Hid (Sw eI 2 w5 (.slice a5 (rn + 1) c5) (((es.take (i + 1)).filter (fun y => y.fr == id)).map (·.id)) ∧ Fresh w2 (.slice a5 (rn + 1) c5) ∧ G w2 w5) := by
            refine ⟨?_, r4, r3⟩
            rw [List.take_add_one, HX.out, List.filter_append]
            simpa [hpx] using r2
          have HR := hide r1
          clear hi0 hz0 hz1 hz2 hmx hll hrl hil hlm r1 r2 r3 r4
          clear hq
          go_wp2_with (first | (at_builtin; refine wpList_append_run rfl _ _ 73 rfl (.slice ra rn rc) (.slice (some ⟨wr.heap.size, 0, none⟩) 1 1) rfl rfl HR.out ?_) | fail)
          obtain ⟨f1, f2, f3⟩ := HF.out
          exact ⟨⟨i + 1, a5, rn + 1, c5, by rw [HW.out]; exact srl i, HIL.out, rfl, f1, f2, f3⟩, by rw [HW.out]; exact sms HIL.out⟩
        · have hpx : (x.fr == id) = false := by simp [hq]
          have HF : Hid (Sw eI 2 wr (.slice ra rn rc) (((es.take (i + 1)).filter (fun y => y.fr == id)).map (·.id))) := by
            rw [Hid, List.take_add_one, HX.out, List.filter_append]
            simpa [hpx] using HSO.out
          have HG9 : Hid (G w2 wr) := HG.out
          clear hq
          go_wp2_with fail
          exact ⟨⟨i + 1, ra, rn, rc, by rw [HW.out]; exact srl i, HIL.out, rfl, HF.out, HFO.out, HG9.out⟩, by rw [HW.out]; exact sms HIL.out⟩
      · have i1 : ¬ (i : Int) < (en : Int) := by omega
        have HF : Hid (AnsI W wr (.returned (.tuple #[.slice ra rn rc, I 0])) (0, ((es.filter (fun y => y.fr == id)).map (·.id))) ∧ G W wr) := ⟨⟨ra, rn, rc, rfl, by rw [List.take_of_length_le (by omega)] at hso; exact hso, hfo.old HGW.out⟩, HGW.out.trans hg⟩
        clear hik hil hso hfo hg hll
        go_wp2_with fail
        go_ret2
        rw [HANS.out]
        exact HF.out
set_option maxRecDepth 100000 in
set_option maxHeartbeats 4000000 in
theorem inOf_any (ns : List Nd) (es : List Ed) (nv ev : Value) (id : Int) (W : World) (h : Row relN W nv ns) (he : Row relE W ev es) (hl : ns.length ≤ 1048576 ∧ es.length ≤ 1048576) (hs : (ns.map fun y => y.id).Pairwise (· < ·)) :
    Calls Tryz.prog 62 #[.agg #[nv, ev], I id] W fun e W' => AnsI W W' e (fanA (fun y => y.to) id ns es) ∧ G W W' := by
  obtain ⟨pa, pc, rfl⟩ := h.form
  obtain ⟨qa, qc, rfl⟩ := he.form
  obtain ⟨n, hn⟩ : ∃ n, n = ns.length := ⟨_, rfl⟩
  obtain ⟨en, hen⟩ : ∃ en, en = es.length := ⟨_, rfl⟩
  rw [← hn] at h ⊢
  rw [← hen] at he ⊢
  obtain ⟨B1, hB1⟩ : ∃ B1, B1 = W.heap.size := ⟨_, rfl⟩
  obtain ⟨w1, hw1⟩ : ∃ w1, w1 = (W.alloc (.cells #[.slice pa n pc, .slice qa en qc] 25)) := ⟨_, rfl⟩
  have hgw : G W w1 := by rw [hw1]; exact (G.refl W).alloc _
  have hb1 : Blk w1 B1 25 [.slice pa n pc, .slice qa en qc] := by rw [hw1, hB1]; exact Blk.new W [.slice pa n pc, .slice qa en qc] 25
  have HEW : Hid ((W.alloc (.cells #[.slice pa n pc, .slice qa en qc] 25)) = w1) := hw1.symm
  have HE1 : Hid (W.heap.size = B1) := hB1.symm
  have KA := hide (nodeIx_any ns _ _ id w1 (h.G hgw) ⟨qa, en, qc, rfl⟩ hs hl.1)
  have HSX := hide (he.G hgw); have HBX := hide hb1; have HGX := hide hgw
  have HL : Hid (en = es.length ∧ en ≤ 1048576) := ⟨hen, by omega⟩
  have b1 := hb1.cell
  clear h he hl hn hen hw1 hB1 hgw hb1 hs
  go_enter Tryz.func62, Tryz.ntmps62
  go_wp2_with fail
  rw [HEW.out]
  try rw [HE1.out]
  clear HEW HE1
  refine KA.out.mono ?_
  rintro e w2 ⟨⟨r, rfl, har⟩, hg2⟩
  clear KA b1
  rcases har with ⟨hno, rfl⟩ | ⟨i, hi, rfl⟩
  · have HF : Hid (fanA (fun y => y.to) id ns es = (70, [])) := by rw [Hid, fanA, if_neg hno]
    have HG9 := hide (HGX.out.trans hg2)
    clear hno hg2
    go_wp2_with fail
    go_ret2
    exact ⟨by rw [HF.out]; exact AnsI.bad 70, HG9.out⟩
  · have HANS : Hid (fanA (fun y => y.to) id ns es = (0, ((es.filter (fun y => y.to == id)).map (·.id)))) := by rw [Hid, fanA, if_pos (List.mem_of_getElem? hi)]; rfl
    have HGW := hide (HGX.out.trans hg2)
    have HB1 := hide (HBX.out.G hg2)
    have HSE := hide (HSX.out.G hg2)
    have HG0 : Hid (G w2 w2) := G.refl _
    have hi0 : ¬ ((i : Int) < 0) := by omega
    clear hi hg2 HGX HBX HSX
    go_wp2_with fail
    clear hi0
    go_loopw [7, 6] (fun iv ov wr => ∃ (i : Nat) (ra : Option Addr) (rn rc : Nat), iv = I i ∧ i ≤ es.length ∧ ov = .slice ra rn rc ∧ Sw eI 2 wr (.slice ra rn rc) (((es.take i).filter (fun y => y.to == id)).map (·.id)) ∧ Fresh w2 (.slice ra rn rc) ∧ G w2 wr) (fun iv _ _ => es.length - (RowKit.intOf iv).toNat)
    case atStart => exact ⟨0, none, 0, 0, rfl, Nat.zero_le _, rfl, Sw.nil _ _ _, Fresh.nil _, HG0.out⟩
    case round =>
      obtain ⟨i, ra, rn, rc, rfl, hik, rfl, hso, hfo, hg⟩ := hrel
      have hll := HL.out
      have kb := (HB1.out.G hg).cell
      
      by_cases hil : i < es.length
      · obtain ⟨x, hx⟩ : ∃ x, es[i]? = some x := ⟨_, List.getElem?_eq_getElem hil⟩
        have HIL := hide hil; have HX := hide hx
        obtain ⟨g, o, cp, qq⟩ := HSE.out.addr (by omega)
        injection qq with p1 p2 p3
        subst p1 p3
        obtain ⟨cs, ⟨vp, hcs, hvp⟩, hr1⟩ := HSE.out.at hx
        subst hcs
        obtain ⟨va, vc, rfl⟩ := hvp.form
        obtain ⟨vn, hvn⟩ : ∃ vn, vn = x.ps.length := ⟨_, rfl⟩
        rw [← hvn] at hvp hr1
        have x1 : wr.cell? ⟨g, o + i * 5, none⟩ = some (I x.id) := rangeAt_G hr1 hg 0 _ rfl
        have x2 : wr.cell? ⟨g, o + i * 5 + 1, none⟩ = some (.string x.ty) := rangeAt_G hr1 hg 1 _ rfl
        have x3 : wr.cell? ⟨g, o + i * 5 + 2, none⟩ = some (I x.fr) := rangeAt_G hr1 hg 2 _ rfl
        have x4 : wr.cell? ⟨g, o + i * 5 + 3, none⟩ = some (I x.to) := rangeAt_G hr1 hg 3 _ rfl
        have x5 : wr.cell? ⟨g, o + i * 5 + 4, none⟩ = some (.slice va vn vc) := rangeAt_G hr1 hg 4 _ rfl
        have i1 : (i : Int) < (en : Int) := by omega
        have HW : Hid (wrap64 ((i : Int) + 1) = (i : Int) + 1) := by show _ = _; unfold wrap64; omega
        have hrn := hso.len_eq
        have hrl : rn ≤ i := by
          have h1 := List.length_filter_le (fun y => y.to == id) (es.take i)
          rw [List.length_take] at h1
          rw [List.length_map] at hrn
          omega
        have HRL := hide hrl
        have HVP := hide (And.intro (hvp.G hg) hvn)
        have HSO := hide hso; have HFO := hide hfo; have HG := hide hg
        clear hik hil hx p2 hvp hr1 hvn hso hfo hg hll hrn hrl
        by_cases hq : x.to = id
        · have hpx : (x.to == id) = true := by simp [hq]
          obtain ⟨i0, hi0, hz0, hz1, hz2⟩ := info_64
          have hmx : (4000000000000 : Nat) ≤ maxLen := of_decide_eq_true (by kernel_rfl)
          have hll : (((es.take i).filter (fun y => y.to == id)).map (·.id)).length = rn := HSO.out.len_eq
          have hrl := HRL.out
          have hil := HIL.out
          have hlm := HL.out
          obtain ⟨a5, c5, w5, r1, r2, r3, r4, -⟩ := push (P := Tryz.prog) (tr := 73) i0 _ 8 Tryz.underlying73 hi0 hz0 hz1 hz2 rfl (by decide) (HSO.out) (x.id) (HG.out) HFO.out (by omega) (by omega)
          rw [hll] at r1 r2 r4
          have HF : Hid (Sw eI 2 w5 (.slice a5 (rn + 1) c5) (((es.take (i + 1)).filter (fun y => y.to == id)).map (·.id)) ∧ Fresh w2 (.slice a5 (rn + 1) c5) ∧ G w2 w5) := by
            refine ⟨?_, r4, r3⟩
            rw [List.take_add_one, HX.out, List.filter_append]
            simpa [hpx] using r2
          have HR := hide r1
          clear hi0 hz0 hz1 hz2 hmx hll hrl hil hlm r1 r2 r3 r4
          clear hq
          go_wp2_with (first | (at_builtin; refine wpList_append_run rfl _ _ 73 rfl (.slice ra rn rc) (.slice (some ⟨wr.heap.size, 0, none⟩) 1 1) rfl rfl HR.out ?_) | fail)
          obtain ⟨f1, f2, f3⟩ := HF.out
          exact ⟨⟨i + 1, a5, rn + 1, c5, by rw [HW.out]; exact srl i, HIL.out, rfl, f1, f2, f3⟩, by rw [HW.out]; exact sms HIL.out⟩
        · have hpx : (x.to == id) = false := by simp [hq]
          have HF : Hid (Sw eI 2 wr (.slice ra rn rc) (((es.take (i + 1)).filter (fun y => y.to == id)).map (·.id))) := by
            rw [Hid, List.take_add_one, HX.out, List.filter_append]
            simpa [hpx] using HSO.out
          have HG9 : Hid (G w2 wr) := HG.out
          clear hq
          go_wp2_with fail
          exact ⟨⟨i + 1, ra, rn, rc, by rw [HW.out]; exact srl i, HIL.out, rfl, HF.out, HFO.out, HG9.out⟩, by rw [HW.out]; exact sms HIL.out⟩
      · have i1 : ¬ (i : Int) < (en : Int) := by omega
        have HF : Hid (AnsI W wr (.returned (.tuple #[.slice ra rn rc, I 0])) (0, ((es.filter (fun y => y.to == id)).map (·.id))) ∧ G W wr) := ⟨⟨ra, rn, rc, rfl, by rw [List.take_of_length_le (by omega)] at hso; exact hso, hfo.old HGW.out⟩, HGW.out.trans hg⟩
        clear hik hil hso hfo hg hll
        go_wp2_with fail
        go_ret2
        rw [HANS.out]
        exact HF.out
set_option maxRecDepth 100000 in
set_option maxHeartbeats 4000000 in
theorem findIn_any (ns : List Nd) (es : List Ed) (nv ev : Value) (label : ByteArray) (y : Pv) (W : World) (h : Row relN W nv ns) (he : Row relE W ev es) (hl : ns.length ≤ 1048576 ∧ es.length ≤ 1048576) (hp : ∀ x ∈ ns, x.ps.length ≤ 4611686018427387904) (hy : y.s.size ≤ 4611686018427387904) :
    Calls Tryz.prog 55 #[.agg #[nv, ev], .string label, .string y.key, .agg #[I y.k, I y.a, I y.b, .string y.s]] W fun e W' => AnsI W W' e (findA label y ns) ∧ G W W' := by
  obtain ⟨pa, pc, rfl⟩ := h.form
  obtain ⟨qa, qc, rfl⟩ := he.form
  obtain ⟨n, hn⟩ : ∃ n, n = ns.length := ⟨_, rfl⟩
  obtain ⟨en, hen⟩ : ∃ en, en = es.length := ⟨_, rfl⟩
  rw [← hn] at h ⊢
  rw [← hen] at he ⊢
  obtain ⟨B1, hB1⟩ : ∃ B1, B1 = W.heap.size := ⟨_, rfl⟩
  obtain ⟨B2, hB2⟩ : ∃ B2, B2 = W.heap.size + 1 := ⟨_, rfl⟩
  obtain ⟨w2, hw2⟩ : ∃ w2, w2 = ((W.alloc (.cells #[.slice pa n pc, .slice qa en qc] 25)).alloc (.cells #[I y.k, I y.a, I y.b, .string y.s] 41)) := ⟨_, rfl⟩
  have hgw : G W w2 := by rw [hw2]; exact ((G.refl W).alloc _).alloc _
  have hb1 : Blk w2 B1 25 [.slice pa n pc, .slice qa en qc] := by rw [hw2, hB1]; exact (Blk.new W [.slice pa n pc, .slice qa en qc] 25).G ((G.refl _).alloc _)
  have hb2 : Blk w2 B2 41 [I y.k, I y.a, I y.b, .string y.s] := by
    have := Blk.new (W.alloc (.cells #[.slice pa n pc, .slice qa en qc] 25)) [I y.k, I y.a, I y.b, .string y.s] 41
    rw [hw2, hB2]
    simpa using this
  have HEW : Hid (((W.alloc (.cells #[.slice pa n pc, .slice qa en qc] 25)).alloc (.cells #[I y.k, I y.a, I y.b, .string y.s] 41)) = w2) := hw2.symm
  have HE2 : Hid (W.heap.size + 1 = B2) := hB2.symm
  have HE1 : Hid (W.heap.size = B1) := hB1.symm
  have HS := hide (h.G hgw); have HB1 := hide hb1; have HB2 := hide hb2; have HGW := hide hgw; have HPS := hide hp
  have HG0 : Hid (G w2 w2) := G.refl _
  have HL : Hid (n = ns.length ∧ n ≤ 1048576) := ⟨hn, by omega⟩
  have KM := hide (fun w : World => rnm_any label w)
  have KY := hide (fun w : World => rnm_any y.key w)
  have KV := hide (rv_any y.k y.a y.b y.s hy w2)
  have c2 := hb2.cell
  clear h he hl hn hen hw2 hB1 hB2 hgw hb1 hb2 hp hy
  cases h1 : nameB label with
  | false =>
    have HF : Hid (findA label y ns = (73, [])) := by rw [Hid, findA, h1]; rfl
    rw [h1] at KM
    clear h1
    go_enter Tryz.func55, Tryz.ntmps55
    go_wp2_with (first | (rw [HEW.out]; (try rw [HE2.out]); (try rw [HE1.out]); clear HEW) | fail)
    try rw [HEW.out]
    try rw [HE2.out]
    try rw [HE1.out]
    refine (KM.out _).mono ?_
    rintro e w3 ⟨rfl, h9⟩
    subst w3
    go_wp2_with fail
    go_ret2
    exact ⟨by rw [HF.out]; exact AnsI.bad 73, HGW.out⟩
  | true =>
    rw [h1] at KM
    cases h2 : nameB y.key with
    | false =>
      have HF : Hid (findA label y ns = (73, [])) := by rw [Hid, findA, h1, h2]; rfl
      rw [h2] at KY
      clear h1 h2
      go_enter Tryz.func55, Tryz.ntmps55
      go_wp2_with (first | (rw [HEW.out]; (try rw [HE2.out]); (try rw [HE1.out]); clear HEW) | fail)
      try rw [HEW.out]
      try rw [HE2.out]
      try rw [HE1.out]
      refine (KM.out _).mono ?_
      rintro e w3 ⟨rfl, h9⟩
      subst w3
      go_wp2_with fail
      refine (KY.out _).mono ?_
      rintro e w3 ⟨rfl, h9⟩
      subst w3
      go_wp2_with fail
      go_ret2
      exact ⟨by rw [HF.out]; exact AnsI.bad 73, HGW.out⟩
    | true =>
      rw [h2] at KY
      cases h3 : okV y.k y.a y.b y.s with
      | false =>
        have HF : Hid (findA label y ns = (16, [])) := by rw [Hid, findA, h1, h2, h3]; rfl
        rw [h3] at KV
        clear h1 h2 h3
        go_enter Tryz.func55, Tryz.ntmps55
        go_wp2_with (first | (rw [HEW.out]; (try rw [HE2.out]); (try rw [HE1.out]); clear HEW) | fail)
        try rw [HEW.out]
        try rw [HE2.out]
        try rw [HE1.out]
        refine (KM.out _).mono ?_
        rintro e w3 ⟨rfl, h9⟩
        subst w3
        go_wp2_with fail
        refine (KY.out _).mono ?_
        rintro e w3 ⟨rfl, h9⟩
        subst w3
        go_wp2_with fail
        refine KV.out.mono ?_
        rintro e w3 ⟨rfl, hg3⟩
        have HG3 := hide (HGW.out.trans hg3)
        clear hg3 c2
        go_wp2_with fail
        go_ret2
        exact ⟨by rw [HF.out]; exact AnsI.bad 16, HG3.out⟩
      | true =>
        have HANS : Hid (findA label y ns = (0, ((ns.map Nd.ed).filter (findB label y)).map (·.id))) := by rw [Hid, findA, h1, h2, h3]; rfl
        rw [h3] at KV
        clear h1 h2 h3
        go_enter Tryz.func55, Tryz.ntmps55
        go_wp2_with (first | (rw [HEW.out]; (try rw [HE2.out]); (try rw [HE1.out]); clear HEW) | fail)
        try rw [HEW.out]
        try rw [HE2.out]
        try rw [HE1.out]
        refine (KM.out _).mono ?_
        rintro e w3 ⟨rfl, h9⟩
        subst w3
        go_wp2_with fail
        refine (KY.out _).mono ?_
        rintro e w3 ⟨rfl, h9⟩
        subst w3
        go_wp2_with fail
        refine KV.out.mono ?_
        rintro e w3 ⟨rfl, hg3⟩
        have HG0 := hide hg3
        clear hg3 c2 HE1 HE2
        go_wp2_with fail
        go_loopw [11, 10] (fun iv ov wr => ∃ (i : Nat) (ra : Option Addr) (rn rc : Nat), iv = I i ∧ i ≤ ns.length ∧ ov = .slice ra rn rc ∧ Sw eI 2 wr (.slice ra rn rc) ((((ns.take i).map Nd.ed).filter (findB label y)).map (·.id)) ∧ Fresh w2 (.slice ra rn rc) ∧ G w2 wr) (fun iv _ _ => ns.length - (RowKit.intOf iv).toNat)
        case atStart => exact ⟨0, none, 0, 0, rfl, Nat.zero_le _, rfl, Sw.nil _ _ _, Fresh.nil _, HG0.out⟩
        case round =>
          obtain ⟨i, ra, rn, rc, rfl, hik, rfl, hso, hfo, hg⟩ := hrel
          have hll := HL.out
          have kb := (HB1.out.G hg).cell
          have kv := (HB2.out.G hg).cell
          by_cases hil : i < ns.length
          · obtain ⟨x, hx⟩ : ∃ x, ns[i]? = some x := ⟨_, List.getElem?_eq_getElem hil⟩
            have HIL := hide hil; have HX := hide hx
            obtain ⟨g, o, cp, qq⟩ := HS.out.addr (by omega)
            injection qq with p1 p2 p3
            subst p1 p3
            obtain ⟨cs, ⟨vp, hcs, hvp⟩, hr1⟩ := HS.out.at hx
            subst hcs
            obtain ⟨va, vc, rfl⟩ := hvp.form
            obtain ⟨vn, hvn⟩ : ∃ vn, vn = x.ps.length := ⟨_, rfl⟩
            rw [← hvn] at hvp hr1
            have x1 : wr.cell? ⟨g, o + i * 3, none⟩ = some (I x.id) := rangeAt_G hr1 hg 0 _ rfl
            have x2 : wr.cell? ⟨g, o + i * 3 + 1, none⟩ = some (.string x.lb) := rangeAt_G hr1 hg 1 _ rfl
            have x3 : wr.cell? ⟨g, o + i * 3 + 2, none⟩ = some (.slice va vn vc) := rangeAt_G hr1 hg 2 _ rfl
            have i1 : (i : Int) < (n : Int) := by omega
            have HW : Hid (wrap64 ((i : Int) + 1) = (i : Int) + 1) := by show _ = _; unfold wrap64; omega
            have hrn := hso.len_eq
            have hrl : rn ≤ i := by
              have h1 := List.length_filter_le (findB label y) ((ns.take i).map Nd.ed)
              rw [List.length_map, List.length_take] at h1
              rw [List.length_map] at hrn
              omega
            have HRL := hide hrl
            have HVP := hide (And.intro (hvp.G hg) hvn)
            have HSO := hide hso; have HFO := hide hfo; have HG := hide hg
            clear hik hil hx p2 hvp hr1 hvn hso hfo hg hll hrn hrl
            have HS9 : Hid (∀ V, G wr V → (∀ t, V.cell? ⟨B1, t, none⟩ = ([.slice (some ⟨g, o, none⟩) n pc, .slice qa en qc] : List Value)[t]?) ∧ (∀ t, V.cell? ⟨B2, t, none⟩ = ([I y.k, I y.a, I y.b, .string y.s] : List Value)[t]?) ∧ V.cell? ⟨g, o + i * 3, none⟩ = some (I x.id) ∧ V.cell? ⟨g, o + i * 3 + 1, none⟩ = some (.string x.lb) ∧ V.cell? ⟨g, o + i * 3 + 2, none⟩ = some (.slice va vn vc) ∧ G wr V) := fun V h => ⟨((HB1.out.G HG.out).G h).cell, ((HB2.out.G HG.out).G h).cell, cell_G x1 h, cell_G x2 h, cell_G x3 h, h⟩
            cases hq : (x.lb.toList == label.toList) with
            | false =>
              have hpx : findB label y x.ed = false := by show ((x.lb.toList == label.toList) && _) = false; rw [hq]; rfl
              have HF : Hid (Sw eI 2 wr.drew (.slice ra rn rc) ((((ns.take (i + 1)).map Nd.ed).filter (findB label y)).map (·.id))) := by
                rw [Hid, List.take_add_one, HX.out, List.map_append, List.filter_append]
                simpa [hpx] using HSO.out.G ((G.refl wr).drew)
              have HG9 : Hid (G w2 wr.drew) := HG.out.drew
              clear hpx
              go_wp2_with fail
              clear x1 x2 x3 kb kv
              refine wp_region_noPanic ?_
              refine wp_region_held_drew (S := (fun V => (∀ t, V.cell? ⟨B1, t, none⟩ = ([.slice (some ⟨g, o, none⟩) n pc, .slice qa en qc] : List Value)[t]?) ∧ (∀ t, V.cell? ⟨B2, t, none⟩ = ([I y.k, I y.a, I y.b, .string y.s] : List Value)[t]?) ∧ V.cell? ⟨g, o + i * 3, none⟩ = some (I x.id) ∧ V.cell? ⟨g, o + i * 3 + 1, none⟩ = some (.string x.lb) ∧ V.cell? ⟨g, o + i * 3 + 2, none⟩ = some (.slice va vn vc) ∧ G wr V)) (by kernel_rfl) (HS9.out _ ((G.refl _).drew)) (fun hHeld => ?_)
              refine wpAnyH_take (i := 0) (v := ?_) rfl (by kernel_rfl) (by kernel_rfl) (by kernel_rfl) (fun _ _ _ h => h) (Or.inl ⟨by rfl, ?_⟩) hHeld ?_
              rotate_left 1
              · (intro w hSw; (try dsimp only at hSw); go_simp; try with_reducible rfl)
              try simp only [Act.put, List.getElem_toArray, List.getElem_cons_zero, List.setIfInBounds_toArray, List.set_cons_zero, List.set_cons_succ]
              refine wpAnyH_take (i := 1) (v := ?_) rfl (by kernel_rfl) (by kernel_rfl) (by kernel_rfl) (fun _ _ _ h => h) (Or.inl ⟨by rfl, ?_⟩) hHeld ?_
              rotate_left 1
              · (intro w hSw; obtain ⟨k1, v1, q0, q1, q2, -⟩ := hSw; go_simp; try with_reducible rfl)
              try simp only [Act.put, List.getElem_toArray, List.getElem_cons_zero, List.getElem_cons_succ, List.setIfInBounds_toArray, List.set_cons_zero, List.set_cons_succ]
              refine wpAnyH_take (i := 2) (v := ?_) rfl (by kernel_rfl) (by kernel_rfl) (by kernel_rfl) (fun _ _ _ h => h) (Or.inl ⟨by rfl, ?_⟩) hHeld ?_
              rotate_left 1
              · (intro w hSw; (try dsimp only at hSw); go_simp; try with_reducible rfl)
              try simp only [Act.put, List.getElem_toArray, List.getElem_cons_zero, List.getElem_cons_succ, List.setIfInBounds_toArray, List.set_cons_zero, List.set_cons_succ]
              refine wpAnyH_take (i := 3) (v := ?_) rfl (by kernel_rfl) (by kernel_rfl) (by kernel_rfl) (fun _ _ _ h => h) (Or.inl ⟨by rfl, ?_⟩) hHeld ?_
              rotate_left 1
              · (intro w hSw; (try dsimp only at hSw); go_simp; try with_reducible rfl)
              try simp only [Act.put, List.getElem_toArray, List.getElem_cons_zero, List.getElem_cons_succ, List.setIfInBounds_toArray, List.set_cons_zero, List.set_cons_succ]
              refine wpAnyH_take (i := 4) (v := ?_) rfl (by kernel_rfl) (by kernel_rfl) (by kernel_rfl) (fun _ _ _ h => h) (Or.inl ⟨by rfl, ?_⟩) hHeld ?_
              rotate_left 1
              · (intro w hSw; (try dsimp only at hSw); go_simp; try with_reducible rfl)
              try simp only [Act.put, List.getElem_toArray, List.getElem_cons_zero, List.getElem_cons_succ, List.setIfInBounds_toArray, List.set_cons_zero, List.set_cons_succ]
              refine wpAnyH_take (i := 5) (v := ?_) rfl (by kernel_rfl) (by kernel_rfl) (by kernel_rfl) (fun _ _ _ h => h) (Or.inl ⟨by rfl, ?_⟩) hHeld ?_
              rotate_left 1
              · (intro w hSw; obtain ⟨k1, v1, q0, q1, q2, -⟩ := hSw; go_simp; try with_reducible rfl)
              try simp only [Act.put, List.getElem_toArray, List.getElem_cons_zero, List.getElem_cons_succ, List.setIfInBounds_toArray, List.set_cons_zero, List.set_cons_succ]
              refine wpAnyH_take (i := 6) (v := ?_) rfl (by kernel_rfl) (by kernel_rfl) (by kernel_rfl) (fun _ _ _ h => h) (Or.inl ⟨by rfl, ?_⟩) hHeld ?_
              rotate_left 1
              · (intro w hSw; (try dsimp only at hSw); go_simp; try with_reducible rfl)
              try simp only [Act.put, List.getElem_toArray, List.getElem_cons_zero, List.getElem_cons_succ, List.setIfInBounds_toArray, List.set_cons_zero, List.set_cons_succ]
              refine wpAnyH_take (i := 7) (v := (.bool false)) rfl (by kernel_rfl) (by kernel_rfl) (by kernel_rfl) (fun _ _ _ h => h) (Or.inl ⟨by rfl, ?_⟩) hHeld ?_
              · (intro w hSw; first | (go_simp; done) | (go_simp; exact hq) | (go_simp; simp [hq]))
              try simp only [Act.put, List.getElem_toArray, List.getElem_cons_zero, List.getElem_cons_succ, List.setIfInBounds_toArray, List.set_cons_zero, List.set_cons_succ]
              refine wpAnyH_take (i := 8) (v := ?_) rfl (by kernel_rfl) (by kernel_rfl) (by kernel_rfl) (fun _ _ _ h => h) (Or.inl ⟨by rfl, ?_⟩) hHeld ?_
              rotate_left 1
              · (intro w hSw; (try dsimp only at hSw); go_simp; try with_reducible rfl)
              try simp only [Act.put, List.getElem_toArray, List.getElem_cons_zero, List.getElem_cons_succ, List.setIfInBounds_toArray, List.set_cons_zero, List.set_cons_succ]
              refine wpAnyH_take (i := 9) (v := undef) rfl (by kernel_rfl) (by kernel_rfl) (by kernel_rfl) (fun _ _ _ h => h) (Or.inr ⟨by rfl, rfl⟩) hHeld ?_
              try simp only [Act.put, List.getElem_toArray, List.getElem_cons_zero, List.getElem_cons_succ, List.setIfInBounds_toArray, List.set_cons_zero, List.set_cons_succ]
              refine wpAnyH_take (i := 10) (v := undef) rfl (by kernel_rfl) (by kernel_rfl) (by kernel_rfl) (fun _ _ _ h => h) (Or.inr ⟨by rfl, rfl⟩) hHeld ?_
              try simp only [Act.put, List.getElem_toArray, List.getElem_cons_zero, List.getElem_cons_succ, List.setIfInBounds_toArray, List.set_cons_zero, List.set_cons_succ]
              refine wpAnyH_take (i := 11) (v := undef) rfl (by kernel_rfl) (by kernel_rfl) (by kernel_rfl) (fun _ _ _ h => h) (Or.inr ⟨by rfl, rfl⟩) hHeld ?_
              try simp only [Act.put, List.getElem_toArray, List.getElem_cons_zero, List.getElem_cons_succ, List.setIfInBounds_toArray, List.set_cons_zero, List.set_cons_succ]
              refine wpAnyH_take (i := 12) (v := undef) rfl (by kernel_rfl) (by kernel_rfl) (by kernel_rfl) (fun _ _ _ h => h) (Or.inr ⟨by rfl, rfl⟩) hHeld ?_
              try simp only [Act.put, List.getElem_toArray, List.getElem_cons_zero, List.getElem_cons_succ, List.setIfInBounds_toArray, List.set_cons_zero, List.set_cons_succ]
              refine wpAnyH_take (i := 13) (v := undef) rfl (by kernel_rfl) (by kernel_rfl) (by kernel_rfl) (fun _ _ _ h => h) (Or.inr ⟨by rfl, rfl⟩) hHeld ?_
              try simp only [Act.put, List.getElem_toArray, List.getElem_cons_zero, List.getElem_cons_succ, List.setIfInBounds_toArray, List.set_cons_zero, List.set_cons_succ]
              refine wpAnyH_take (i := 14) (v := undef) rfl (by kernel_rfl) (by kernel_rfl) (by kernel_rfl) (fun _ _ _ h => h) (Or.inr ⟨by rfl, rfl⟩) hHeld ?_
              try simp only [Act.put, List.getElem_toArray, List.getElem_cons_zero, List.getElem_cons_succ, List.setIfInBounds_toArray, List.set_cons_zero, List.set_cons_succ]
              refine wpAnyH_take (i := 15) (v := undef) rfl (by kernel_rfl) (by kernel_rfl) (by kernel_rfl) (fun _ _ _ h => h) (Or.inr ⟨by rfl, rfl⟩) hHeld ?_
              try simp only [Act.put, List.getElem_toArray, List.getElem_cons_zero, List.getElem_cons_succ, List.setIfInBounds_toArray, List.set_cons_zero, List.set_cons_succ]
              refine wpAnyH_take (i := 16) (v := undef) rfl (by kernel_rfl) (by kernel_rfl) (by kernel_rfl) (fun _ _ _ h => h) (Or.inr ⟨by rfl, rfl⟩) hHeld ?_
              try simp only [Act.put, List.getElem_toArray, List.getElem_cons_zero, List.getElem_cons_succ, List.setIfInBounds_toArray, List.set_cons_zero, List.set_cons_succ]
              refine wpAnyH_take (i := 17) (v := undef) rfl (by kernel_rfl) (by kernel_rfl) (by kernel_rfl) (fun _ _ _ h => h) (Or.inr ⟨by rfl, rfl⟩) hHeld ?_
              try simp only [Act.put, List.getElem_toArray, List.getElem_cons_zero, List.getElem_cons_succ, List.setIfInBounds_toArray, List.set_cons_zero, List.set_cons_succ]
              refine wpAnyH_take (i := 18) (v := ?_) rfl (by kernel_rfl) (by kernel_rfl) (by kernel_rfl) (fun _ _ _ h => h) (Or.inl ⟨by rfl, ?_⟩) hHeld ?_
              rotate_left 1
              · (intro w hSw; (try dsimp only at hSw); go_simp; try with_reducible rfl)
              try simp only [Act.put, List.getElem_toArray, List.getElem_cons_zero, List.getElem_cons_succ, List.setIfInBounds_toArray, List.set_cons_zero, List.set_cons_succ]
              refine wpAnyH_done (by kernel_rfl) ?_ _
              refine NoPanic.normal ?_
              go_wp2_with fail
              exact ⟨⟨i + 1, ra, rn, rc, by rw [HW.out]; exact srl i, HIL.out, rfl, HF.out, HFO.out, HG9.out⟩, by rw [HW.out]; exact sms HIL.out⟩
            | true =>
              have KH : Hid (∀ V, G wr V → Calls Tryz.prog 99 #[.slice va vn vc, .string y.key, .agg #[I y.k, I y.a, I y.b, .string y.s]] V fun e W' => e = .returned (.bool (x.ps.any (pB y))) ∧ G V W') := fun V hV => hp_any y x.ps _ V (HVP.out.1.G hV) (HPS.out x (List.mem_of_getElem? HX.out))
              cases hz : x.ps.any (pB y) with
              | false =>
                have hpx : findB label y x.ed = false := by show ((x.lb.toList == label.toList) && x.ps.any (pB y)) = false; rw [hq, hz]; rfl
                rw [hz] at KH
                have HPX := hide hpx
                clear hpx hz
                go_wp2_with fail
                clear x1 x2 x3 kb kv
                refine wp_region_noPanic ?_
                refine wp_region_held_drew (S := (fun V => (∀ t, V.cell? ⟨B1, t, none⟩ = ([.slice (some ⟨g, o, none⟩) n pc, .slice qa en qc] : List Value)[t]?) ∧ (∀ t, V.cell? ⟨B2, t, none⟩ = ([I y.k, I y.a, I y.b, .string y.s] : List Value)[t]?) ∧ V.cell? ⟨g, o + i * 3, none⟩ = some (I x.id) ∧ V.cell? ⟨g, o + i * 3 + 1, none⟩ = some (.string x.lb) ∧ V.cell? ⟨g, o + i * 3 + 2, none⟩ = some (.slice va vn vc) ∧ G wr V)) (by kernel_rfl) (HS9.out _ ((G.refl _).drew)) (fun hHeld => ?_)
                refine wpAnyH_take (i := 0) (v := ?_) rfl (by kernel_rfl) (by kernel_rfl) (by kernel_rfl) (fun _ _ _ h => h) (Or.inl ⟨by rfl, ?_⟩) hHeld ?_
                rotate_left 1
                · (intro w hSw; (try dsimp only at hSw); go_simp; try with_reducible rfl)
                try simp only [Act.put, List.getElem_toArray, List.getElem_cons_zero, List.setIfInBounds_toArray, List.set_cons_zero, List.set_cons_succ]
                refine wpAnyH_take (i := 1) (v := ?_) rfl (by kernel_rfl) (by kernel_rfl) (by kernel_rfl) (fun _ _ _ h => h) (Or.inl ⟨by rfl, ?_⟩) hHeld ?_
                rotate_left 1
                · (intro w hSw; obtain ⟨k1, v1, q0, q1, q2, -⟩ := hSw; go_simp; try with_reducible rfl)
                try simp only [Act.put, List.getElem_toArray, List.getElem_cons_zero, List.getElem_cons_succ, List.setIfInBounds_toArray, List.set_cons_zero, List.set_cons_succ]
                refine wpAnyH_take (i := 2) (v := ?_) rfl (by kernel_rfl) (by kernel_rfl) (by kernel_rfl) (fun _ _ _ h => h) (Or.inl ⟨by rfl, ?_⟩) hHeld ?_
                rotate_left 1
                · (intro w hSw; (try dsimp only at hSw); go_simp; try with_reducible rfl)
                try simp only [Act.put, List.getElem_toArray, List.getElem_cons_zero, List.getElem_cons_succ, List.setIfInBounds_toArray, List.set_cons_zero, List.set_cons_succ]
                refine wpAnyH_take (i := 3) (v := ?_) rfl (by kernel_rfl) (by kernel_rfl) (by kernel_rfl) (fun _ _ _ h => h) (Or.inl ⟨by rfl, ?_⟩) hHeld ?_
                rotate_left 1
                · (intro w hSw; (try dsimp only at hSw); go_simp; try with_reducible rfl)
                try simp only [Act.put, List.getElem_toArray, List.getElem_cons_zero, List.getElem_cons_succ, List.setIfInBounds_toArray, List.set_cons_zero, List.set_cons_succ]
                refine wpAnyH_take (i := 4) (v := ?_) rfl (by kernel_rfl) (by kernel_rfl) (by kernel_rfl) (fun _ _ _ h => h) (Or.inl ⟨by rfl, ?_⟩) hHeld ?_
                rotate_left 1
                · (intro w hSw; (try dsimp only at hSw); go_simp; try with_reducible rfl)
                try simp only [Act.put, List.getElem_toArray, List.getElem_cons_zero, List.getElem_cons_succ, List.setIfInBounds_toArray, List.set_cons_zero, List.set_cons_succ]
                refine wpAnyH_take (i := 5) (v := ?_) rfl (by kernel_rfl) (by kernel_rfl) (by kernel_rfl) (fun _ _ _ h => h) (Or.inl ⟨by rfl, ?_⟩) hHeld ?_
                rotate_left 1
                · (intro w hSw; obtain ⟨k1, v1, q0, q1, q2, -⟩ := hSw; go_simp; try with_reducible rfl)
                try simp only [Act.put, List.getElem_toArray, List.getElem_cons_zero, List.getElem_cons_succ, List.setIfInBounds_toArray, List.set_cons_zero, List.set_cons_succ]
                refine wpAnyH_take (i := 6) (v := ?_) rfl (by kernel_rfl) (by kernel_rfl) (by kernel_rfl) (fun _ _ _ h => h) (Or.inl ⟨by rfl, ?_⟩) hHeld ?_
                rotate_left 1
                · (intro w hSw; (try dsimp only at hSw); go_simp; try with_reducible rfl)
                try simp only [Act.put, List.getElem_toArray, List.getElem_cons_zero, List.getElem_cons_succ, List.setIfInBounds_toArray, List.set_cons_zero, List.set_cons_succ]
                refine wpAnyH_take (i := 7) (v := (.bool true)) rfl (by kernel_rfl) (by kernel_rfl) (by kernel_rfl) (fun _ _ _ h => h) (Or.inl ⟨by rfl, ?_⟩) hHeld ?_
                · (intro w hSw; first | (go_simp; done) | (go_simp; exact hq) | (go_simp; simp [hq]))
                try simp only [Act.put, List.getElem_toArray, List.getElem_cons_zero, List.getElem_cons_succ, List.setIfInBounds_toArray, List.set_cons_zero, List.set_cons_succ]
                refine wpAnyH_take (i := 8) (v := ?_) rfl (by kernel_rfl) (by kernel_rfl) (by kernel_rfl) (fun _ _ _ h => h) (Or.inl ⟨by rfl, ?_⟩) hHeld ?_
                rotate_left 1
                · (intro w hSw; (try dsimp only at hSw); go_simp; try with_reducible rfl)
                try simp only [Act.put, List.getElem_toArray, List.getElem_cons_zero, List.getElem_cons_succ, List.setIfInBounds_toArray, List.set_cons_zero, List.set_cons_succ]
                refine wpAnyH_take (i := 9) (v := ?_) rfl (by kernel_rfl) (by kernel_rfl) (by kernel_rfl) (fun _ _ _ h => h) (Or.inl ⟨by rfl, ?_⟩) hHeld ?_
                rotate_left 1
                · (intro w hSw; (try dsimp only at hSw); go_simp; try with_reducible rfl)
                try simp only [Act.put, List.getElem_toArray, List.getElem_cons_zero, List.getElem_cons_succ, List.setIfInBounds_toArray, List.set_cons_zero, List.set_cons_succ]
                refine wpAnyH_take (i := 10) (v := ?_) rfl (by kernel_rfl) (by kernel_rfl) (by kernel_rfl) (fun _ _ _ h => h) (Or.inl ⟨by rfl, ?_⟩) hHeld ?_
                rotate_left 1
                · (intro w hSw; obtain ⟨k1, v1, q0, q1, q2, -⟩ := hSw; go_simp; try with_reducible rfl)
                try simp only [Act.put, List.getElem_toArray, List.getElem_cons_zero, List.getElem_cons_succ, List.setIfInBounds_toArray, List.set_cons_zero, List.set_cons_succ]
                refine wpAnyH_take (i := 11) (v := ?_) rfl (by kernel_rfl) (by kernel_rfl) (by kernel_rfl) (fun _ _ _ h => h) (Or.inl ⟨by rfl, ?_⟩) hHeld ?_
                rotate_left 1
                · (intro w hSw; (try dsimp only at hSw); go_simp; try with_reducible rfl)
                try simp only [Act.put, List.getElem_toArray, List.getElem_cons_zero, List.getElem_cons_succ, List.setIfInBounds_toArray, List.set_cons_zero, List.set_cons_succ]
                refine wpAnyH_take (i := 12) (v := ?_) rfl (by kernel_rfl) (by kernel_rfl) (by kernel_rfl) (fun _ _ _ h => h) (Or.inl ⟨by rfl, ?_⟩) hHeld ?_
                rotate_left 1
                · (intro w hSw; (try dsimp only at hSw); go_simp; try with_reducible rfl)
                try simp only [Act.put, List.getElem_toArray, List.getElem_cons_zero, List.getElem_cons_succ, List.setIfInBounds_toArray, List.set_cons_zero, List.set_cons_succ]
                refine wpAnyH_take (i := 13) (v := ?_) rfl (by kernel_rfl) (by kernel_rfl) (by kernel_rfl) (fun _ _ _ h => h) (Or.inl ⟨by rfl, ?_⟩) hHeld ?_
                rotate_left 1
                · (intro w hSw; (try dsimp only at hSw); go_simp; try with_reducible rfl)
                try simp only [Act.put, List.getElem_toArray, List.getElem_cons_zero, List.getElem_cons_succ, List.setIfInBounds_toArray, List.set_cons_zero, List.set_cons_succ]
                refine wpAnyH_take (i := 14) (v := ?_) rfl (by kernel_rfl) (by kernel_rfl) (by kernel_rfl) (fun _ _ _ h => h) (Or.inl ⟨by rfl, ?_⟩) hHeld ?_
                rotate_left 1
                · (intro w hSw; obtain ⟨k1, v1, q0, q1, q2, -⟩ := hSw; go_simp; try with_reducible rfl)
                try simp only [Act.put, List.getElem_toArray, List.getElem_cons_zero, List.getElem_cons_succ, List.setIfInBounds_toArray, List.set_cons_zero, List.set_cons_succ]
                refine wpAnyH_take (i := 15) (v := ?_) rfl (by kernel_rfl) (by kernel_rfl) (by kernel_rfl) (fun _ _ _ h => h) (Or.inl ⟨by rfl, ?_⟩) hHeld ?_
                rotate_left 1
                · (intro w hSw; (try dsimp only at hSw); go_simp; try with_reducible rfl)
                try simp only [Act.put, List.getElem_toArray, List.getElem_cons_zero, List.getElem_cons_succ, List.setIfInBounds_toArray, List.set_cons_zero, List.set_cons_succ]
                refine wpAnyH_take (i := 16) (v := ?_) rfl (by kernel_rfl) (by kernel_rfl) (by kernel_rfl) (fun _ _ _ h => h) (Or.inl ⟨by rfl, ?_⟩) hHeld ?_
                rotate_left 1
                · (intro w hSw; obtain ⟨k1, v1, q0, q1, q2, -⟩ := hSw; go_simp; try with_reducible rfl)
                try simp only [Act.put, List.getElem_toArray, List.getElem_cons_zero, List.getElem_cons_succ, List.setIfInBounds_toArray, List.set_cons_zero, List.set_cons_succ]
                refine wpAnyH_ready (rs := [17]) (by kernel_rfl) (by simp) (AllReadyH.cons rfl (fun K hK => ?_) AllReadyH.nil)
                clear hHeld
                (try refine (if_pos rfl).mpr ?_)
                go_simp
                refine (KH.out _ ((G.refl _).drew)).mono ?_
                rintro e w8 ⟨rfl, g8'⟩
                have g8 : G wr w8 := ((G.refl _).drew).trans g8'
                clear g8' KH
                go_wp2_with fail
                refine hK.out _ _ (HS9.out w8 g8) (fun hHeld => ?_)
                clear hK K
                try simp only [Act.put, List.getElem_toArray, List.getElem_cons_zero, List.getElem_cons_succ, List.setIfInBounds_toArray, List.set_cons_zero, List.set_cons_succ]
                refine wpAnyH_take (i := 18) (v := ?_) rfl (by kernel_rfl) (by kernel_rfl) (by kernel_rfl) (fun _ _ _ h => h) (Or.inl ⟨by rfl, ?_⟩) hHeld ?_
                rotate_left 1
                · (intro w hSw; (try dsimp only at hSw); go_simp; try with_reducible rfl)
                try simp only [Act.put, List.getElem_toArray, List.getElem_cons_zero, List.getElem_cons_succ, List.setIfInBounds_toArray, List.set_cons_zero, List.set_cons_succ]
                refine wpAnyH_done (by kernel_rfl) ?_ _
                refine NoPanic.normal ?_
                have hpx := HPX.out
                have HF : Hid (Sw eI 2 w8 (.slice ra rn rc) ((((ns.take (i + 1)).map Nd.ed).filter (findB label y)).map (·.id))) := by
                  rw [Hid, List.take_add_one, HX.out, List.map_append, List.filter_append]
                  simpa [hpx] using HSO.out.G g8
                have HG9 : Hid (G w2 w8) := HG.out.trans g8
                clear hpx g8
                go_wp2_with fail
                exact ⟨⟨i + 1, ra, rn, rc, by rw [HW.out]; exact srl i, HIL.out, rfl, HF.out, HFO.out, HG9.out⟩, by rw [HW.out]; exact sms HIL.out⟩
              | true =>
                have hpx : findB label y x.ed = true := by show ((x.lb.toList == label.toList) && x.ps.any (pB y)) = true; rw [hq, hz]; rfl
                rw [hz] at KH
                have HPX := hide hpx
                clear hpx hz
                go_wp2_with fail
                clear x1 x2 x3 kb kv
                refine wp_region_noPanic ?_
                refine wp_region_held_drew (S := (fun V => (∀ t, V.cell? ⟨B1, t, none⟩ = ([.slice (some ⟨g, o, none⟩) n pc, .slice qa en qc] : List Value)[t]?) ∧ (∀ t, V.cell? ⟨B2, t, none⟩ = ([I y.k, I y.a, I y.b, .string y.s] : List Value)[t]?) ∧ V.cell? ⟨g, o + i * 3, none⟩ = some (I x.id) ∧ V.cell? ⟨g, o + i * 3 + 1, none⟩ = some (.string x.lb) ∧ V.cell? ⟨g, o + i * 3 + 2, none⟩ = some (.slice va vn vc) ∧ G wr V)) (by kernel_rfl) (HS9.out _ ((G.refl _).drew)) (fun hHeld => ?_)
                refine wpAnyH_take (i := 0) (v := ?_) rfl (by kernel_rfl) (by kernel_rfl) (by kernel_rfl) (fun _ _ _ h => h) (Or.inl ⟨by rfl, ?_⟩) hHeld ?_
                rotate_left 1
                · (intro w hSw; (try dsimp only at hSw); go_simp; try with_reducible rfl)
                try simp only [Act.put, List.getElem_toArray, List.getElem_cons_zero, List.setIfInBounds_toArray, List.set_cons_zero, List.set_cons_succ]
                refine wpAnyH_take (i := 1) (v := ?_) rfl (by kernel_rfl) (by kernel_rfl) (by kernel_rfl) (fun _ _ _ h => h) (Or.inl ⟨by rfl, ?_⟩) hHeld ?_
                rotate_left 1
                · (intro w hSw; obtain ⟨k1, v1, q0, q1, q2, -⟩ := hSw; go_simp; try with_reducible rfl)
                try simp only [Act.put, List.getElem_toArray, List.getElem_cons_zero, List.getElem_cons_succ, List.setIfInBounds_toArray, List.set_cons_zero, List.set_cons_succ]
                refine wpAnyH_take (i := 2) (v := ?_) rfl (by kernel_rfl) (by kernel_rfl) (by kernel_rfl) (fun _ _ _ h => h) (Or.inl ⟨by rfl, ?_⟩) hHeld ?_
                rotate_left 1
                · (intro w hSw; (try dsimp only at hSw); go_simp; try with_reducible rfl)
                try simp only [Act.put, List.getElem_toArray, List.getElem_cons_zero, List.getElem_cons_succ, List.setIfInBounds_toArray, List.set_cons_zero, List.set_cons_succ]
                refine wpAnyH_take (i := 3) (v := ?_) rfl (by kernel_rfl) (by kernel_rfl) (by kernel_rfl) (fun _ _ _ h => h) (Or.inl ⟨by rfl, ?_⟩) hHeld ?_
                rotate_left 1
                · (intro w hSw; (try dsimp only at hSw); go_simp; try with_reducible rfl)
                try simp only [Act.put, List.getElem_toArray, List.getElem_cons_zero, List.getElem_cons_succ, List.setIfInBounds_toArray, List.set_cons_zero, List.set_cons_succ]
                refine wpAnyH_take (i := 4) (v := ?_) rfl (by kernel_rfl) (by kernel_rfl) (by kernel_rfl) (fun _ _ _ h => h) (Or.inl ⟨by rfl, ?_⟩) hHeld ?_
                rotate_left 1
                · (intro w hSw; (try dsimp only at hSw); go_simp; try with_reducible rfl)
                try simp only [Act.put, List.getElem_toArray, List.getElem_cons_zero, List.getElem_cons_succ, List.setIfInBounds_toArray, List.set_cons_zero, List.set_cons_succ]
                refine wpAnyH_take (i := 5) (v := ?_) rfl (by kernel_rfl) (by kernel_rfl) (by kernel_rfl) (fun _ _ _ h => h) (Or.inl ⟨by rfl, ?_⟩) hHeld ?_
                rotate_left 1
                · (intro w hSw; obtain ⟨k1, v1, q0, q1, q2, -⟩ := hSw; go_simp; try with_reducible rfl)
                try simp only [Act.put, List.getElem_toArray, List.getElem_cons_zero, List.getElem_cons_succ, List.setIfInBounds_toArray, List.set_cons_zero, List.set_cons_succ]
                refine wpAnyH_take (i := 6) (v := ?_) rfl (by kernel_rfl) (by kernel_rfl) (by kernel_rfl) (fun _ _ _ h => h) (Or.inl ⟨by rfl, ?_⟩) hHeld ?_
                rotate_left 1
                · (intro w hSw; (try dsimp only at hSw); go_simp; try with_reducible rfl)
                try simp only [Act.put, List.getElem_toArray, List.getElem_cons_zero, List.getElem_cons_succ, List.setIfInBounds_toArray, List.set_cons_zero, List.set_cons_succ]
                refine wpAnyH_take (i := 7) (v := (.bool true)) rfl (by kernel_rfl) (by kernel_rfl) (by kernel_rfl) (fun _ _ _ h => h) (Or.inl ⟨by rfl, ?_⟩) hHeld ?_
                · (intro w hSw; first | (go_simp; done) | (go_simp; exact hq) | (go_simp; simp [hq]))
                try simp only [Act.put, List.getElem_toArray, List.getElem_cons_zero, List.getElem_cons_succ, List.setIfInBounds_toArray, List.set_cons_zero, List.set_cons_succ]
                refine wpAnyH_take (i := 8) (v := ?_) rfl (by kernel_rfl) (by kernel_rfl) (by kernel_rfl) (fun _ _ _ h => h) (Or.inl ⟨by rfl, ?_⟩) hHeld ?_
                rotate_left 1
                · (intro w hSw; (try dsimp only at hSw); go_simp; try with_reducible rfl)
                try simp only [Act.put, List.getElem_toArray, List.getElem_cons_zero, List.getElem_cons_succ, List.setIfInBounds_toArray, List.set_cons_zero, List.set_cons_succ]
                refine wpAnyH_take (i := 9) (v := ?_) rfl (by kernel_rfl) (by kernel_rfl) (by kernel_rfl) (fun _ _ _ h => h) (Or.inl ⟨by rfl, ?_⟩) hHeld ?_
                rotate_left 1
                · (intro w hSw; (try dsimp only at hSw); go_simp; try with_reducible rfl)
                try simp only [Act.put, List.getElem_toArray, List.getElem_cons_zero, List.getElem_cons_succ, List.setIfInBounds_toArray, List.set_cons_zero, List.set_cons_succ]
                refine wpAnyH_take (i := 10) (v := ?_) rfl (by kernel_rfl) (by kernel_rfl) (by kernel_rfl) (fun _ _ _ h => h) (Or.inl ⟨by rfl, ?_⟩) hHeld ?_
                rotate_left 1
                · (intro w hSw; obtain ⟨k1, v1, q0, q1, q2, -⟩ := hSw; go_simp; try with_reducible rfl)
                try simp only [Act.put, List.getElem_toArray, List.getElem_cons_zero, List.getElem_cons_succ, List.setIfInBounds_toArray, List.set_cons_zero, List.set_cons_succ]
                refine wpAnyH_take (i := 11) (v := ?_) rfl (by kernel_rfl) (by kernel_rfl) (by kernel_rfl) (fun _ _ _ h => h) (Or.inl ⟨by rfl, ?_⟩) hHeld ?_
                rotate_left 1
                · (intro w hSw; (try dsimp only at hSw); go_simp; try with_reducible rfl)
                try simp only [Act.put, List.getElem_toArray, List.getElem_cons_zero, List.getElem_cons_succ, List.setIfInBounds_toArray, List.set_cons_zero, List.set_cons_succ]
                refine wpAnyH_take (i := 12) (v := ?_) rfl (by kernel_rfl) (by kernel_rfl) (by kernel_rfl) (fun _ _ _ h => h) (Or.inl ⟨by rfl, ?_⟩) hHeld ?_
                rotate_left 1
                · (intro w hSw; (try dsimp only at hSw); go_simp; try with_reducible rfl)
                try simp only [Act.put, List.getElem_toArray, List.getElem_cons_zero, List.getElem_cons_succ, List.setIfInBounds_toArray, List.set_cons_zero, List.set_cons_succ]
                refine wpAnyH_take (i := 13) (v := ?_) rfl (by kernel_rfl) (by kernel_rfl) (by kernel_rfl) (fun _ _ _ h => h) (Or.inl ⟨by rfl, ?_⟩) hHeld ?_
                rotate_left 1
                · (intro w hSw; (try dsimp only at hSw); go_simp; try with_reducible rfl)
                try simp only [Act.put, List.getElem_toArray, List.getElem_cons_zero, List.getElem_cons_succ, List.setIfInBounds_toArray, List.set_cons_zero, List.set_cons_succ]
                refine wpAnyH_take (i := 14) (v := ?_) rfl (by kernel_rfl) (by kernel_rfl) (by kernel_rfl) (fun _ _ _ h => h) (Or.inl ⟨by rfl, ?_⟩) hHeld ?_
                rotate_left 1
                · (intro w hSw; obtain ⟨k1, v1, q0, q1, q2, -⟩ := hSw; go_simp; try with_reducible rfl)
                try simp only [Act.put, List.getElem_toArray, List.getElem_cons_zero, List.getElem_cons_succ, List.setIfInBounds_toArray, List.set_cons_zero, List.set_cons_succ]
                refine wpAnyH_take (i := 15) (v := ?_) rfl (by kernel_rfl) (by kernel_rfl) (by kernel_rfl) (fun _ _ _ h => h) (Or.inl ⟨by rfl, ?_⟩) hHeld ?_
                rotate_left 1
                · (intro w hSw; (try dsimp only at hSw); go_simp; try with_reducible rfl)
                try simp only [Act.put, List.getElem_toArray, List.getElem_cons_zero, List.getElem_cons_succ, List.setIfInBounds_toArray, List.set_cons_zero, List.set_cons_succ]
                refine wpAnyH_take (i := 16) (v := ?_) rfl (by kernel_rfl) (by kernel_rfl) (by kernel_rfl) (fun _ _ _ h => h) (Or.inl ⟨by rfl, ?_⟩) hHeld ?_
                rotate_left 1
                · (intro w hSw; obtain ⟨k1, v1, q0, q1, q2, -⟩ := hSw; go_simp; try with_reducible rfl)
                try simp only [Act.put, List.getElem_toArray, List.getElem_cons_zero, List.getElem_cons_succ, List.setIfInBounds_toArray, List.set_cons_zero, List.set_cons_succ]
                refine wpAnyH_ready (rs := [17]) (by kernel_rfl) (by simp) (AllReadyH.cons rfl (fun K hK => ?_) AllReadyH.nil)
                clear hHeld
                (try refine (if_pos rfl).mpr ?_)
                go_simp
                refine (KH.out _ ((G.refl _).drew)).mono ?_
                rintro e w8 ⟨rfl, g8'⟩
                have g8 : G wr w8 := ((G.refl _).drew).trans g8'
                clear g8' KH
                go_wp2_with fail
                refine hK.out _ _ (HS9.out w8 g8) (fun hHeld => ?_)
                clear hK K
                try simp only [Act.put, List.getElem_toArray, List.getElem_cons_zero, List.getElem_cons_succ, List.setIfInBounds_toArray, List.set_cons_zero, List.set_cons_succ]
                refine wpAnyH_take (i := 18) (v := ?_) rfl (by kernel_rfl) (by kernel_rfl) (by kernel_rfl) (fun _ _ _ h => h) (Or.inl ⟨by rfl, ?_⟩) hHeld ?_
                rotate_left 1
                · (intro w hSw; (try dsimp only at hSw); go_simp; try with_reducible rfl)
                try simp only [Act.put, List.getElem_toArray, List.getElem_cons_zero, List.getElem_cons_succ, List.setIfInBounds_toArray, List.set_cons_zero, List.set_cons_succ]
                refine wpAnyH_done (by kernel_rfl) ?_ _
                refine NoPanic.normal ?_
                have hpx := HPX.out
                obtain ⟨k1, v1, q0, q1, q2, -⟩ := HS9.out w8 g8
                obtain ⟨i0, hi0, hz0, hz1, hz2⟩ := info_64
                have hmx : (4000000000000 : Nat) ≤ maxLen := of_decide_eq_true (by kernel_rfl)
                have hll : ((((ns.take i).map Nd.ed).filter (findB label y)).map (·.id)).length = rn := HSO.out.len_eq
                have hrl := HRL.out
                have hil := HIL.out
                have hlm := HL.out
                obtain ⟨a5, c5, w5, r1, r2, r3, r4, -⟩ := push (P := Tryz.prog) (tr := 73) i0 _ 8 Tryz.underlying73 hi0 hz0 hz1 hz2 rfl (by decide) (HSO.out.G g8) (x.id) (HG.out.trans g8) HFO.out (by omega) (by omega)
                rw [hll] at r1 r2 r4
                have HF : Hid (Sw eI 2 w5 (.slice a5 (rn + 1) c5) ((((ns.take (i + 1)).map Nd.ed).filter (findB label y)).map (·.id)) ∧ Fresh w2 (.slice a5 (rn + 1) c5) ∧ G w2 w5) := by
                  refine ⟨?_, r4, r3⟩
                  rw [List.take_add_one, HX.out, List.map_append, List.filter_append]
                  simpa [hpx, show x.ed.id = x.id from rfl] using r2
                have HR := hide r1
                clear hi0 hz0 hz1 hz2 hmx hll hrl hil hlm r1 r2 r3 r4
                clear hpx g8
                go_wp2_with (first | (at_builtin; refine wpList_append_run rfl _ _ 73 rfl (.slice ra rn rc) (.slice (some ⟨w8.heap.size, 0, none⟩) 1 1) rfl rfl HR.out ?_) | fail)
                obtain ⟨f1, f2, f3⟩ := HF.out
                exact ⟨⟨i + 1, a5, rn + 1, c5, by rw [HW.out]; exact srl i, HIL.out, rfl, f1, f2, f3⟩, by rw [HW.out]; exact sms HIL.out⟩
          · have i1 : ¬ (i : Int) < (n : Int) := by omega
            have HF : Hid (AnsI W wr (.returned (.tuple #[.slice ra rn rc, I 0])) (0, (((ns.map Nd.ed).filter (findB label y)).map (·.id))) ∧ G W wr) := ⟨⟨ra, rn, rc, rfl, by rw [List.take_of_length_le (by omega)] at hso; exact hso, hfo.old HGW.out⟩, HGW.out.trans hg⟩
            clear hik hil hso hfo hg hll
            go_wp2_with fail
            go_ret2
            rw [HANS.out]
            exact HF.out
end Go.Proofs.YtifioikdhfhljaaGreatDoor
