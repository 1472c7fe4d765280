/- Rules: what the document says is what the program takes. -/
import Derived.Test.YtifioikdhfhljaaGreatDoorRu9
namespace Go.Proofs.YtifioikdhfhljaaGreatDoor
open Go.RowKit

theorem fit0 : fitS false { data := #[] } = true := by
  show ({ data := #[] } : ByteArray).toList.isEmpty = true
  rw [e0_toList]
  rfl
theorem says_said (x : Nd) (h : PsOk x.ps) (hs : saysB x = true) : saidB x = true := by
  unfold saysB at hs
  by_cases h0 : nbP x.ps [111, 102] = false
  · rw [if_pos h0] at hs; cases hs
  rw [if_neg h0] at hs
  have hof : nbP x.ps [111, 102] = true := by simpa using h0
  obtain ⟨pof, lof, kof, nof⟩ := of_nbP hof
  by_cases hw : (saysW x).toList = [117, 110, 105, 113, 117, 101]
  · rw [if_pos hw] at hs
    obtain ⟨pkind, lkind, hkk⟩ : ∃ p, lookP x.ps [107, 105, 110, 100] = some p ∧ p.s.toList = [117, 110, 105, 113, 117, 101] := by
      unfold saysW lkP at hw
      cases q : lookP x.ps [107, 105, 110, 100] with
      | none =>
        rw [q] at hw
        have hw : ({ data := #[] } : ByteArray).toList = [117, 110, 105, 113, 117, 101] := hw
        rw [e0_toList] at hw
        cases hw
      | some p => rw [q] at hw; exact ⟨p, rfl, hw⟩
    have kkind : pkind.k = 4 := by
      by_cases e : pkind.k = 4
      · exact e
      · have := h.st pkind (lookP_mem lkind).1 e
        rw [hkk] at this
        cases this
    simp only [Bool.and_eq_true] at hs
    obtain ⟨s1, hlen⟩ := hs
    obtain ⟨pkey, lkey, kkey, nkey⟩ := of_nbP s1
    have hlen : x.ps.length = 3 := by have := eq_of_beq hlen; omega
    have hpig := pig [[107, 105, 110, 100], [111, 102], [107, 101, 121]] (x.ps.map fun p => p.key.toList) (by decide) (fun k hk => by
      simp only [List.mem_cons, List.not_mem_nil, or_false] at hk
      rcases hk with rfl | rfl | rfl
      · exact List.mem_map.2 ⟨_, (lookP_mem lkind).1, (lookP_mem lkind).2⟩
      · exact List.mem_map.2 ⟨_, (lookP_mem lof).1, (lookP_mem lof).2⟩
      · exact List.mem_map.2 ⟨_, (lookP_mem lkey).1, (lookP_mem lkey).2⟩) (by rw [List.length_map, hlen]; decide)
    have hkeys : ∀ p ∈ x.ps, p.key.toList = [107, 105, 110, 100] ∨ p.key.toList = [111, 102] ∨ p.key.toList = [107, 101, 121] := fun p hp => by
      have := hpig _ (List.mem_map.2 ⟨p, hp, rfl⟩)
      simpa only [List.mem_cons, List.not_mem_nil, or_false] using this
    have qkind : ∀ p ∈ x.ps, p.key.toList = [107, 105, 110, 100] → p = pkind := fun p hp e => by
      have := lookP_of h hp
      rw [e, lkind] at this
      exact (Option.some.inj this).symm
    have qof : ∀ p ∈ x.ps, p.key.toList = [111, 102] → p = pof := fun p hp e => by
      have := lookP_of h hp
      rw [e, lof] at this
      exact (Option.some.inj this).symm
    have qkey : ∀ p ∈ x.ps, p.key.toList = [107, 101, 121] → p = pkey := fun p hp e => by
      have := lookP_of h hp
      rw [e, lkey] at this
      exact (Option.some.inj this).symm
    have vn : (saidR x).n = 0 := by
      rw [sf_n x h, lookP_none (fun p hp e => by rcases hkeys p hp with q | q | q <;> (rw [q] at e; exact absurd e (by decide)))]
    have vkind : (saidR x).kind = 1 := by
      rw [sf_kind x h, lkind]
      show kindV pkind.s = _
      unfold kindV
      rw [hkk]
      rfl
    have vof : (saidR x).of = pof.s := by rw [sf_of x h, lof]
    have vkey : (saidR x).key = pkey.s := by rw [sf_key x h, lkey]
    have vis : (saidR x).is = 0 := by
      rw [sf_is x h, lookP_none (fun p hp e => by rcases hkeys p hp with q | q | q <;> (rw [q] at e; exact absurd e (by decide)))]
    have vfr : (saidR x).fr = { data := #[] } := by
      rw [sf_fr x h, lookP_none (fun p hp e => by rcases hkeys p hp with q | q | q <;> (rw [q] at e; exact absurd e (by decide)))]
    have vdst : (saidR x).dst = { data := #[] } := by
      rw [sf_dst x h, lookP_none (fun p hp e => by rcases hkeys p hp with q | q | q <;> (rw [q] at e; exact absurd e (by decide)))]
    have ht : x.ps.all takeB = true := List.all_eq_true.2 (fun p hp => by
      rcases hkeys p hp with q | q | q
      · rw [tb_kind q, qkind p hp q, kkind]; rfl
      · rw [tb_of q, qof p hp q, kof]; rfl
      · rw [tb_key q, qkey p hp q, kkey]; rfl)
    have hh : (x.ps.any fun y => !hasB (fKey 1) (fIs 1) (fEnds 1) (fN 1) y.key) = false := List.any_eq_false.2 (fun p hp => by
      rcases hkeys p hp with q | q | q <;> (unfold hasB; rw [q]; decide))
    have hst : standsB (saidR x) = true := by
      unfold standsB
      rw [vkind, vof, vkey, vis, vfr, vdst, vn, nof]
      rw [show fitS (fKey 1) pkey.s = true from nkey]
      rw [show fitS (fEnds 1) { data := #[] } = true from fit0]
      rfl
    unfold saidB
    rw [ht, hst, vkind]
    unfold kAll allB
    rw [hlen, hh]
    rfl
  rw [if_neg hw] at hs
  by_cases hw : (saysW x).toList = [110, 101, 101, 100, 115]
  · rw [if_pos hw] at hs
    obtain ⟨pkind, lkind, hkk⟩ : ∃ p, lookP x.ps [107, 105, 110, 100] = some p ∧ p.s.toList = [110, 101, 101, 100, 115] := by
      unfold saysW lkP at hw
      cases q : lookP x.ps [107, 105, 110, 100] with
      | none =>
        rw [q] at hw
        have hw : ({ data := #[] } : ByteArray).toList = [110, 101, 101, 100, 115] := hw
        rw [e0_toList] at hw
        cases hw
      | some p => rw [q] at hw; exact ⟨p, rfl, hw⟩
    have kkind : pkind.k = 4 := by
      by_cases e : pkind.k = 4
      · exact e
      · have := h.st pkind (lookP_mem lkind).1 e
        rw [hkk] at this
        cases this
    simp only [Bool.and_eq_true] at hs
    obtain ⟨s1, hlen⟩ := hs
    obtain ⟨pkey, lkey, kkey, nkey⟩ := of_nbP s1
    have hlen : x.ps.length = 3 := by have := eq_of_beq hlen; omega
    have hpig := pig [[107, 105, 110, 100], [111, 102], [107, 101, 121]] (x.ps.map fun p => p.key.toList) (by decide) (fun k hk => by
      simp only [List.mem_cons, List.not_mem_nil, or_false] at hk
      rcases hk with rfl | rfl | rfl
      · exact List.mem_map.2 ⟨_, (lookP_mem lkind).1, (lookP_mem lkind).2⟩
      · exact List.mem_map.2 ⟨_, (lookP_mem lof).1, (lookP_mem lof).2⟩
      · exact List.mem_map.2 ⟨_, (lookP_mem lkey).1, (lookP_mem lkey).2⟩) (by rw [List.length_map, hlen]; decide)
    have hkeys : ∀ p ∈ x.ps, p.key.toList = [107, 105, 110, 100] ∨ p.key.toList = [111, 102] ∨ p.key.toList = [107, 101, 121] := fun p hp => by
      have := hpig _ (List.mem_map.2 ⟨p, hp, rfl⟩)
      simpa only [List.mem_cons, List.not_mem_nil, or_false] using this
    have qkind : ∀ p ∈ x.ps, p.key.toList = [107, 105, 110, 100] → p = pkind := fun p hp e => by
      have := lookP_of h hp
      rw [e, lkind] at this
      exact (Option.some.inj this).symm
    have qof : ∀ p ∈ x.ps, p.key.toList = [111, 102] → p = pof := fun p hp e => by
      have := lookP_of h hp
      rw [e, lof] at this
      exact (Option.some.inj this).symm
    have qkey : ∀ p ∈ x.ps, p.key.toList = [107, 101, 121] → p = pkey := fun p hp e => by
      have := lookP_of h hp
      rw [e, lkey] at this
      exact (Option.some.inj this).symm
    have vn : (saidR x).n = 0 := by
      rw [sf_n x h, lookP_none (fun p hp e => by rcases hkeys p hp with q | q | q <;> (rw [q] at e; exact absurd e (by decide)))]
    have vkind : (saidR x).kind = 2 := by
      rw [sf_kind x h, lkind]
      show kindV pkind.s = _
      unfold kindV
      rw [hkk]
      rfl
    have vof : (saidR x).of = pof.s := by rw [sf_of x h, lof]
    have vkey : (saidR x).key = pkey.s := by rw [sf_key x h, lkey]
    have vis : (saidR x).is = 0 := by
      rw [sf_is x h, lookP_none (fun p hp e => by rcases hkeys p hp with q | q | q <;> (rw [q] at e; exact absurd e (by decide)))]
    have vfr : (saidR x).fr = { data := #[] } := by
      rw [sf_fr x h, lookP_none (fun p hp e => by rcases hkeys p hp with q | q | q <;> (rw [q] at e; exact absurd e (by decide)))]
    have vdst : (saidR x).dst = { data := #[] } := by
      rw [sf_dst x h, lookP_none (fun p hp e => by rcases hkeys p hp with q | q | q <;> (rw [q] at e; exact absurd e (by decide)))]
    have ht : x.ps.all takeB = true := List.all_eq_true.2 (fun p hp => by
      rcases hkeys p hp with q | q | q
      · rw [tb_kind q, qkind p hp q, kkind]; rfl
      · rw [tb_of q, qof p hp q, kof]; rfl
      · rw [tb_key q, qkey p hp q, kkey]; rfl)
    have hh : (x.ps.any fun y => !hasB (fKey 2) (fIs 2) (fEnds 2) (fN 2) y.key) = false := List.any_eq_false.2 (fun p hp => by
      rcases hkeys p hp with q | q | q <;> (unfold hasB; rw [q]; decide))
    have hst : standsB (saidR x) = true := by
      unfold standsB
      rw [vkind, vof, vkey, vis, vfr, vdst, vn, nof]
      rw [show fitS (fKey 2) pkey.s = true from nkey]
      rw [show fitS (fEnds 2) { data := #[] } = true from fit0]
      rfl
    unfold saidB
    rw [ht, hst, vkind]
    unfold kAll allB
    rw [hlen, hh]
    rfl
  rw [if_neg hw] at hs
  by_cases hw : (saysW x).toList = [111, 110, 108, 121]
  · rw [if_pos hw] at hs
    obtain ⟨pkind, lkind, hkk⟩ : ∃ p, lookP x.ps [107, 105, 110, 100] = some p ∧ p.s.toList = [111, 110, 108, 121] := by
      unfold saysW lkP at hw
      cases q : lookP x.ps [107, 105, 110, 100] with
      | none =>
        rw [q] at hw
        have hw : ({ data := #[] } : ByteArray).toList = [111, 110, 108, 121] := hw
        rw [e0_toList] at hw
        cases hw
      | some p => rw [q] at hw; exact ⟨p, rfl, hw⟩
    have kkind : pkind.k = 4 := by
      by_cases e : pkind.k = 4
      · exact e
      · have := h.st pkind (lookP_mem lkind).1 e
        rw [hkk] at this
        cases this
    simp only [Bool.and_eq_true] at hs
    obtain ⟨s1, s2, s3, hlen⟩ := hs
    obtain ⟨pkey, lkey, kkey, nkey⟩ := of_nbP s1
    obtain ⟨pis, lis, kis⟩ := of_tbP s2
    rw [lkP_of lis] at s3
    have s3 := of_decide_eq_true s3
    have s4 := typeV_le pis.s
    have hlen : x.ps.length = 4 := by have := eq_of_beq hlen; omega
    have hpig := pig [[107, 105, 110, 100], [111, 102], [107, 101, 121], [116, 121, 112, 101]] (x.ps.map fun p => p.key.toList) (by decide) (fun k hk => by
      simp only [List.mem_cons, List.not_mem_nil, or_false] at hk
      rcases hk with rfl | rfl | rfl | rfl
      · exact List.mem_map.2 ⟨_, (lookP_mem lkind).1, (lookP_mem lkind).2⟩
      · exact List.mem_map.2 ⟨_, (lookP_mem lof).1, (lookP_mem lof).2⟩
      · exact List.mem_map.2 ⟨_, (lookP_mem lkey).1, (lookP_mem lkey).2⟩
      · exact List.mem_map.2 ⟨_, (lookP_mem lis).1, (lookP_mem lis).2⟩) (by rw [List.length_map, hlen]; decide)
    have hkeys : ∀ p ∈ x.ps, p.key.toList = [107, 105, 110, 100] ∨ p.key.toList = [111, 102] ∨ p.key.toList = [107, 101, 121] ∨ p.key.toList = [116, 121, 112, 101] := fun p hp => by
      have := hpig _ (List.mem_map.2 ⟨p, hp, rfl⟩)
      simpa only [List.mem_cons, List.not_mem_nil, or_false] using this
    have qkind : ∀ p ∈ x.ps, p.key.toList = [107, 105, 110, 100] → p = pkind := fun p hp e => by
      have := lookP_of h hp
      rw [e, lkind] at this
      exact (Option.some.inj this).symm
    have qof : ∀ p ∈ x.ps, p.key.toList = [111, 102] → p = pof := fun p hp e => by
      have := lookP_of h hp
      rw [e, lof] at this
      exact (Option.some.inj this).symm
    have qkey : ∀ p ∈ x.ps, p.key.toList = [107, 101, 121] → p = pkey := fun p hp e => by
      have := lookP_of h hp
      rw [e, lkey] at this
      exact (Option.some.inj this).symm
    have qis : ∀ p ∈ x.ps, p.key.toList = [116, 121, 112, 101] → p = pis := fun p hp e => by
      have := lookP_of h hp
      rw [e, lis] at this
      exact (Option.some.inj this).symm
    have vn : (saidR x).n = 0 := by
      rw [sf_n x h, lookP_none (fun p hp e => by rcases hkeys p hp with q | q | q | q <;> (rw [q] at e; exact absurd e (by decide)))]
    have vkind : (saidR x).kind = 3 := by
      rw [sf_kind x h, lkind]
      show kindV pkind.s = _
      unfold kindV
      rw [hkk]
      rfl
    have vof : (saidR x).of = pof.s := by rw [sf_of x h, lof]
    have vkey : (saidR x).key = pkey.s := by rw [sf_key x h, lkey]
    have vis : (saidR x).is = typeV pis.s := by rw [sf_is x h, lis]
    have vfr : (saidR x).fr = { data := #[] } := by
      rw [sf_fr x h, lookP_none (fun p hp e => by rcases hkeys p hp with q | q | q | q <;> (rw [q] at e; exact absurd e (by decide)))]
    have vdst : (saidR x).dst = { data := #[] } := by
      rw [sf_dst x h, lookP_none (fun p hp e => by rcases hkeys p hp with q | q | q | q <;> (rw [q] at e; exact absurd e (by decide)))]
    have ht : x.ps.all takeB = true := List.all_eq_true.2 (fun p hp => by
      rcases hkeys p hp with q | q | q | q
      · rw [tb_kind q, qkind p hp q, kkind]; rfl
      · rw [tb_of q, qof p hp q, kof]; rfl
      · rw [tb_key q, qkey p hp q, kkey]; rfl
      · rw [tb_is q, qis p hp q, kis]; rfl)
    have hh : (x.ps.any fun y => !hasB (fKey 3) (fIs 3) (fEnds 3) (fN 3) y.key) = false := List.any_eq_false.2 (fun p hp => by
      rcases hkeys p hp with q | q | q | q <;> (unfold hasB; rw [q]; decide))
    have hst : standsB (saidR x) = true := by
      unfold standsB
      rw [vkind, vof, vkey, vis, vfr, vdst, vn, nof]
      rw [show fitS (fKey 3) pkey.s = true from nkey]
      rw [show fitS (fEnds 3) { data := #[] } = true from fit0]
      rw [show fitI (fIs 3) (typeV pis.s) = true from by show (decide (1 ≤ typeV pis.s) && decide (typeV pis.s ≤ 4)) = true; simp; omega]
      rfl
    unfold saidB
    rw [ht, hst, vkind]
    unfold kAll allB
    rw [hlen, hh]
    rfl
  rw [if_neg hw] at hs
  by_cases hw : (saysW x).toList = [108, 105, 110, 107]
  · rw [if_pos hw] at hs
    obtain ⟨pkind, lkind, hkk⟩ : ∃ p, lookP x.ps [107, 105, 110, 100] = some p ∧ p.s.toList = [108, 105, 110, 107] := by
      unfold saysW lkP at hw
      cases q : lookP x.ps [107, 105, 110, 100] with
      | none =>
        rw [q] at hw
        have hw : ({ data := #[] } : ByteArray).toList = [108, 105, 110, 107] := hw
        rw [e0_toList] at hw
        cases hw
      | some p => rw [q] at hw; exact ⟨p, rfl, hw⟩
    have kkind : pkind.k = 4 := by
      by_cases e : pkind.k = 4
      · exact e
      · have := h.st pkind (lookP_mem lkind).1 e
        rw [hkk] at this
        cases this
    simp only [Bool.and_eq_true] at hs
    obtain ⟨s1, s2, hlen⟩ := hs
    obtain ⟨pfr, lfr, kfr, nfr⟩ := of_nbP s1
    obtain ⟨pdst, ldst, kdst, ndst⟩ := of_nbP s2
    have hlen : x.ps.length = 4 := by have := eq_of_beq hlen; omega
    have hpig := pig [[107, 105, 110, 100], [111, 102], [102, 114, 111, 109], [116, 111]] (x.ps.map fun p => p.key.toList) (by decide) (fun k hk => by
      simp only [List.mem_cons, List.not_mem_nil, or_false] at hk
      rcases hk with rfl | rfl | rfl | rfl
      · exact List.mem_map.2 ⟨_, (lookP_mem lkind).1, (lookP_mem lkind).2⟩
      · exact List.mem_map.2 ⟨_, (lookP_mem lof).1, (lookP_mem lof).2⟩
      · exact List.mem_map.2 ⟨_, (lookP_mem lfr).1, (lookP_mem lfr).2⟩
      · exact List.mem_map.2 ⟨_, (lookP_mem ldst).1, (lookP_mem ldst).2⟩) (by rw [List.length_map, hlen]; decide)
    have hkeys : ∀ p ∈ x.ps, p.key.toList = [107, 105, 110, 100] ∨ p.key.toList = [111, 102] ∨ p.key.toList = [102, 114, 111, 109] ∨ p.key.toList = [116, 111] := fun p hp => by
      have := hpig _ (List.mem_map.2 ⟨p, hp, rfl⟩)
      simpa only [List.mem_cons, List.not_mem_nil, or_false] using this
    have qkind : ∀ p ∈ x.ps, p.key.toList = [107, 105, 110, 100] → p = pkind := fun p hp e => by
      have := lookP_of h hp
      rw [e, lkind] at this
      exact (Option.some.inj this).symm
    have qof : ∀ p ∈ x.ps, p.key.toList = [111, 102] → p = pof := fun p hp e => by
      have := lookP_of h hp
      rw [e, lof] at this
      exact (Option.some.inj this).symm
    have qfr : ∀ p ∈ x.ps, p.key.toList = [102, 114, 111, 109] → p = pfr := fun p hp e => by
      have := lookP_of h hp
      rw [e, lfr] at this
      exact (Option.some.inj this).symm
    have qdst : ∀ p ∈ x.ps, p.key.toList = [116, 111] → p = pdst := fun p hp e => by
      have := lookP_of h hp
      rw [e, ldst] at this
      exact (Option.some.inj this).symm
    have vn : (saidR x).n = 0 := by
      rw [sf_n x h, lookP_none (fun p hp e => by rcases hkeys p hp with q | q | q | q <;> (rw [q] at e; exact absurd e (by decide)))]
    have vkind : (saidR x).kind = 4 := by
      rw [sf_kind x h, lkind]
      show kindV pkind.s = _
      unfold kindV
      rw [hkk]
      rfl
    have vof : (saidR x).of = pof.s := by rw [sf_of x h, lof]
    have vkey : (saidR x).key = { data := #[] } := by
      rw [sf_key x h, lookP_none (fun p hp e => by rcases hkeys p hp with q | q | q | q <;> (rw [q] at e; exact absurd e (by decide)))]
    have vis : (saidR x).is = 0 := by
      rw [sf_is x h, lookP_none (fun p hp e => by rcases hkeys p hp with q | q | q | q <;> (rw [q] at e; exact absurd e (by decide)))]
    have vfr : (saidR x).fr = pfr.s := by rw [sf_fr x h, lfr]
    have vdst : (saidR x).dst = pdst.s := by rw [sf_dst x h, ldst]
    have ht : x.ps.all takeB = true := List.all_eq_true.2 (fun p hp => by
      rcases hkeys p hp with q | q | q | q
      · rw [tb_kind q, qkind p hp q, kkind]; rfl
      · rw [tb_of q, qof p hp q, kof]; rfl
      · rw [tb_fr q, qfr p hp q, kfr]; rfl
      · rw [tb_dst q, qdst p hp q, kdst]; rfl)
    have hh : (x.ps.any fun y => !hasB (fKey 4) (fIs 4) (fEnds 4) (fN 4) y.key) = false := List.any_eq_false.2 (fun p hp => by
      rcases hkeys p hp with q | q | q | q <;> (unfold hasB; rw [q]; decide))
    have hst : standsB (saidR x) = true := by
      unfold standsB
      rw [vkind, vof, vkey, vis, vfr, vdst, vn, nof]
      rw [show fitS (fKey 4) { data := #[] } = true from fit0]
      rw [show fitS (fEnds 4) pfr.s = true from nfr]
      rw [show fitS (fEnds 4) pdst.s = true from ndst]
      rfl
    unfold saidB
    rw [ht, hst, vkind]
    unfold kAll allB
    rw [hlen, hh]
    rfl
  rw [if_neg hw] at hs
  by_cases hw : (saysW x).toList = [109, 111, 115, 116]
  · rw [if_pos hw] at hs
    obtain ⟨pkind, lkind, hkk⟩ : ∃ p, lookP x.ps [107, 105, 110, 100] = some p ∧ p.s.toList = [109, 111, 115, 116] := by
      unfold saysW lkP at hw
      cases q : lookP x.ps [107, 105, 110, 100] with
      | none =>
        rw [q] at hw
        have hw : ({ data := #[] } : ByteArray).toList = [109, 111, 115, 116] := hw
        rw [e0_toList] at hw
        cases hw
      | some p => rw [q] at hw; exact ⟨p, rfl, hw⟩
    have kkind : pkind.k = 4 := by
      by_cases e : pkind.k = 4
      · exact e
      · have := h.st pkind (lookP_mem lkind).1 e
        rw [hkk] at this
        cases this
    simp only [Bool.and_eq_true] at hs
    obtain ⟨s1, s2, s3, hlen⟩ := hs
    obtain ⟨pn, ln⟩ : ∃ p, lookP x.ps [110] = some p := by
      unfold isP at s1
      cases q : lookP x.ps [110] with
      | none => rw [q] at s1; cases s1
      | some p => exact ⟨p, rfl⟩
    rw [lkP_of ln] at s2 s3
    have kn : pn.k = 2 := eq_of_beq s2
    have s3 := of_decide_eq_true s3
    have hlen : x.ps.length = 3 := by have := eq_of_beq hlen; omega
    have hpig := pig [[107, 105, 110, 100], [111, 102], [110]] (x.ps.map fun p => p.key.toList) (by decide) (fun k hk => by
      simp only [List.mem_cons, List.not_mem_nil, or_false] at hk
      rcases hk with rfl | rfl | rfl
      · exact List.mem_map.2 ⟨_, (lookP_mem lkind).1, (lookP_mem lkind).2⟩
      · exact List.mem_map.2 ⟨_, (lookP_mem lof).1, (lookP_mem lof).2⟩
      · exact List.mem_map.2 ⟨_, (lookP_mem ln).1, (lookP_mem ln).2⟩) (by rw [List.length_map, hlen]; decide)
    have hkeys : ∀ p ∈ x.ps, p.key.toList = [107, 105, 110, 100] ∨ p.key.toList = [111, 102] ∨ p.key.toList = [110] := fun p hp => by
      have := hpig _ (List.mem_map.2 ⟨p, hp, rfl⟩)
      simpa only [List.mem_cons, List.not_mem_nil, or_false] using this
    have qkind : ∀ p ∈ x.ps, p.key.toList = [107, 105, 110, 100] → p = pkind := fun p hp e => by
      have := lookP_of h hp
      rw [e, lkind] at this
      exact (Option.some.inj this).symm
    have qof : ∀ p ∈ x.ps, p.key.toList = [111, 102] → p = pof := fun p hp e => by
      have := lookP_of h hp
      rw [e, lof] at this
      exact (Option.some.inj this).symm
    have qn : ∀ p ∈ x.ps, p.key.toList = [110] → p = pn := fun p hp e => by
      have := lookP_of h hp
      rw [e, ln] at this
      exact (Option.some.inj this).symm
    have vn : (saidR x).n = pn.a := by rw [sf_n x h, ln]
    have vkind : (saidR x).kind = 5 := by
      rw [sf_kind x h, lkind]
      show kindV pkind.s = _
      unfold kindV
      rw [hkk]
      rfl
    have vof : (saidR x).of = pof.s := by rw [sf_of x h, lof]
    have vkey : (saidR x).key = { data := #[] } := by
      rw [sf_key x h, lookP_none (fun p hp e => by rcases hkeys p hp with q | q | q <;> (rw [q] at e; exact absurd e (by decide)))]
    have vis : (saidR x).is = 0 := by
      rw [sf_is x h, lookP_none (fun p hp e => by rcases hkeys p hp with q | q | q <;> (rw [q] at e; exact absurd e (by decide)))]
    have vfr : (saidR x).fr = { data := #[] } := by
      rw [sf_fr x h, lookP_none (fun p hp e => by rcases hkeys p hp with q | q | q <;> (rw [q] at e; exact absurd e (by decide)))]
    have vdst : (saidR x).dst = { data := #[] } := by
      rw [sf_dst x h, lookP_none (fun p hp e => by rcases hkeys p hp with q | q | q <;> (rw [q] at e; exact absurd e (by decide)))]
    have ht : x.ps.all takeB = true := List.all_eq_true.2 (fun p hp => by
      rcases hkeys p hp with q | q | q
      · rw [tb_kind q, qkind p hp q, kkind]; rfl
      · rw [tb_of q, qof p hp q, kof]; rfl
      · rw [tb_n q, qn p hp q, kn]; rfl)
    have hh : (x.ps.any fun y => !hasB (fKey 5) (fIs 5) (fEnds 5) (fN 5) y.key) = false := List.any_eq_false.2 (fun p hp => by
      rcases hkeys p hp with q | q | q <;> (unfold hasB; rw [q]; decide))
    have hst : standsB (saidR x) = true := by
      unfold standsB
      rw [vkind, vof, vkey, vis, vfr, vdst, vn, nof]
      rw [show fitS (fKey 5) { data := #[] } = true from fit0]
      rw [show fitS (fEnds 5) { data := #[] } = true from fit0]
      rw [show fitN (fN 5) pn.a = true from by show decide (0 ≤ pn.a) = true; exact decide_eq_true s3]
      rfl
    unfold saidB
    rw [ht, hst, vkind]
    unfold kAll allB
    rw [hlen, hh]
    rfl
  rw [if_neg hw] at hs
  by_cases hw : (saysW x).toList = [111, 114, 100, 101, 114]
  · rw [if_pos hw] at hs
    obtain ⟨pkind, lkind, hkk⟩ : ∃ p, lookP x.ps [107, 105, 110, 100] = some p ∧ p.s.toList = [111, 114, 100, 101, 114] := by
      unfold saysW lkP at hw
      cases q : lookP x.ps [107, 105, 110, 100] with
      | none =>
        rw [q] at hw
        have hw : ({ data := #[] } : ByteArray).toList = [111, 114, 100, 101, 114] := hw
        rw [e0_toList] at hw
        cases hw
      | some p => rw [q] at hw; exact ⟨p, rfl, hw⟩
    have kkind : pkind.k = 4 := by
      by_cases e : pkind.k = 4
      · exact e
      · have := h.st pkind (lookP_mem lkind).1 e
        rw [hkk] at this
        cases this
    have hlen := hs
    have hlen : x.ps.length = 2 := by have := eq_of_beq hlen; omega
    have hpig := pig [[107, 105, 110, 100], [111, 102]] (x.ps.map fun p => p.key.toList) (by decide) (fun k hk => by
      simp only [List.mem_cons, List.not_mem_nil, or_false] at hk
      rcases hk with rfl | rfl
      · exact List.mem_map.2 ⟨_, (lookP_mem lkind).1, (lookP_mem lkind).2⟩
      · exact List.mem_map.2 ⟨_, (lookP_mem lof).1, (lookP_mem lof).2⟩) (by rw [List.length_map, hlen]; decide)
    have hkeys : ∀ p ∈ x.ps, p.key.toList = [107, 105, 110, 100] ∨ p.key.toList = [111, 102] := fun p hp => by
      have := hpig _ (List.mem_map.2 ⟨p, hp, rfl⟩)
      simpa only [List.mem_cons, List.not_mem_nil, or_false] using this
    have qkind : ∀ p ∈ x.ps, p.key.toList = [107, 105, 110, 100] → p = pkind := fun p hp e => by
      have := lookP_of h hp
      rw [e, lkind] at this
      exact (Option.some.inj this).symm
    have qof : ∀ p ∈ x.ps, p.key.toList = [111, 102] → p = pof := fun p hp e => by
      have := lookP_of h hp
      rw [e, lof] at this
      exact (Option.some.inj this).symm
    have vn : (saidR x).n = 0 := by
      rw [sf_n x h, lookP_none (fun p hp e => by rcases hkeys p hp with q | q <;> (rw [q] at e; exact absurd e (by decide)))]
    have vkind : (saidR x).kind = 6 := by
      rw [sf_kind x h, lkind]
      show kindV pkind.s = _
      unfold kindV
      rw [hkk]
      rfl
    have vof : (saidR x).of = pof.s := by rw [sf_of x h, lof]
    have vkey : (saidR x).key = { data := #[] } := by
      rw [sf_key x h, lookP_none (fun p hp e => by rcases hkeys p hp with q | q <;> (rw [q] at e; exact absurd e (by decide)))]
    have vis : (saidR x).is = 0 := by
      rw [sf_is x h, lookP_none (fun p hp e => by rcases hkeys p hp with q | q <;> (rw [q] at e; exact absurd e (by decide)))]
    have vfr : (saidR x).fr = { data := #[] } := by
      rw [sf_fr x h, lookP_none (fun p hp e => by rcases hkeys p hp with q | q <;> (rw [q] at e; exact absurd e (by decide)))]
    have vdst : (saidR x).dst = { data := #[] } := by
      rw [sf_dst x h, lookP_none (fun p hp e => by rcases hkeys p hp with q | q <;> (rw [q] at e; exact absurd e (by decide)))]
    have ht : x.ps.all takeB = true := List.all_eq_true.2 (fun p hp => by
      rcases hkeys p hp with q | q
      · rw [tb_kind q, qkind p hp q, kkind]; rfl
      · rw [tb_of q, qof p hp q, kof]; rfl)
    have hh : (x.ps.any fun y => !hasB (fKey 6) (fIs 6) (fEnds 6) (fN 6) y.key) = false := List.any_eq_false.2 (fun p hp => by
      rcases hkeys p hp with q | q <;> (unfold hasB; rw [q]; decide))
    have hst : standsB (saidR x) = true := by
      unfold standsB
      rw [vkind, vof, vkey, vis, vfr, vdst, vn, nof]
      rw [show fitS (fKey 6) { data := #[] } = true from fit0]
      rw [show fitS (fEnds 6) { data := #[] } = true from fit0]
      rfl
    unfold saidB
    rw [ht, hst, vkind]
    unfold kAll allB
    rw [hlen, hh]
    rfl
  rw [if_neg hw] at hs
  cases hs
/-- The two words are one. -/
theorem said_eq (x : Nd) (h : PsOk x.ps) : saidB x = saysB x ∧ (saysB x = true → saidR x = saysR x) := by
  cases hs : saysB x with
  | true =>
    have := says_said x h hs
    exact ⟨this, fun _ => (said_says x h this).2⟩
  | false =>
    refine ⟨?_, fun e => by cases e⟩
    cases q : saidB x with
    | false => rfl
    | true => rw [(said_says x h q).1] at hs; cases hs
end Go.Proofs.YtifioikdhfhljaaGreatDoor
