/- Rules: what the document says is what the program takes. -/
import Derived.Test.YtifioikdhfhljaaGreatDoorRu8
namespace Go.Proofs.YtifioikdhfhljaaGreatDoor
section
open Go.RowKit

theorem sf_n (x : Nd) (h : PsOk x.ps) : (saidR x).n = match lookP x.ps [110] with | some p => p.a | none => 0 := fold_field (·.n) (fun p => p.a) [110] tk_n x.ps h (rl0 x)
theorem tb_n {p : Pv} (h : p.key.toList = [110]) : takeB p = (p.k == 2) := by
  unfold takeB
  rw [h]
  rfl
theorem sf_kind (x : Nd) (h : PsOk x.ps) : (saidR x).kind = match lookP x.ps [107, 105, 110, 100] with | some p => kindV p.s | none => 0 := fold_field (·.kind) (fun p => kindV p.s) [107, 105, 110, 100] tk_kind x.ps h (rl0 x)
theorem tb_kind {p : Pv} (h : p.key.toList = [107, 105, 110, 100]) : takeB p = (p.k == 4) := by
  unfold takeB
  rw [h]
  rfl
theorem sf_of (x : Nd) (h : PsOk x.ps) : (saidR x).of = match lookP x.ps [111, 102] with | some p => p.s | none => { data := #[] } := fold_field (·.of) (fun p => p.s) [111, 102] tk_of x.ps h (rl0 x)
theorem tb_of {p : Pv} (h : p.key.toList = [111, 102]) : takeB p = (p.k == 4) := by
  unfold takeB
  rw [h]
  rfl
theorem sf_key (x : Nd) (h : PsOk x.ps) : (saidR x).key = match lookP x.ps [107, 101, 121] with | some p => p.s | none => { data := #[] } := fold_field (·.key) (fun p => p.s) [107, 101, 121] tk_key x.ps h (rl0 x)
theorem tb_key {p : Pv} (h : p.key.toList = [107, 101, 121]) : takeB p = (p.k == 4) := by
  unfold takeB
  rw [h]
  rfl
theorem sf_is (x : Nd) (h : PsOk x.ps) : (saidR x).is = match lookP x.ps [116, 121, 112, 101] with | some p => typeV p.s | none => 0 := fold_field (·.is) (fun p => typeV p.s) [116, 121, 112, 101] tk_is x.ps h (rl0 x)
theorem tb_is {p : Pv} (h : p.key.toList = [116, 121, 112, 101]) : takeB p = (p.k == 4) := by
  unfold takeB
  rw [h]
  rfl
theorem sf_fr (x : Nd) (h : PsOk x.ps) : (saidR x).fr = match lookP x.ps [102, 114, 111, 109] with | some p => p.s | none => { data := #[] } := fold_field (·.fr) (fun p => p.s) [102, 114, 111, 109] tk_fr x.ps h (rl0 x)
theorem tb_fr {p : Pv} (h : p.key.toList = [102, 114, 111, 109]) : takeB p = (p.k == 4) := by
  unfold takeB
  rw [h]
  rfl
theorem sf_dst (x : Nd) (h : PsOk x.ps) : (saidR x).dst = match lookP x.ps [116, 111] with | some p => p.s | none => { data := #[] } := fold_field (·.dst) (fun p => p.s) [116, 111] tk_dst x.ps h (rl0 x)
theorem tb_dst {p : Pv} (h : p.key.toList = [116, 111]) : takeB p = (p.k == 4) := by
  unfold takeB
  rw [h]
  rfl
theorem emp_eq {s : ByteArray} (h : s.toList = []) : s = { data := #[] } := by
  rw [ByteArray.toList_eq] at h
  cases s with
  | mk d => exact congrArg ByteArray.mk (Array.toList_inj.1 (by simpa using h))
theorem nbP_of {l : List Pv} {k : List UInt8} {p : Pv} (h : lookP l k = some p) (h4 : p.k = 4) (hn : nameB p.s = true) : nbP l k = true := by
  unfold nbP tbP isP lkP
  rw [h]
  simp [h4, hn]
theorem of_nbP {l : List Pv} {k : List UInt8} (h : nbP l k = true) : ∃ p, lookP l k = some p ∧ p.k = 4 ∧ nameB p.s = true := by
  unfold nbP tbP isP lkP at h
  cases q : lookP l k with
  | none => rw [q] at h; simp at h
  | some p => rw [q] at h; simp at h; exact ⟨p, rfl, h.1, h.2⟩
theorem of_tbP {l : List Pv} {k : List UInt8} (h : tbP l k = true) : ∃ p, lookP l k = some p ∧ p.k = 4 := by
  unfold tbP isP lkP at h
  cases q : lookP l k with
  | none => rw [q] at h; simp at h
  | some p => rw [q] at h; simp at h; exact ⟨p, rfl, h⟩
theorem lkP_of {l : List Pv} {k : List UInt8} {p : Pv} (h : lookP l k = some p) : lkP l k = p := by unfold lkP; rw [h]; rfl
theorem take_words {p : Pv} (h : takeB p = true) : p.key.toList = [110] ∨ p.key.toList = [107, 105, 110, 100] ∨ p.key.toList = [111, 102] ∨ p.key.toList = [107, 101, 121] ∨ p.key.toList = [116, 121, 112, 101] ∨ p.key.toList = [102, 114, 111, 109] ∨ p.key.toList = [116, 111] := by
  unfold takeB at h
  repeat' split at h
  all_goals simp_all
set_option maxRecDepth 100000 in
set_option maxHeartbeats 1000000 in
theorem said_says (x : Nd) (h : PsOk x.ps) (hs : saidB x = true) : saysB x = true ∧ saidR x = saysR x := by
  unfold saidB at hs
  simp only [Bool.and_eq_true] at hs
  obtain ⟨⟨ht, hst⟩, hka⟩ := hs
  have ht : ∀ p ∈ x.ps, takeB p = true := List.all_eq_true.1 ht
  unfold standsB at hst
  simp only [Bool.and_eq_true, decide_eq_true_eq] at hst
  obtain ⟨⟨⟨⟨⟨⟨⟨s1, s6⟩, sof⟩, skey⟩, sis⟩, sfr⟩, sdst⟩, sn⟩ := hst
  unfold kAll allB at hka
  simp only [Bool.and_eq_true] at hka
  obtain ⟨hlen, hhas⟩ := hka
  obtain ⟨pk, lkind⟩ : ∃ p, lookP x.ps [107, 105, 110, 100] = some p := by
    cases q : lookP x.ps [107, 105, 110, 100] with
    | some p => exact ⟨p, rfl⟩
    | none =>
      have e := sf_kind x h
      rw [q] at e
      rw [e] at s1; exact absurd s1 (by decide)
  have vkind : (saidR x).kind = kindV pk.s := by rw [sf_kind x h, lkind]
  obtain ⟨mkind, ykind⟩ := lookP_mem lkind
  have kkind := ht _ mkind
  rw [tb_kind ykind] at kkind
  obtain ⟨po, lof⟩ : ∃ p, lookP x.ps [111, 102] = some p := by
    cases q : lookP x.ps [111, 102] with
    | some p => exact ⟨p, rfl⟩
    | none =>
      have e := sf_of x h
      rw [q] at e
      rw [e, e0_not] at sof; cases sof
  have vof : (saidR x).of = po.s := by rw [sf_of x h, lof]
  obtain ⟨mof, yof⟩ := lookP_mem lof
  have kof := ht _ mof
  rw [tb_of yof] at kof
  have hnb : nbP x.ps [111, 102] = true := nbP_of lof (eq_of_beq kof) (by rw [← vof]; exact sof)
  have hid : (saidR x).id = x.id := fold_id x.ps (rl0 x)
  have hW : saysW x = pk.s := by unfold saysW; rw [lkP_of lkind]
  have hO : saysOf x = po.s := by unfold saysOf; rw [lkP_of lof]
  rcases kindV_cases pk.s with ⟨hw, hv⟩ | ⟨hw, hv⟩ | ⟨hw, hv⟩ | ⟨hw, hv⟩ | ⟨hw, hv⟩ | ⟨hw, hv⟩ | ⟨hv, -⟩
  · rw [← vkind] at hv
    rw [hv] at skey sis sfr sdst sn hlen hhas
    have skey : nameB (saidR x).key = true := skey
    obtain ⟨pkey, lkey⟩ : ∃ p, lookP x.ps [107, 101, 121] = some p := by
      cases q : lookP x.ps [107, 101, 121] with
      | some p => exact ⟨p, rfl⟩
      | none =>
        have e := sf_key x h
        rw [q] at e
        rw [e, e0_not] at skey; cases skey
    have vkey : (saidR x).key = pkey.s := by rw [sf_key x h, lkey]
    obtain ⟨mkey, ykey⟩ := lookP_mem lkey
    have kkey := ht _ mkey
    rw [tb_key ykey] at kkey
    have nbkey : nbP x.ps [107, 101, 121] = true := nbP_of lkey (eq_of_beq kkey) (by rw [← vkey]; exact skey)
    have vis : (saidR x).is = 0 := eq_of_beq sis
    have vfr : (saidR x).fr = { data := #[] } := emp_eq (List.isEmpty_iff.1 sfr)
    have vdst : (saidR x).dst = { data := #[] } := emp_eq (List.isEmpty_iff.1 sdst)
    have vn : (saidR x).n = 0 := eq_of_beq sn
    have hlen : (x.ps.length : Int) = 3 := eq_of_beq hlen
    have gB : saysB x = true := by
      unfold saysB
      rw [if_neg (show ¬ (nbP x.ps [111, 102] = false) by rw [hnb]; simp), if_pos (show (saysW x).toList = [117, 110, 105, 113, 117, 101] by rw [hW, hw])]
      rw [nbkey, hlen]; rfl
    have gR : saysR x = ⟨x.id, 1, po.s, pkey.s, 0, { data := #[] }, { data := #[] }, 0⟩ := by
      unfold saysR
      rw [if_neg (show ¬ (nbP x.ps [111, 102] = false) by rw [hnb]; simp), if_pos (show (saysW x).toList = [117, 110, 105, 113, 117, 101] by rw [hW, hw]), hO]
      rw [lkP_of lkey]
    refine ⟨gB, ?_⟩
    rw [gR, show saidR x = ⟨(saidR x).id, (saidR x).kind, (saidR x).of, (saidR x).key, (saidR x).is, (saidR x).fr, (saidR x).dst, (saidR x).n⟩ from rfl, hid, hv, vof, vkey, vis, vfr, vdst, vn]
  · rw [← vkind] at hv
    rw [hv] at skey sis sfr sdst sn hlen hhas
    have skey : nameB (saidR x).key = true := skey
    obtain ⟨pkey, lkey⟩ : ∃ p, lookP x.ps [107, 101, 121] = some p := by
      cases q : lookP x.ps [107, 101, 121] with
      | some p => exact ⟨p, rfl⟩
      | none =>
        have e := sf_key x h
        rw [q] at e
        rw [e, e0_not] at skey; cases skey
    have vkey : (saidR x).key = pkey.s := by rw [sf_key x h, lkey]
    obtain ⟨mkey, ykey⟩ := lookP_mem lkey
    have kkey := ht _ mkey
    rw [tb_key ykey] at kkey
    have nbkey : nbP x.ps [107, 101, 121] = true := nbP_of lkey (eq_of_beq kkey) (by rw [← vkey]; exact skey)
    have vis : (saidR x).is = 0 := eq_of_beq sis
    have vfr : (saidR x).fr = { data := #[] } := emp_eq (List.isEmpty_iff.1 sfr)
    have vdst : (saidR x).dst = { data := #[] } := emp_eq (List.isEmpty_iff.1 sdst)
    have vn : (saidR x).n = 0 := eq_of_beq sn
    have hlen : (x.ps.length : Int) = 3 := eq_of_beq hlen
    have gB : saysB x = true := by
      unfold saysB
      rw [if_neg (show ¬ (nbP x.ps [111, 102] = false) by rw [hnb]; simp), if_neg (show ¬ (saysW x).toList = [117, 110, 105, 113, 117, 101] by rw [hW, hw]; decide), if_pos (show (saysW x).toList = [110, 101, 101, 100, 115] by rw [hW, hw])]
      rw [nbkey, hlen]; rfl
    have gR : saysR x = ⟨x.id, 2, po.s, pkey.s, 0, { data := #[] }, { data := #[] }, 0⟩ := by
      unfold saysR
      rw [if_neg (show ¬ (nbP x.ps [111, 102] = false) by rw [hnb]; simp), if_neg (show ¬ (saysW x).toList = [117, 110, 105, 113, 117, 101] by rw [hW, hw]; decide), if_pos (show (saysW x).toList = [110, 101, 101, 100, 115] by rw [hW, hw]), hO]
      rw [lkP_of lkey]
    refine ⟨gB, ?_⟩
    rw [gR, show saidR x = ⟨(saidR x).id, (saidR x).kind, (saidR x).of, (saidR x).key, (saidR x).is, (saidR x).fr, (saidR x).dst, (saidR x).n⟩ from rfl, hid, hv, vof, vkey, vis, vfr, vdst, vn]
  · rw [← vkind] at hv
    rw [hv] at skey sis sfr sdst sn hlen hhas
    have skey : nameB (saidR x).key = true := skey
    obtain ⟨pkey, lkey⟩ : ∃ p, lookP x.ps [107, 101, 121] = some p := by
      cases q : lookP x.ps [107, 101, 121] with
      | some p => exact ⟨p, rfl⟩
      | none =>
        have e := sf_key x h
        rw [q] at e
        rw [e, e0_not] at skey; cases skey
    have vkey : (saidR x).key = pkey.s := by rw [sf_key x h, lkey]
    obtain ⟨mkey, ykey⟩ := lookP_mem lkey
    have kkey := ht _ mkey
    rw [tb_key ykey] at kkey
    have nbkey : nbP x.ps [107, 101, 121] = true := nbP_of lkey (eq_of_beq kkey) (by rw [← vkey]; exact skey)
    have sis : (decide (1 ≤ (saidR x).is) && decide ((saidR x).is ≤ 4)) = true := sis
    simp only [Bool.and_eq_true, decide_eq_true_eq] at sis
    obtain ⟨pis, lis⟩ : ∃ p, lookP x.ps [116, 121, 112, 101] = some p := by
      cases q : lookP x.ps [116, 121, 112, 101] with
      | some p => exact ⟨p, rfl⟩
      | none =>
        have e := sf_is x h
        rw [q] at e
        rw [e] at sis; exact absurd sis.1 (by decide)
    have vis : (saidR x).is = typeV pis.s := by rw [sf_is x h, lis]
    obtain ⟨mis, yis⟩ := lookP_mem lis
    have kis := ht _ mis
    rw [tb_is yis] at kis
    have tbis : tbP x.ps [116, 121, 112, 101] = true := by unfold tbP isP lkP; rw [lis]; simpa using kis
    have vfr : (saidR x).fr = { data := #[] } := emp_eq (List.isEmpty_iff.1 sfr)
    have vdst : (saidR x).dst = { data := #[] } := emp_eq (List.isEmpty_iff.1 sdst)
    have vn : (saidR x).n = 0 := eq_of_beq sn
    have hlen : (x.ps.length : Int) = 4 := eq_of_beq hlen
    have gB : saysB x = true := by
      unfold saysB
      rw [if_neg (show ¬ (nbP x.ps [111, 102] = false) by rw [hnb]; simp), if_neg (show ¬ (saysW x).toList = [117, 110, 105, 113, 117, 101] by rw [hW, hw]; decide), if_neg (show ¬ (saysW x).toList = [110, 101, 101, 100, 115] by rw [hW, hw]; decide), if_pos (show (saysW x).toList = [111, 110, 108, 121] by rw [hW, hw])]
      have hp9 : typeV (lkP x.ps [116, 121, 112, 101]).s > 0 := by rw [lkP_of lis, ← vis]; omega
      rw [nbkey, tbis, hlen, decide_eq_true hp9]; rfl
    have gR : saysR x = ⟨x.id, 3, po.s, pkey.s, typeV pis.s, { data := #[] }, { data := #[] }, 0⟩ := by
      unfold saysR
      rw [if_neg (show ¬ (nbP x.ps [111, 102] = false) by rw [hnb]; simp), if_neg (show ¬ (saysW x).toList = [117, 110, 105, 113, 117, 101] by rw [hW, hw]; decide), if_neg (show ¬ (saysW x).toList = [110, 101, 101, 100, 115] by rw [hW, hw]; decide), if_pos (show (saysW x).toList = [111, 110, 108, 121] by rw [hW, hw]), hO]
      rw [lkP_of lkey]
      rw [lkP_of lis]
    refine ⟨gB, ?_⟩
    rw [gR, show saidR x = ⟨(saidR x).id, (saidR x).kind, (saidR x).of, (saidR x).key, (saidR x).is, (saidR x).fr, (saidR x).dst, (saidR x).n⟩ from rfl, hid, hv, vof, vkey, vis, vfr, vdst, vn]
  · rw [← vkind] at hv
    rw [hv] at skey sis sfr sdst sn hlen hhas
    have vkey : (saidR x).key = { data := #[] } := emp_eq (List.isEmpty_iff.1 skey)
    have vis : (saidR x).is = 0 := eq_of_beq sis
    have sfr : nameB (saidR x).fr = true := sfr
    obtain ⟨pfr, lfr⟩ : ∃ p, lookP x.ps [102, 114, 111, 109] = some p := by
      cases q : lookP x.ps [102, 114, 111, 109] with
      | some p => exact ⟨p, rfl⟩
      | none =>
        have e := sf_fr x h
        rw [q] at e
        rw [e, e0_not] at sfr; cases sfr
    have vfr : (saidR x).fr = pfr.s := by rw [sf_fr x h, lfr]
    obtain ⟨mfr, yfr⟩ := lookP_mem lfr
    have kfr := ht _ mfr
    rw [tb_fr yfr] at kfr
    have nbfr : nbP x.ps [102, 114, 111, 109] = true := nbP_of lfr (eq_of_beq kfr) (by rw [← vfr]; exact sfr)
    have sdst : nameB (saidR x).dst = true := sdst
    obtain ⟨pdst, ldst⟩ : ∃ p, lookP x.ps [116, 111] = some p := by
      cases q : lookP x.ps [116, 111] with
      | some p => exact ⟨p, rfl⟩
      | none =>
        have e := sf_dst x h
        rw [q] at e
        rw [e, e0_not] at sdst; cases sdst
    have vdst : (saidR x).dst = pdst.s := by rw [sf_dst x h, ldst]
    obtain ⟨mdst, ydst⟩ := lookP_mem ldst
    have kdst := ht _ mdst
    rw [tb_dst ydst] at kdst
    have nbdst : nbP x.ps [116, 111] = true := nbP_of ldst (eq_of_beq kdst) (by rw [← vdst]; exact sdst)
    have vn : (saidR x).n = 0 := eq_of_beq sn
    have hlen : (x.ps.length : Int) = 4 := eq_of_beq hlen
    have gB : saysB x = true := by
      unfold saysB
      rw [if_neg (show ¬ (nbP x.ps [111, 102] = false) by rw [hnb]; simp), if_neg (show ¬ (saysW x).toList = [117, 110, 105, 113, 117, 101] by rw [hW, hw]; decide), if_neg (show ¬ (saysW x).toList = [110, 101, 101, 100, 115] by rw [hW, hw]; decide), if_neg (show ¬ (saysW x).toList = [111, 110, 108, 121] by rw [hW, hw]; decide), if_pos (show (saysW x).toList = [108, 105, 110, 107] by rw [hW, hw])]
      rw [nbfr, nbdst, hlen]; rfl
    have gR : saysR x = ⟨x.id, 4, po.s, { data := #[] }, 0, pfr.s, pdst.s, 0⟩ := by
      unfold saysR
      rw [if_neg (show ¬ (nbP x.ps [111, 102] = false) by rw [hnb]; simp), if_neg (show ¬ (saysW x).toList = [117, 110, 105, 113, 117, 101] by rw [hW, hw]; decide), if_neg (show ¬ (saysW x).toList = [110, 101, 101, 100, 115] by rw [hW, hw]; decide), if_neg (show ¬ (saysW x).toList = [111, 110, 108, 121] by rw [hW, hw]; decide), if_pos (show (saysW x).toList = [108, 105, 110, 107] by rw [hW, hw]), hO]
      rw [lkP_of lfr]
      rw [lkP_of ldst]
    refine ⟨gB, ?_⟩
    rw [gR, show saidR x = ⟨(saidR x).id, (saidR x).kind, (saidR x).of, (saidR x).key, (saidR x).is, (saidR x).fr, (saidR x).dst, (saidR x).n⟩ from rfl, hid, hv, vof, vkey, vis, vfr, vdst, vn]
  · rw [← vkind] at hv
    rw [hv] at skey sis sfr sdst sn hlen hhas
    have vkey : (saidR x).key = { data := #[] } := emp_eq (List.isEmpty_iff.1 skey)
    have vis : (saidR x).is = 0 := eq_of_beq sis
    have vfr : (saidR x).fr = { data := #[] } := emp_eq (List.isEmpty_iff.1 sfr)
    have vdst : (saidR x).dst = { data := #[] } := emp_eq (List.isEmpty_iff.1 sdst)
    have sn : decide (0 ≤ (saidR x).n) = true := sn
    have hlen : x.ps.length = 3 := by have := eq_of_beq hlen; rw [show fProps 5 = 3 from rfl] at this; omega
    have hn9 := pig (x.ps.map fun p => p.key.toList) [[107, 105, 110, 100], [111, 102], [110]] h.nd (fun k hk => by
      obtain ⟨p, hp, rfl⟩ := List.mem_map.1 hk
      have hh : hasB (fKey 5) (fIs 5) (fEnds 5) (fN 5) p.key = true := by
        have := hhas
        rw [Bool.not_eq_true', List.any_eq_false] at this
        simpa using this p hp
      rcases take_words (ht p hp) with q | q | q | q | q | q | q <;> rw [q] <;> first | (simp; done) | (exfalso; unfold hasB at hh; rw [q] at hh; exact absurd hh (by decide))) (by rw [List.length_map, hlen]; decide)
    obtain ⟨pn, mn, yn⟩ := List.mem_map.1 (hn9 [110] (by simp))
    have ln : lookP x.ps [110] = some pn := by rw [← yn]; exact lookP_of h mn
    have vn : (saidR x).n = pn.a := by rw [sf_n x h, ln]
    have kn := ht _ mn
    rw [tb_n yn] at kn
    have hlen : (x.ps.length : Int) = 3 := by omega
    have gB : saysB x = true := by
      unfold saysB
      rw [if_neg (show ¬ (nbP x.ps [111, 102] = false) by rw [hnb]; simp), if_neg (show ¬ (saysW x).toList = [117, 110, 105, 113, 117, 101] by rw [hW, hw]; decide), if_neg (show ¬ (saysW x).toList = [110, 101, 101, 100, 115] by rw [hW, hw]; decide), if_neg (show ¬ (saysW x).toList = [111, 110, 108, 121] by rw [hW, hw]; decide), if_neg (show ¬ (saysW x).toList = [108, 105, 110, 107] by rw [hW, hw]; decide), if_pos (show (saysW x).toList = [109, 111, 115, 116] by rw [hW, hw])]
      have h9 : isP x.ps [110] = true := by unfold isP; rw [ln]; rfl
      have hp9 : (lkP x.ps [110]).a ≥ 0 := by rw [lkP_of ln, ← vn]; exact of_decide_eq_true sn
      rw [h9, lkP_of ln, kn, hlen]
      rw [lkP_of ln] at hp9
      rw [decide_eq_true hp9]; rfl
    have gR : saysR x = ⟨x.id, 5, po.s, { data := #[] }, 0, { data := #[] }, { data := #[] }, pn.a⟩ := by
      unfold saysR
      rw [if_neg (show ¬ (nbP x.ps [111, 102] = false) by rw [hnb]; simp), if_neg (show ¬ (saysW x).toList = [117, 110, 105, 113, 117, 101] by rw [hW, hw]; decide), if_neg (show ¬ (saysW x).toList = [110, 101, 101, 100, 115] by rw [hW, hw]; decide), if_neg (show ¬ (saysW x).toList = [111, 110, 108, 121] by rw [hW, hw]; decide), if_neg (show ¬ (saysW x).toList = [108, 105, 110, 107] by rw [hW, hw]; decide), if_pos (show (saysW x).toList = [109, 111, 115, 116] by rw [hW, hw]), hO]
      rw [lkP_of ln]
    refine ⟨gB, ?_⟩
    rw [gR, show saidR x = ⟨(saidR x).id, (saidR x).kind, (saidR x).of, (saidR x).key, (saidR x).is, (saidR x).fr, (saidR x).dst, (saidR x).n⟩ from rfl, hid, hv, vof, vkey, vis, vfr, vdst, vn]
  · rw [← vkind] at hv
    rw [hv] at skey sis sfr sdst sn hlen hhas
    have vkey : (saidR x).key = { data := #[] } := emp_eq (List.isEmpty_iff.1 skey)
    have vis : (saidR x).is = 0 := eq_of_beq sis
    have vfr : (saidR x).fr = { data := #[] } := emp_eq (List.isEmpty_iff.1 sfr)
    have vdst : (saidR x).dst = { data := #[] } := emp_eq (List.isEmpty_iff.1 sdst)
    have vn : (saidR x).n = 0 := eq_of_beq sn
    have hlen : (x.ps.length : Int) = 2 := eq_of_beq hlen
    have gB : saysB x = true := by
      unfold saysB
      rw [if_neg (show ¬ (nbP x.ps [111, 102] = false) by rw [hnb]; simp), if_neg (show ¬ (saysW x).toList = [117, 110, 105, 113, 117, 101] by rw [hW, hw]; decide), if_neg (show ¬ (saysW x).toList = [110, 101, 101, 100, 115] by rw [hW, hw]; decide), if_neg (show ¬ (saysW x).toList = [111, 110, 108, 121] by rw [hW, hw]; decide), if_neg (show ¬ (saysW x).toList = [108, 105, 110, 107] by rw [hW, hw]; decide), if_neg (show ¬ (saysW x).toList = [109, 111, 115, 116] by rw [hW, hw]; decide), if_pos (show (saysW x).toList = [111, 114, 100, 101, 114] by rw [hW, hw])]
      rw [hlen]; rfl
    have gR : saysR x = ⟨x.id, 6, po.s, { data := #[] }, 0, { data := #[] }, { data := #[] }, 0⟩ := by
      unfold saysR
      rw [if_neg (show ¬ (nbP x.ps [111, 102] = false) by rw [hnb]; simp), if_neg (show ¬ (saysW x).toList = [117, 110, 105, 113, 117, 101] by rw [hW, hw]; decide), if_neg (show ¬ (saysW x).toList = [110, 101, 101, 100, 115] by rw [hW, hw]; decide), if_neg (show ¬ (saysW x).toList = [111, 110, 108, 121] by rw [hW, hw]; decide), if_neg (show ¬ (saysW x).toList = [108, 105, 110, 107] by rw [hW, hw]; decide), if_neg (show ¬ (saysW x).toList = [109, 111, 115, 116] by rw [hW, hw]; decide), if_pos (show (saysW x).toList = [111, 114, 100, 101, 114] by rw [hW, hw]), hO]
    refine ⟨gB, ?_⟩
    rw [gR, show saidR x = ⟨(saidR x).id, (saidR x).kind, (saidR x).of, (saidR x).key, (saidR x).is, (saidR x).fr, (saidR x).dst, (saidR x).n⟩ from rfl, hid, hv, vof, vkey, vis, vfr, vdst, vn]
  · rw [← vkind] at hv; rw [hv] at s1; exact absurd s1 (by decide)
end
open Go.RowKit

theorem fit0:fitS false {data:=#[]}=true:=by
  show({data:=#[]}:ByteArray).toList.isEmpty=true
  rw[e0_toList]
  rfl
theorem says_said(x:Nd)(h:PsOk x.ps)(hs:saysB x=true):saidB x=true:=by
  unfold saysB at hs
  by_cases h0:nbP x.ps [111,102]=false
  · rw[if_pos h0] at hs;cases hs
  rw[if_neg h0] at hs
  have hof:nbP x.ps [111,102]=true:=by simpa using h0
  obtain⟨pof,lof,kof,nof⟩:=of_nbP hof
  by_cases hw:(saysW x).toList=[117,110,105,113,117,101]
  · rw[if_pos hw] at hs
    obtain⟨pkind,lkind,hkk⟩:∃p,lookP x.ps [107,105,110,100]=some p∧p.s.toList=[117,110,105,113,117,101]:=by
      unfold saysW lkP at hw
      cases q:lookP x.ps [107,105,110,100] with
      | none=>
        rw[q] at hw
        have hw:({data:=#[]}:ByteArray).toList=[117,110,105,113,117,101]:=hw
        rw[e0_toList] at hw
        cases hw
      | some p=>rw[q] at hw;exact⟨p,rfl,hw⟩
    have kkind:pkind.k=4:=by
      by_cases e:pkind.k=4
      · exact e
      · have:=h.st pkind (lookP_mem lkind).1 e
        rw[hkk] at this
        cases this
    simp only[Bool.and_eq_true] at hs
    obtain⟨s1,hlen⟩:=hs
    obtain⟨pkey,lkey,kkey,nkey⟩:=of_nbP s1
    have hlen:x.ps.length=3:=by have:=eq_of_beq hlen;omega
    have hpig:=pig [[107,105,110,100],[111,102],[107,101,121]] (x.ps.map fun p=>p.key.toList) (by decide) (fun k hk=>by
      simp only[List.mem_cons,List.not_mem_nil,or_false] at hk
      rcases hk with rfl|rfl|rfl
      · exact List.mem_map.2 ⟨_,(lookP_mem lkind).1,(lookP_mem lkind).2⟩
      · exact List.mem_map.2 ⟨_,(lookP_mem lof).1,(lookP_mem lof).2⟩
      · exact List.mem_map.2 ⟨_,(lookP_mem lkey).1,(lookP_mem lkey).2⟩) (by rw[List.length_map,hlen];decide)
    have hkeys:∀p∈x.ps,p.key.toList=[107,105,110,100]∨p.key.toList=[111,102]∨p.key.toList=[107,101,121]:=fun p hp=>by
      have:=hpig _ (List.mem_map.2 ⟨p,hp,rfl⟩)
      simpa only[List.mem_cons,List.not_mem_nil,or_false] using this
    have qkind:∀p∈x.ps,p.key.toList=[107,105,110,100]→p=pkind:=fun p hp e=>by
      have:=lookP_of h hp
      rw[e,lkind] at this
      exact(Option.some.inj this).symm
    have qof:∀p∈x.ps,p.key.toList=[111,102]→p=pof:=fun p hp e=>by
      have:=lookP_of h hp
      rw[e,lof] at this
      exact(Option.some.inj this).symm
    have qkey:∀p∈x.ps,p.key.toList=[107,101,121]→p=pkey:=fun p hp e=>by
      have:=lookP_of h hp
      rw[e,lkey] at this
      exact(Option.some.inj this).symm
    have vn:(saidR x).n=0:=by
      rw[sf_n x h,lookP_none (fun p hp e=>by rcases hkeys p hp with q|q|q<;>(rw[q] at e;exact absurd e (by decide)))]
    have vkind:(saidR x).kind=1:=by
      rw[sf_kind x h,lkind]
      show kindV pkind.s=_
      unfold kindV
      rw[hkk]
      rfl
    have vof:(saidR x).of=pof.s:=by rw[sf_of x h,lof]
    have vkey:(saidR x).key=pkey.s:=by rw[sf_key x h,lkey]
    have vis:(saidR x).is=0:=by
      rw[sf_is x h,lookP_none (fun p hp e=>by rcases hkeys p hp with q|q|q<;>(rw[q] at e;exact absurd e (by decide)))]
    have vfr:(saidR x).fr={data:=#[]}:=by
      rw[sf_fr x h,lookP_none (fun p hp e=>by rcases hkeys p hp with q|q|q<;>(rw[q] at e;exact absurd e (by decide)))]
    have vdst:(saidR x).dst={data:=#[]}:=by
      rw[sf_dst x h,lookP_none (fun p hp e=>by rcases hkeys p hp with q|q|q<;>(rw[q] at e;exact absurd e (by decide)))]
    have ht:x.ps.all takeB=true:=List.all_eq_true.2 (fun p hp=>by
      rcases hkeys p hp with q|q|q
      · rw[tb_kind q,qkind p hp q,kkind];rfl
      · rw[tb_of q,qof p hp q,kof];rfl
      · rw[tb_key q,qkey p hp q,kkey];rfl)
    have hh:(x.ps.any fun y=>!hasB (fKey 1) (fIs 1) (fEnds 1) (fN 1) y.key)=false:=List.any_eq_false.2 (fun p hp=>by
      rcases hkeys p hp with q|q|q<;>(unfold hasB;rw[q];decide))
    have hst:standsB (saidR x)=true:=by
      unfold standsB
      rw[vkind,vof,vkey,vis,vfr,vdst,vn,nof]
      rw[show fitS (fKey 1) pkey.s=true from nkey]
      rw[show fitS (fEnds 1) {data:=#[]}=true from fit0]
      rfl
    unfold saidB
    rw[ht,hst,vkind]
    unfold kAll allB
    rw[hlen,hh]
    rfl
  rw[if_neg hw] at hs
  by_cases hw:(saysW x).toList=[110,101,101,100,115]
  · rw[if_pos hw] at hs
    obtain⟨pkind,lkind,hkk⟩:∃p,lookP x.ps [107,105,110,100]=some p∧p.s.toList=[110,101,101,100,115]:=by
      unfold saysW lkP at hw
      cases q:lookP x.ps [107,105,110,100] with
      | none=>
        rw[q] at hw
        have hw:({data:=#[]}:ByteArray).toList=[110,101,101,100,115]:=hw
        rw[e0_toList] at hw
        cases hw
      | some p=>rw[q] at hw;exact⟨p,rfl,hw⟩
    have kkind:pkind.k=4:=by
      by_cases e:pkind.k=4
      · exact e
      · have:=h.st pkind (lookP_mem lkind).1 e
        rw[hkk] at this
        cases this
    simp only[Bool.and_eq_true] at hs
    obtain⟨s1,hlen⟩:=hs
    obtain⟨pkey,lkey,kkey,nkey⟩:=of_nbP s1
    have hlen:x.ps.length=3:=by have:=eq_of_beq hlen;omega
    have hpig:=pig [[107,105,110,100],[111,102],[107,101,121]] (x.ps.map fun p=>p.key.toList) (by decide) (fun k hk=>by
      simp only[List.mem_cons,List.not_mem_nil,or_false] at hk
      rcases hk with rfl|rfl|rfl
      · exact List.mem_map.2 ⟨_,(lookP_mem lkind).1,(lookP_mem lkind).2⟩
      · exact List.mem_map.2 ⟨_,(lookP_mem lof).1,(lookP_mem lof).2⟩
      · exact List.mem_map.2 ⟨_,(lookP_mem lkey).1,(lookP_mem lkey).2⟩) (by rw[List.length_map,hlen];decide)
    have hkeys:∀p∈x.ps,p.key.toList=[107,105,110,100]∨p.key.toList=[111,102]∨p.key.toList=[107,101,121]:=fun p hp=>by
      have:=hpig _ (List.mem_map.2 ⟨p,hp,rfl⟩)
      simpa only[List.mem_cons,List.not_mem_nil,or_false] using this
    have qkind:∀p∈x.ps,p.key.toList=[107,105,110,100]→p=pkind:=fun p hp e=>by
      have:=lookP_of h hp
      rw[e,lkind] at this
      exact(Option.some.inj this).symm
    have qof:∀p∈x.ps,p.key.toList=[111,102]→p=pof:=fun p hp e=>by
      have:=lookP_of h hp
      rw[e,lof] at this
      exact(Option.some.inj this).symm
    have qkey:∀p∈x.ps,p.key.toList=[107,101,121]→p=pkey:=fun p hp e=>by
      have:=lookP_of h hp
      rw[e,lkey] at this
      exact(Option.some.inj this).symm
    have vn:(saidR x).n=0:=by
      rw[sf_n x h,lookP_none (fun p hp e=>by rcases hkeys p hp with q|q|q<;>(rw[q] at e;exact absurd e (by decide)))]
    have vkind:(saidR x).kind=2:=by
      rw[sf_kind x h,lkind]
      show kindV pkind.s=_
      unfold kindV
      rw[hkk]
      rfl
    have vof:(saidR x).of=pof.s:=by rw[sf_of x h,lof]
    have vkey:(saidR x).key=pkey.s:=by rw[sf_key x h,lkey]
    have vis:(saidR x).is=0:=by
      rw[sf_is x h,lookP_none (fun p hp e=>by rcases hkeys p hp with q|q|q<;>(rw[q] at e;exact absurd e (by decide)))]
    have vfr:(saidR x).fr={data:=#[]}:=by
      rw[sf_fr x h,lookP_none (fun p hp e=>by rcases hkeys p hp with q|q|q<;>(rw[q] at e;exact absurd e (by decide)))]
    have vdst:(saidR x).dst={data:=#[]}:=by
      rw[sf_dst x h,lookP_none (fun p hp e=>by rcases hkeys p hp with q|q|q<;>(rw[q] at e;exact absurd e (by decide)))]
    have ht:x.ps.all takeB=true:=List.all_eq_true.2 (fun p hp=>by
      rcases hkeys p hp with q|q|q
      · rw[tb_kind q,qkind p hp q,kkind];rfl
      · rw[tb_of q,qof p hp q,kof];rfl
      · rw[tb_key q,qkey p hp q,kkey];rfl)
    have hh:(x.ps.any fun y=>!hasB (fKey 2) (fIs 2) (fEnds 2) (fN 2) y.key)=false:=List.any_eq_false.2 (fun p hp=>by
      rcases hkeys p hp with q|q|q<;>(unfold hasB;rw[q];decide))
    have hst:standsB (saidR x)=true:=by
      unfold standsB
      rw[vkind,vof,vkey,vis,vfr,vdst,vn,nof]
      rw[show fitS (fKey 2) pkey.s=true from nkey]
      rw[show fitS (fEnds 2) {data:=#[]}=true from fit0]
      rfl
    unfold saidB
    rw[ht,hst,vkind]
    unfold kAll allB
    rw[hlen,hh]
    rfl
  rw[if_neg hw] at hs
  by_cases hw:(saysW x).toList=[111,110,108,121]
  · rw[if_pos hw] at hs
    obtain⟨pkind,lkind,hkk⟩:∃p,lookP x.ps [107,105,110,100]=some p∧p.s.toList=[111,110,108,121]:=by
      unfold saysW lkP at hw
      cases q:lookP x.ps [107,105,110,100] with
      | none=>
        rw[q] at hw
        have hw:({data:=#[]}:ByteArray).toList=[111,110,108,121]:=hw
        rw[e0_toList] at hw
        cases hw
      | some p=>rw[q] at hw;exact⟨p,rfl,hw⟩
    have kkind:pkind.k=4:=by
      by_cases e:pkind.k=4
      · exact e
      · have:=h.st pkind (lookP_mem lkind).1 e
        rw[hkk] at this
        cases this
    simp only[Bool.and_eq_true] at hs
    obtain⟨s1,s2,s3,hlen⟩:=hs
    obtain⟨pkey,lkey,kkey,nkey⟩:=of_nbP s1
    obtain⟨pis,lis,kis⟩:=of_tbP s2
    rw[lkP_of lis] at s3
    have s3:=of_decide_eq_true s3
    have s4:=typeV_le pis.s
    have hlen:x.ps.length=4:=by have:=eq_of_beq hlen;omega
    have hpig:=pig [[107,105,110,100],[111,102],[107,101,121],[116,121,112,101]] (x.ps.map fun p=>p.key.toList) (by decide) (fun k hk=>by
      simp only[List.mem_cons,List.not_mem_nil,or_false] at hk
      rcases hk with rfl|rfl|rfl|rfl
      · exact List.mem_map.2 ⟨_,(lookP_mem lkind).1,(lookP_mem lkind).2⟩
      · exact List.mem_map.2 ⟨_,(lookP_mem lof).1,(lookP_mem lof).2⟩
      · exact List.mem_map.2 ⟨_,(lookP_mem lkey).1,(lookP_mem lkey).2⟩
      · exact List.mem_map.2 ⟨_,(lookP_mem lis).1,(lookP_mem lis).2⟩) (by rw[List.length_map,hlen];decide)
    have hkeys:∀p∈x.ps,p.key.toList=[107,105,110,100]∨p.key.toList=[111,102]∨p.key.toList=[107,101,121]∨p.key.toList=[116,121,112,101]:=fun p hp=>by
      have:=hpig _ (List.mem_map.2 ⟨p,hp,rfl⟩)
      simpa only[List.mem_cons,List.not_mem_nil,or_false] using this
    have qkind:∀p∈x.ps,p.key.toList=[107,105,110,100]→p=pkind:=fun p hp e=>by
      have:=lookP_of h hp
      rw[e,lkind] at this
      exact(Option.some.inj this).symm
    have qof:∀p∈x.ps,p.key.toList=[111,102]→p=pof:=fun p hp e=>by
      have:=lookP_of h hp
      rw[e,lof] at this
      exact(Option.some.inj this).symm
    have qkey:∀p∈x.ps,p.key.toList=[107,101,121]→p=pkey:=fun p hp e=>by
      have:=lookP_of h hp
      rw[e,lkey] at this
      exact(Option.some.inj this).symm
    have qis:∀p∈x.ps,p.key.toList=[116,121,112,101]→p=pis:=fun p hp e=>by
      have:=lookP_of h hp
      rw[e,lis] at this
      exact(Option.some.inj this).symm
    have vn:(saidR x).n=0:=by
      rw[sf_n x h,lookP_none (fun p hp e=>by rcases hkeys p hp with q|q|q|q<;>(rw[q] at e;exact absurd e (by decide)))]
    have vkind:(saidR x).kind=3:=by
      rw[sf_kind x h,lkind]
      show kindV pkind.s=_
      unfold kindV
      rw[hkk]
      rfl
    have vof:(saidR x).of=pof.s:=by rw[sf_of x h,lof]
    have vkey:(saidR x).key=pkey.s:=by rw[sf_key x h,lkey]
    have vis:(saidR x).is=typeV pis.s:=by rw[sf_is x h,lis]
    have vfr:(saidR x).fr={data:=#[]}:=by
      rw[sf_fr x h,lookP_none (fun p hp e=>by rcases hkeys p hp with q|q|q|q<;>(rw[q] at e;exact absurd e (by decide)))]
    have vdst:(saidR x).dst={data:=#[]}:=by
      rw[sf_dst x h,lookP_none (fun p hp e=>by rcases hkeys p hp with q|q|q|q<;>(rw[q] at e;exact absurd e (by decide)))]
    have ht:x.ps.all takeB=true:=List.all_eq_true.2 (fun p hp=>by
      rcases hkeys p hp with q|q|q|q
      · rw[tb_kind q,qkind p hp q,kkind];rfl
      · rw[tb_of q,qof p hp q,kof];rfl
      · rw[tb_key q,qkey p hp q,kkey];rfl
      · rw[tb_is q,qis p hp q,kis];rfl)
    have hh:(x.ps.any fun y=>!hasB (fKey 3) (fIs 3) (fEnds 3) (fN 3) y.key)=false:=List.any_eq_false.2 (fun p hp=>by
      rcases hkeys p hp with q|q|q|q<;>(unfold hasB;rw[q];decide))
    have hst:standsB (saidR x)=true:=by
      unfold standsB
      rw[vkind,vof,vkey,vis,vfr,vdst,vn,nof]
      rw[show fitS (fKey 3) pkey.s=true from nkey]
      rw[show fitS (fEnds 3) {data:=#[]}=true from fit0]
      rw[show fitI (fIs 3) (typeV pis.s)=true from by show(decide (1≤typeV pis.s)&&decide (typeV pis.s≤4))=true;simp;omega]
      rfl
    unfold saidB
    rw[ht,hst,vkind]
    unfold kAll allB
    rw[hlen,hh]
    rfl
  rw[if_neg hw] at hs
  by_cases hw:(saysW x).toList=[108,105,110,107]
  · rw[if_pos hw] at hs
    obtain⟨pkind,lkind,hkk⟩:∃p,lookP x.ps [107,105,110,100]=some p∧p.s.toList=[108,105,110,107]:=by
      unfold saysW lkP at hw
      cases q:lookP x.ps [107,105,110,100] with
      | none=>
        rw[q] at hw
        have hw:({data:=#[]}:ByteArray).toList=[108,105,110,107]:=hw
        rw[e0_toList] at hw
        cases hw
      | some p=>rw[q] at hw;exact⟨p,rfl,hw⟩
    have kkind:pkind.k=4:=by
      by_cases e:pkind.k=4
      · exact e
      · have:=h.st pkind (lookP_mem lkind).1 e
        rw[hkk] at this
        cases this
    simp only[Bool.and_eq_true] at hs
    obtain⟨s1,s2,hlen⟩:=hs
    obtain⟨pfr,lfr,kfr,nfr⟩:=of_nbP s1
    obtain⟨pdst,ldst,kdst,ndst⟩:=of_nbP s2
    have hlen:x.ps.length=4:=by have:=eq_of_beq hlen;omega
    have hpig:=pig [[107,105,110,100],[111,102],[102,114,111,109],[116,111]] (x.ps.map fun p=>p.key.toList) (by decide) (fun k hk=>by
      simp only[List.mem_cons,List.not_mem_nil,or_false] at hk
      rcases hk with rfl|rfl|rfl|rfl
      · exact List.mem_map.2 ⟨_,(lookP_mem lkind).1,(lookP_mem lkind).2⟩
      · exact List.mem_map.2 ⟨_,(lookP_mem lof).1,(lookP_mem lof).2⟩
      · exact List.mem_map.2 ⟨_,(lookP_mem lfr).1,(lookP_mem lfr).2⟩
      · exact List.mem_map.2 ⟨_,(lookP_mem ldst).1,(lookP_mem ldst).2⟩) (by rw[List.length_map,hlen];decide)
    have hkeys:∀p∈x.ps,p.key.toList=[107,105,110,100]∨p.key.toList=[111,102]∨p.key.toList=[102,114,111,109]∨p.key.toList=[116,111]:=fun p hp=>by
      have:=hpig _ (List.mem_map.2 ⟨p,hp,rfl⟩)
      simpa only[List.mem_cons,List.not_mem_nil,or_false] using this
    have qkind:∀p∈x.ps,p.key.toList=[107,105,110,100]→p=pkind:=fun p hp e=>by
      have:=lookP_of h hp
      rw[e,lkind] at this
      exact(Option.some.inj this).symm
    have qof:∀p∈x.ps,p.key.toList=[111,102]→p=pof:=fun p hp e=>by
      have:=lookP_of h hp
      rw[e,lof] at this
      exact(Option.some.inj this).symm
    have qfr:∀p∈x.ps,p.key.toList=[102,114,111,109]→p=pfr:=fun p hp e=>by
      have:=lookP_of h hp
      rw[e,lfr] at this
      exact(Option.some.inj this).symm
    have qdst:∀p∈x.ps,p.key.toList=[116,111]→p=pdst:=fun p hp e=>by
      have:=lookP_of h hp
      rw[e,ldst] at this
      exact(Option.some.inj this).symm
    have vn:(saidR x).n=0:=by
      rw[sf_n x h,lookP_none (fun p hp e=>by rcases hkeys p hp with q|q|q|q<;>(rw[q] at e;exact absurd e (by decide)))]
    have vkind:(saidR x).kind=4:=by
      rw[sf_kind x h,lkind]
      show kindV pkind.s=_
      unfold kindV
      rw[hkk]
      rfl
    have vof:(saidR x).of=pof.s:=by rw[sf_of x h,lof]
    have vkey:(saidR x).key={data:=#[]}:=by
      rw[sf_key x h,lookP_none (fun p hp e=>by rcases hkeys p hp with q|q|q|q<;>(rw[q] at e;exact absurd e (by decide)))]
    have vis:(saidR x).is=0:=by
      rw[sf_is x h,lookP_none (fun p hp e=>by rcases hkeys p hp with q|q|q|q<;>(rw[q] at e;exact absurd e (by decide)))]
    have vfr:(saidR x).fr=pfr.s:=by rw[sf_fr x h,lfr]
    have vdst:(saidR x).dst=pdst.s:=by rw[sf_dst x h,ldst]
    have ht:x.ps.all takeB=true:=List.all_eq_true.2 (fun p hp=>by
      rcases hkeys p hp with q|q|q|q
      · rw[tb_kind q,qkind p hp q,kkind];rfl
      · rw[tb_of q,qof p hp q,kof];rfl
      · rw[tb_fr q,qfr p hp q,kfr];rfl
      · rw[tb_dst q,qdst p hp q,kdst];rfl)
    have hh:(x.ps.any fun y=>!hasB (fKey 4) (fIs 4) (fEnds 4) (fN 4) y.key)=false:=List.any_eq_false.2 (fun p hp=>by
      rcases hkeys p hp with q|q|q|q<;>(unfold hasB;rw[q];decide))
    have hst:standsB (saidR x)=true:=by
      unfold standsB
      rw[vkind,vof,vkey,vis,vfr,vdst,vn,nof]
      rw[show fitS (fKey 4) {data:=#[]}=true from fit0]
      rw[show fitS (fEnds 4) pfr.s=true from nfr]
      rw[show fitS (fEnds 4) pdst.s=true from ndst]
      rfl
    unfold saidB
    rw[ht,hst,vkind]
    unfold kAll allB
    rw[hlen,hh]
    rfl
  rw[if_neg hw] at hs
  by_cases hw:(saysW x).toList=[109,111,115,116]
  · rw[if_pos hw] at hs
    obtain⟨pkind,lkind,hkk⟩:∃p,lookP x.ps [107,105,110,100]=some p∧p.s.toList=[109,111,115,116]:=by
      unfold saysW lkP at hw
      cases q:lookP x.ps [107,105,110,100] with
      | none=>
        rw[q] at hw
        have hw:({data:=#[]}:ByteArray).toList=[109,111,115,116]:=hw
        rw[e0_toList] at hw
        cases hw
      | some p=>rw[q] at hw;exact⟨p,rfl,hw⟩
    have kkind:pkind.k=4:=by
      by_cases e:pkind.k=4
      · exact e
      · have:=h.st pkind (lookP_mem lkind).1 e
        rw[hkk] at this
        cases this
    simp only[Bool.and_eq_true] at hs
    obtain⟨s1,s2,s3,hlen⟩:=hs
    obtain⟨pn,ln⟩:∃p,lookP x.ps [110]=some p:=by
      unfold isP at s1
      cases q:lookP x.ps [110] with
      | none=>rw[q] at s1;cases s1
      | some p=>exact⟨p,rfl⟩
    rw[lkP_of ln] at s2 s3
    have kn:pn.k=2:=eq_of_beq s2
    have s3:=of_decide_eq_true s3
    have hlen:x.ps.length=3:=by have:=eq_of_beq hlen;omega
    have hpig:=pig [[107,105,110,100],[111,102],[110]] (x.ps.map fun p=>p.key.toList) (by decide) (fun k hk=>by
      simp only[List.mem_cons,List.not_mem_nil,or_false] at hk
      rcases hk with rfl|rfl|rfl
      · exact List.mem_map.2 ⟨_,(lookP_mem lkind).1,(lookP_mem lkind).2⟩
      · exact List.mem_map.2 ⟨_,(lookP_mem lof).1,(lookP_mem lof).2⟩
      · exact List.mem_map.2 ⟨_,(lookP_mem ln).1,(lookP_mem ln).2⟩) (by rw[List.length_map,hlen];decide)
    have hkeys:∀p∈x.ps,p.key.toList=[107,105,110,100]∨p.key.toList=[111,102]∨p.key.toList=[110]:=fun p hp=>by
      have:=hpig _ (List.mem_map.2 ⟨p,hp,rfl⟩)
      simpa only[List.mem_cons,List.not_mem_nil,or_false] using this
    have qkind:∀p∈x.ps,p.key.toList=[107,105,110,100]→p=pkind:=fun p hp e=>by
      have:=lookP_of h hp
      rw[e,lkind] at this
      exact(Option.some.inj this).symm
    have qof:∀p∈x.ps,p.key.toList=[111,102]→p=pof:=fun p hp e=>by
      have:=lookP_of h hp
      rw[e,lof] at this
      exact(Option.some.inj this).symm
    have qn:∀p∈x.ps,p.key.toList=[110]→p=pn:=fun p hp e=>by
      have:=lookP_of h hp
      rw[e,ln] at this
      exact(Option.some.inj this).symm
    have vn:(saidR x).n=pn.a:=by rw[sf_n x h,ln]
    have vkind:(saidR x).kind=5:=by
      rw[sf_kind x h,lkind]
      show kindV pkind.s=_
      unfold kindV
      rw[hkk]
      rfl
    have vof:(saidR x).of=pof.s:=by rw[sf_of x h,lof]
    have vkey:(saidR x).key={data:=#[]}:=by
      rw[sf_key x h,lookP_none (fun p hp e=>by rcases hkeys p hp with q|q|q<;>(rw[q] at e;exact absurd e (by decide)))]
    have vis:(saidR x).is=0:=by
      rw[sf_is x h,lookP_none (fun p hp e=>by rcases hkeys p hp with q|q|q<;>(rw[q] at e;exact absurd e (by decide)))]
    have vfr:(saidR x).fr={data:=#[]}:=by
      rw[sf_fr x h,lookP_none (fun p hp e=>by rcases hkeys p hp with q|q|q<;>(rw[q] at e;exact absurd e (by decide)))]
    have vdst:(saidR x).dst={data:=#[]}:=by
      rw[sf_dst x h,lookP_none (fun p hp e=>by rcases hkeys p hp with q|q|q<;>(rw[q] at e;exact absurd e (by decide)))]
    have ht:x.ps.all takeB=true:=List.all_eq_true.2 (fun p hp=>by
      rcases hkeys p hp with q|q|q
      · rw[tb_kind q,qkind p hp q,kkind];rfl
      · rw[tb_of q,qof p hp q,kof];rfl
      · rw[tb_n q,qn p hp q,kn];rfl)
    have hh:(x.ps.any fun y=>!hasB (fKey 5) (fIs 5) (fEnds 5) (fN 5) y.key)=false:=List.any_eq_false.2 (fun p hp=>by
      rcases hkeys p hp with q|q|q<;>(unfold hasB;rw[q];decide))
    have hst:standsB (saidR x)=true:=by
      unfold standsB
      rw[vkind,vof,vkey,vis,vfr,vdst,vn,nof]
      rw[show fitS (fKey 5) {data:=#[]}=true from fit0]
      rw[show fitS (fEnds 5) {data:=#[]}=true from fit0]
      rw[show fitN (fN 5) pn.a=true from by show decide (0≤pn.a)=true;exact decide_eq_true s3]
      rfl
    unfold saidB
    rw[ht,hst,vkind]
    unfold kAll allB
    rw[hlen,hh]
    rfl
  rw[if_neg hw] at hs
  by_cases hw:(saysW x).toList=[111,114,100,101,114]
  · rw[if_pos hw] at hs
    obtain⟨pkind,lkind,hkk⟩:∃p,lookP x.ps [107,105,110,100]=some p∧p.s.toList=[111,114,100,101,114]:=by
      unfold saysW lkP at hw
      cases q:lookP x.ps [107,105,110,100] with
      | none=>
        rw[q] at hw
        have hw:({data:=#[]}:ByteArray).toList=[111,114,100,101,114]:=hw
        rw[e0_toList] at hw
        cases hw
      | some p=>rw[q] at hw;exact⟨p,rfl,hw⟩
    have kkind:pkind.k=4:=by
      by_cases e:pkind.k=4
      · exact e
      · have:=h.st pkind (lookP_mem lkind).1 e
        rw[hkk] at this
        cases this
    have hlen:=hs
    have hlen:x.ps.length=2:=by have:=eq_of_beq hlen;omega
    have hpig:=pig [[107,105,110,100],[111,102]] (x.ps.map fun p=>p.key.toList) (by decide) (fun k hk=>by
      simp only[List.mem_cons,List.not_mem_nil,or_false] at hk
      rcases hk with rfl|rfl
      · exact List.mem_map.2 ⟨_,(lookP_mem lkind).1,(lookP_mem lkind).2⟩
      · exact List.mem_map.2 ⟨_,(lookP_mem lof).1,(lookP_mem lof).2⟩) (by rw[List.length_map,hlen];decide)
    have hkeys:∀p∈x.ps,p.key.toList=[107,105,110,100]∨p.key.toList=[111,102]:=fun p hp=>by
      have:=hpig _ (List.mem_map.2 ⟨p,hp,rfl⟩)
      simpa only[List.mem_cons,List.not_mem_nil,or_false] using this
    have qkind:∀p∈x.ps,p.key.toList=[107,105,110,100]→p=pkind:=fun p hp e=>by
      have:=lookP_of h hp
      rw[e,lkind] at this
      exact(Option.some.inj this).symm
    have qof:∀p∈x.ps,p.key.toList=[111,102]→p=pof:=fun p hp e=>by
      have:=lookP_of h hp
      rw[e,lof] at this
      exact(Option.some.inj this).symm
    have vn:(saidR x).n=0:=by
      rw[sf_n x h,lookP_none (fun p hp e=>by rcases hkeys p hp with q|q<;>(rw[q] at e;exact absurd e (by decide)))]
    have vkind:(saidR x).kind=6:=by
      rw[sf_kind x h,lkind]
      show kindV pkind.s=_
      unfold kindV
      rw[hkk]
      rfl
    have vof:(saidR x).of=pof.s:=by rw[sf_of x h,lof]
    have vkey:(saidR x).key={data:=#[]}:=by
      rw[sf_key x h,lookP_none (fun p hp e=>by rcases hkeys p hp with q|q<;>(rw[q] at e;exact absurd e (by decide)))]
    have vis:(saidR x).is=0:=by
      rw[sf_is x h,lookP_none (fun p hp e=>by rcases hkeys p hp with q|q<;>(rw[q] at e;exact absurd e (by decide)))]
    have vfr:(saidR x).fr={data:=#[]}:=by
      rw[sf_fr x h,lookP_none (fun p hp e=>by rcases hkeys p hp with q|q<;>(rw[q] at e;exact absurd e (by decide)))]
    have vdst:(saidR x).dst={data:=#[]}:=by
      rw[sf_dst x h,lookP_none (fun p hp e=>by rcases hkeys p hp with q|q<;>(rw[q] at e;exact absurd e (by decide)))]
    have ht:x.ps.all takeB=true:=List.all_eq_true.2 (fun p hp=>by
      rcases hkeys p hp with q|q
      · rw[tb_kind q,qkind p hp q,kkind];rfl
      · rw[tb_of q,qof p hp q,kof];rfl)
    have hh:(x.ps.any fun y=>!hasB (fKey 6) (fIs 6) (fEnds 6) (fN 6) y.key)=false:=List.any_eq_false.2 (fun p hp=>by
      rcases hkeys p hp with q|q<;>(unfold hasB;rw[q];decide))
    have hst:standsB (saidR x)=true:=by
      unfold standsB
      rw[vkind,vof,vkey,vis,vfr,vdst,vn,nof]
      rw[show fitS (fKey 6) {data:=#[]}=true from fit0]
      rw[show fitS (fEnds 6) {data:=#[]}=true from fit0]
      rfl
    unfold saidB
    rw[ht,hst,vkind]
    unfold kAll allB
    rw[hlen,hh]
    rfl
  rw[if_neg hw] at hs
  cases hs
/-- The two words are one. -/
theorem said_eq(x:Nd)(h:PsOk x.ps):saidB x=saysB x∧(saysB x=true→saidR x=saysR x):=by
  cases hs:saysB x with
  | true=>
    have:=says_said x h hs
    exact⟨this,fun _=>(said_says x h this).2⟩
  | false=>
    refine⟨?_,fun e=>by cases e⟩
    cases q:saidB x with
    | false=>rfl
    | true=>rw[(said_says x h q).1] at hs;cases hs
end Go.Proofs.YtifioikdhfhljaaGreatDoor
