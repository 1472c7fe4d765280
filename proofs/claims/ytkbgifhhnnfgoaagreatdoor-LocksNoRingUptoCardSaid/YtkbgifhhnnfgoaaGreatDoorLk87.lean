/- Locks: the book's downwards. -/
import Derived.Test.YtkbgifhhnnfgoaaGreatDoorLk83
import Derived.Test.YtkbgifhhnnfgoaaGreatDoorLk75
namespace Go.Proofs.YtkbgifhhnnfgoaaGreatDoor
section
section
section
open Go.RowKit

/-- Who holds r, with which mode, by number. -/
structure HdP (m : Ms) (r : Rs) (hs : List (Int × Int)) : Prop where
  mem : ∀ a c, (a, c) ∈ hs ↔ c = m.hl r a ∧ c ≠ 0
  ord : (hs.map Prod.fst).Pairwise (· < ·)
def HoP (w : World) (m : Ms) (r : Rs) (L : List Int) (e : Ending) (w' : World) : Prop := ∃ (v : Value) (hs : List (Int × Int)), e = .returned v ∧ HdP m r hs ∧ w'.ownsRow w.heap.size 74 2 v hs.length (qc hs) ∧ Go.Proofs.YtkbgifhhnnfgoaaGreatDoor.G w w' ∧ hs.length ≤ L.length
def QuP (w : World) (m : Ms) (r : Rs) (e : Ending) (w' : World) : Prop := ∃ v, e = .returned v ∧ w'.ownsRow w.heap.size 74 2 v (m.qs r).length (qc (m.qs r)) ∧ Go.Proofs.YtkbgifhhnnfgoaaGreatDoor.G w w'
section
variable {w : World} {t : Nat} {s : Gs} {m : Ms} {L : List Int} {LR : List Rs} {r : Rs}
theorem qs_len (h : GT w t s m L LR) (r : Rs) : (m.qs r).length ≤ L.length := by
  have := nodup_sub_le0 ((m.qs r).map Prod.fst) L (h.iv.qn r) (fun a ha => by
    obtain ⟨⟨u, g⟩, hu, rfl⟩ := List.mem_map.1 ha
    obtain ⟨b, hb, -⟩ := (h.iv.qm r u g).1 hu
    exact (h.iv.lv u b hb).xl)
  rw [List.length_map] at this
  exact this
theorem holders_t (h : GT w t s m L LR) (hr : r.ok) (hL : L.length < 2000000000000) : Calls Tryz.prog 38 #[ptr t, .agg #[I r.lv, .string r.lb, I r.id]] w (HoP w m r L) := by
  cases e : s.pl r with
  | none =>
    refine Calls.mono (holders_none t s r w h.tt hr e) ?_
    rintro e w' ⟨rfl, g⟩
    refine ⟨_, [], rfl, ⟨fun a c => ⟨fun hh => (by cases hh), fun hh => ?_⟩, List.Pairwise.nil⟩, ⟨rfl, .inl ⟨rfl, rfl⟩⟩, g, Nat.zero_le _⟩
    rw [(h.ab.no r e).1 a] at hh
    exact absurd hh.1 hh.2
  | some q =>
    obtain ⟨y1, -, -⟩ := h.ab.yes r q e
    obtain ⟨l, l1, l2, l3⟩ := fin_list (fun a => q.hf a ≠ 0) L
    have hm : ∀ a, a ∈ srt l ↔ q.hf a ≠ 0 := fun a => by
      rw [(srt_perm l).mem_iff, l2 a]
      refine ⟨fun hh => hh.2, fun hh => ⟨?_, hh⟩⟩
      rw [y1] at hh
      obtain ⟨b, hb, -⟩ := hl_live hh
      exact (h.iv.lv a b hb).xl
    refine Calls.mono (holders_any t s r q (srt l) w h.tt hr e (srt_lt l1) (fun a => by
      rw [hm a]
      refine ⟨fun hh => ⟨?_, hh⟩, fun hh => hh.2⟩
      rw [y1] at hh
      obtain ⟨b, hb, -⟩ := hl_live hh
      exact (h.iv.lv a b hb).xr) (by rw [srt_len]; omega)) ?_
    rintro e w' ⟨v, rfl, hrow, g⟩
    refine ⟨v, (srt l).map fun a => (a, q.hf a), rfl, ⟨fun a c => ?_, ?_⟩, by rw [List.length_map]; exact hrow, g, by rw [List.length_map, srt_len]; exact l3⟩
    · rw [← y1]
      constructor
      · intro hh
        obtain ⟨b, hb, e2⟩ := List.mem_map.1 hh
        cases e2
        exact ⟨rfl, (hm a).1 hb⟩
      · rintro ⟨rfl, h2⟩
        exact List.mem_map.2 ⟨a, (hm a).2 h2, rfl⟩
    · rw [List.map_map]
      have : (Prod.fst ∘ fun a => (a, q.hf a)) = id := rfl
      rw [this, List.map_id]
      exact srt_lt l1
theorem queue_t (h : GT w t s m L LR) (hr : r.ok) (hL : L.length < 2000000000000) : Calls Tryz.prog 64 #[ptr t, .agg #[I r.lv, .string r.lb, I r.id]] w (QuP w m r) := by
  cases e : s.pl r with
  | none =>
    refine Calls.mono (queue_none t s r w h.tt hr e) ?_
    rintro e w' ⟨rfl, g⟩
    rw [QuP, (h.ab.no r e).2]
    exact ⟨_, rfl, ⟨rfl, .inl ⟨rfl, rfl⟩⟩, g⟩
  | some q =>
    obtain ⟨-, y2, -⟩ := h.ab.yes r q e
    have hql := qs_len h r
    refine Calls.mono (queue_any t s r q w h.tt hr e (by rw [y2]; omega)) ?_
    rintro e w' ⟨v, rfl, hrow, g⟩
    rw [y2] at hrow
    exact ⟨v, rfl, hrow, g⟩
theorem rc_cell {w : World} {lo : Nat} {va : Option Addr} {vn vc : Nat} {l : List Rs} (h : w.ownsRow lo 24 3 (.slice va vn vc) l.length (rc l)) {n : Nat} {a : Rs} (ha : l[n]? = some a) : ∃ ga, va = some ⟨ga, 0, none⟩ ∧ w.cell? ⟨ga, n * 3, none⟩ = some (I a.lv) ∧ w.cell? ⟨ga, n * 3 + 1, none⟩ = some (.string a.lb) ∧ w.cell? ⟨ga, n * 3 + 2, none⟩ = some (I a.id) := by
  have hlt := (List.getElem?_eq_some_iff.1 ha).1
  rcases h.2 with ⟨e, e2⟩ | ⟨ga, cap, cur, e, -⟩
  · omega
  · have e3 : va = some ⟨ga, 0, none⟩ := by cases e; rfl
    rw [e] at h
    exact ⟨ga, e3, by rw [h.cellAt _ (by omega)]; exact rc_at l n a ha 0 _ rfl, by rw [h.cellAt _ (by omega)]; exact rc_at l n a ha 1 _ rfl, by rw [h.cellAt _ (by omega)]; exact rc_at l n a ha 2 _ rfl⟩
theorem qc_cell {w : World} {lo : Nat} {va : Option Addr} {vn vc : Nat} {l : List (Int × Int)} (h : w.ownsRow lo 74 2 (.slice va vn vc) l.length (qc l)) {n : Nat} {a c : Int} (ha : l[n]? = some (a, c)) : ∃ ga, va = some ⟨ga, 0, none⟩ ∧ w.cell? ⟨ga, n * 2, none⟩ = some (I a) ∧ w.cell? ⟨ga, n * 2 + 1, none⟩ = some (I c) := by
  have hlt := (List.getElem?_eq_some_iff.1 ha).1
  rcases h.2 with ⟨e, e2⟩ | ⟨ga, cap, cur, e, -⟩
  · omega
  · have e3 : va = some ⟨ga, 0, none⟩ := by cases e; rfl
    rw [e] at h
    obtain ⟨k1, k2⟩ := qc_at l [] n a c ha
    rw [List.append_nil] at k1 k2
    exact ⟨ga, e3, by rw [h.cellAt _ (by omega)]; exact k1, by rw [h.cellAt _ (by omega)]; exact k2⟩
end
set_option maxRecDepth 100000 in
set_option maxHeartbeats 1000000 in
theorem apart_ld {W0 w : World} {b t lo : Nat} {s : Gs} {m : Ms} {live : List (Int × Int)} {res : List Rs} {va vr : Value} {L : List Int} {LR : List Rs} (h : Ld W0 w b t lo s m live res va vr L LR) (hL : L.length < 2000000000000) :
    Calls Tryz.prog 21 #[ptr b] w fun e w' => e = .returned (.bool true) ∧ G w w' := by
  obtain ⟨ra, rcap, rfl⟩ := row_form h.sg.rs
  have H := hide h; have HL := hide hL
  clear h hL
  go_enter Tryz.func21, Tryz.ntmps21
  go_wp2_with fail
  go_loopw [3] (fun iv wr => ∃ i : Nat, i ≤ res.length ∧ iv = I (i : Int) ∧ G w wr) (fun iv _ => res.length - (RowKit.intOf iv).toNat)
  case atStart => exact ⟨0, Nat.zero_le _, rfl, G.refl _⟩
  case round =>
    obtain ⟨i, hi, rfl, hgw⟩ := hrel
    have hLd := H.out.G hgw
    have hbc := hLd.sg.blk.cell
    have hrl := hLd.sg.rl
    by_cases hlt : i < res.length
    · obtain ⟨r, hr⟩ : ∃ a, res[i]? = some a := ⟨_, List.getElem?_eq_getElem hlt⟩
      have hgood := H.out.rg r (List.mem_of_getElem? hr)
      obtain ⟨ga, hga, -⟩ := rc_cell hLd.sg.rs hr
      subst hga
      have HCC : Hid (∀ U, G wr U → (∀ o, U.cell? ⟨b, o, none⟩ = ([ptr t, va, .slice (some ⟨ga, 0, none⟩) res.length rcap] : List Value)[o]?) ∧ U.cell? ⟨ga, i * 3, none⟩ = some (I r.lv) ∧ U.cell? ⟨ga, i * 3 + 1, none⟩ = some (.string r.lb) ∧ U.cell? ⟨ga, i * 3 + 2, none⟩ = some (I r.id)) := fun U gU => by
        refine ⟨(hLd.G gU).sg.blk.cell, ?_⟩
        obtain ⟨gb, hgb, k⟩ := rc_cell (hLd.G gU).sg.rs hr
        have e : ga = gb := by simpa using hgb
        rw [e]; exact k
      have KH : Hid (∀ U, G wr U → Calls Tryz.prog 38 #[ptr t, .agg #[I r.lv, .string r.lb, I r.id]] U (HoP U m r L)) := fun U gU => holders_t (hLd.gt.G gU) hgood.2.1 HL.out
      have hnI : (i : Int) < (res.length : Int) := by omega
      have hwn : wrap64 ((i : Int) + 1) = (i : Int) + 1 := by unfold wrap64; omega
      have HWN := hide hwn; have HLT := hide hlt; have HGW := hide hgw
      clear hLd hrl hlt hr hgood hi hgw hwn
      go_wp2_with fail
      go_upto_region 4 with fail
      clear hbc
      refine wp_region_noPanic ?_
      refine wp_region_held_drew (S := (fun U => G wr U)) (by kernel_rfl) ((G.refl wr).drew) (fun hHeld => ?_)
      refine wpAnyH_take (i := 0) (v := ?_) rfl (by kernel_rfl) (by kernel_rfl) (by kernel_rfl) (fun _ _ _ h => h) (Or.inl ⟨by rfl, ?_⟩) hHeld ?_
      rotate_left 1
      · (intro w hSw; obtain ⟨q1, q2, q3, q4⟩ := HCC.out _ hSw; go_simp; try with_reducible rfl)
      try simp only [Act.put, List.getElem_toArray, List.getElem_cons_zero, List.setIfInBounds_toArray, List.set_cons_zero, List.set_cons_succ]
      refine wpAnyH_take (i := 1) (v := ?_) rfl (by kernel_rfl) (by kernel_rfl) (by kernel_rfl) (fun _ _ _ h => h) (Or.inl ⟨by rfl, ?_⟩) hHeld ?_
      rotate_left 1
      · (intro w hSw; obtain ⟨q1, q2, q3, q4⟩ := HCC.out _ hSw; go_simp; try with_reducible rfl)
      try simp only [Act.put, List.getElem_toArray, List.getElem_cons_zero, List.getElem_cons_succ, List.setIfInBounds_toArray, List.set_cons_zero, List.set_cons_succ]
      refine wpAnyH_take (i := 2) (v := ?_) rfl (by kernel_rfl) (by kernel_rfl) (by kernel_rfl) (fun _ _ _ h => h) (Or.inl ⟨by rfl, ?_⟩) hHeld ?_
      rotate_left 1
      · (intro w hSw; obtain ⟨q1, q2, q3, q4⟩ := HCC.out _ hSw; go_simp; try with_reducible rfl)
      try simp only [Act.put, List.getElem_toArray, List.getElem_cons_zero, List.getElem_cons_succ, List.setIfInBounds_toArray, List.set_cons_zero, List.set_cons_succ]
      refine wpAnyH_take (i := 3) (v := ?_) rfl (by kernel_rfl) (by kernel_rfl) (by kernel_rfl) (fun _ _ _ h => h) (Or.inl ⟨by rfl, ?_⟩) hHeld ?_
      rotate_left 1
      · (intro w hSw; obtain ⟨q1, q2, q3, q4⟩ := HCC.out _ hSw; go_simp; try with_reducible rfl)
      try simp only [Act.put, List.getElem_toArray, List.getElem_cons_zero, List.getElem_cons_succ, List.setIfInBounds_toArray, List.set_cons_zero, List.set_cons_succ]
      refine wpAnyH_take (i := 4) (v := ?_) rfl (by kernel_rfl) (by kernel_rfl) (by kernel_rfl) (fun _ _ _ h => h) (Or.inl ⟨by rfl, ?_⟩) hHeld ?_
      rotate_left 1
      · (intro w hSw; obtain ⟨q1, q2, q3, q4⟩ := HCC.out _ hSw; go_simp; try with_reducible rfl)
      try simp only [Act.put, List.getElem_toArray, List.getElem_cons_zero, List.getElem_cons_succ, List.setIfInBounds_toArray, List.set_cons_zero, List.set_cons_succ]
      refine wpAnyH_take (i := 5) (v := ?_) rfl (by kernel_rfl) (by kernel_rfl) (by kernel_rfl) (fun _ _ _ h => h) (Or.inl ⟨by rfl, ?_⟩) hHeld ?_
      rotate_left 1
      · (intro w hSw; obtain ⟨q1, q2, q3, q4⟩ := HCC.out _ hSw; go_simp; try with_reducible rfl)
      try simp only [Act.put, List.getElem_toArray, List.getElem_cons_zero, List.getElem_cons_succ, List.setIfInBounds_toArray, List.set_cons_zero, List.set_cons_succ]
      refine wpAnyH_take (i := 6) (v := ?_) rfl (by kernel_rfl) (by kernel_rfl) (by kernel_rfl) (fun _ _ _ h => h) (Or.inl ⟨by rfl, ?_⟩) hHeld ?_
      rotate_left 1
      · (intro w hSw; obtain ⟨q1, q2, q3, q4⟩ := HCC.out _ hSw; go_simp; try with_reducible rfl)
      try simp only [Act.put, List.getElem_toArray, List.getElem_cons_zero, List.getElem_cons_succ, List.setIfInBounds_toArray, List.set_cons_zero, List.set_cons_succ]
      refine wpAnyH_take (i := 7) (v := ?_) rfl (by kernel_rfl) (by kernel_rfl) (by kernel_rfl) (fun _ _ _ h => h) (Or.inl ⟨by rfl, ?_⟩) hHeld ?_
      rotate_left 1
      · (intro w hSw; obtain ⟨q1, q2, q3, q4⟩ := HCC.out _ hSw; go_simp; try with_reducible rfl)
      try simp only [Act.put, List.getElem_toArray, List.getElem_cons_zero, List.getElem_cons_succ, List.setIfInBounds_toArray, List.set_cons_zero, List.set_cons_succ]
      refine wpAnyH_take (i := 8) (v := ?_) rfl (by kernel_rfl) (by kernel_rfl) (by kernel_rfl) (fun _ _ _ h => h) (Or.inl ⟨by rfl, ?_⟩) hHeld ?_
      rotate_left 1
      · (intro w hSw; obtain ⟨q1, q2, q3, q4⟩ := HCC.out _ hSw; go_simp; try with_reducible rfl)
      try simp only [Act.put, List.getElem_toArray, List.getElem_cons_zero, List.getElem_cons_succ, List.setIfInBounds_toArray, List.set_cons_zero, List.set_cons_succ]
      refine wpAnyH_take (i := 9) (v := ?_) rfl (by kernel_rfl) (by kernel_rfl) (by kernel_rfl) (fun _ _ _ h => h) (Or.inl ⟨by rfl, ?_⟩) hHeld ?_
      rotate_left 1
      · (intro w hSw; obtain ⟨q1, q2, q3, q4⟩ := HCC.out _ hSw; go_simp; try with_reducible rfl)
      try simp only [Act.put, List.getElem_toArray, List.getElem_cons_zero, List.getElem_cons_succ, List.setIfInBounds_toArray, List.set_cons_zero, List.set_cons_succ]
      refine wpAnyH_take (i := 10) (v := ?_) rfl (by kernel_rfl) (by kernel_rfl) (by kernel_rfl) (fun _ _ _ h => h) (Or.inl ⟨by rfl, ?_⟩) hHeld ?_
      rotate_left 1
      · (intro w hSw; obtain ⟨q1, q2, q3, q4⟩ := HCC.out _ hSw; go_simp; try with_reducible rfl)
      try simp only [Act.put, List.getElem_toArray, List.getElem_cons_zero, List.getElem_cons_succ, List.setIfInBounds_toArray, List.set_cons_zero, List.set_cons_succ]
      refine wpAnyH_ready (rs := [11]) (by kernel_rfl) (by simp) (AllReadyH.cons rfl (fun K hK => ?_) AllReadyH.nil)
      have hgc := hHeld
      clear hHeld
      go_simp
      with_reducible refine (KH.out _ hgc).mono ?_
      intro e w3 hq3
      obtain ⟨v3, hs, rfl, hd3, hrow3, hg3, hl3⟩ := hq3
      obtain ⟨ha, hc, rfl⟩ := row_form hrow3
      have HG3 := hide (hgc.trans hg3)
      have H3 : Hid (HdP m r hs ∧ w3.ownsRow wr.heap.size 74 2 (.slice ha hs.length hc) hs.length (qc hs) ∧ hs.length ≤ L.length) := ⟨hd3, own_lo hrow3 hgc.size, hl3⟩
      clear hd3 hrow3 hg3 hl3 hgc
      refine hK.out _ _ (HG3.out) (fun hHeld => ?_)
      clear hK K
      try simp only [Act.put, List.getElem_toArray, List.getElem_cons_zero, List.getElem_cons_succ, List.setIfInBounds_toArray, List.set_cons_zero, List.set_cons_succ]
      refine wpAnyH_take (i := 12) (v := ?_) rfl (by kernel_rfl) (by kernel_rfl) (by kernel_rfl) (fun _ _ _ h => h) (Or.inl ⟨by rfl, ?_⟩) hHeld ?_
      rotate_left 1
      · (intro w hSw; (try dsimp only at hSw); go_simp; try with_reducible rfl)
      try simp only [Act.put, List.getElem_toArray, List.getElem_cons_zero, List.getElem_cons_succ, List.setIfInBounds_toArray, List.set_cons_zero, List.set_cons_succ]
      refine wpAnyH_done (by kernel_rfl) ?_ _
      refine NoPanic.normal ?_
      clear hHeld
      have HG3w := hide (HGW.out.trans HG3.out)
      clear KH HCC
      go_wp2_with fail
      go_loopw [5] (fun jv wi => ∃ j : Nat, j ≤ hs.length ∧ jv = I (j : Int) ∧ G w3 wi) (fun jv _ => hs.length - (RowKit.intOf jv).toNat)
      case atStart => exact ⟨0, Nat.zero_le _, rfl, G.refl _⟩
      case round =>
        obtain ⟨j, hj, rfl, hgj⟩ := hrel
        have hhl : hs.length < 2000000000000 := by have := H3.out.2.2; have := HL.out; omega
        by_cases hjl : j < hs.length
        · obtain ⟨⟨a, ca⟩, ha1⟩ : ∃ a, hs[j]? = some a := ⟨_, List.getElem?_eq_getElem hjl⟩
          obtain ⟨gh, hgh, -⟩ := qc_cell H3.out.2.1 ha1
          subst hgh
          have HJ : Hid (∀ U, G w3 U → U.cell? ⟨gh, j * 2, none⟩ = some (I a) ∧ U.cell? ⟨gh, j * 2 + 1, none⟩ = some (I ca)) := fun U gU => by
            obtain ⟨gb, hgb, k⟩ := qc_cell (own_G H3.out.2.1 gU) ha1
            have e : gh = gb := by simpa using hgb
            rw [e]; exact k
          have hjI : (j : Int) < (hs.length : Int) := by omega
          have hwj : wrap64 ((j : Int) + 1) = (j : Int) + 1 := by unfold wrap64; omega
          have HWJ := hide hwj; have HJL := hide hjl; have HGJ := hide hgj; have HA1 := hide ha1
          clear hj hjl hgj ha1 hwj hhl
          go_wp2_with fail
          go_loopw [6] (fun kv wi => ∃ k : Nat, k ≤ j ∧ kv = I (k : Int) ∧ G w3 wi) (fun kv _ => j - (RowKit.intOf kv).toNat)
          case atStart => exact ⟨0, Nat.zero_le _, rfl, HGJ.out⟩
          case round =>
            obtain ⟨k, hk, rfl, hgk⟩ := hrel
            by_cases hkl : k < j
            · obtain ⟨⟨c, cc⟩, hc1⟩ : ∃ a, hs[k]? = some a := ⟨_, List.getElem?_eq_getElem (by have := HJL.out; omega)⟩
              obtain ⟨gb, hgb, k1, k2⟩ := qc_cell (own_G H3.out.2.1 hgk) hc1
              have e : gh = gb := by simpa using hgb
              subst e
              obtain ⟨k3, k4⟩ := HJ.out _ hgk
              have hm1 := (H3.out.1.mem a ca).1 (List.mem_of_getElem? HA1.out)
              have hm2 := (H3.out.1.mem c cc).1 (List.mem_of_getElem? hc1)
              have hac : a ≠ c := fun e => by
                have hpw := H3.out.1.ord
                have l1 : k < (hs.map Prod.fst).length := by rw [List.length_map]; have := HJL.out; omega
                have l2 : j < (hs.map Prod.fst).length := by rw [List.length_map]; exact HJL.out
                have := List.pairwise_iff_getElem.1 hpw k j l1 l2 hkl
                obtain ⟨z1, e1⟩ := List.getElem?_eq_some_iff.1 hc1
                obtain ⟨z2, e2⟩ := List.getElem?_eq_some_iff.1 HA1.out
                rw [List.getElem_map, List.getElem_map, e1, e2] at this
                simp at this
                omega
              have hfit : fitB ca cc = true := by
                rw [hm1.1, hm2.1]
                exact H.out.gt.iv.ft r a c hac (by rw [← hm1.1]; exact hm1.2) (by rw [← hm2.1]; exact hm2.2)
              have KF : Hid (∀ n, Calls Tryz.prog 39 #[I ca, I cc] (wr.drewN n) fun e w' => e = .returned (.bool true) ∧ w' = wr.drewN n) := fun n => by
                have := fits_any ca cc (wr.drewN n) (H.out.gt.tb.G ((HG3w.out.trans hgk).drewN n))
                rw [hfit] at this
                exact this
              have d1 : (a == c) = false := by simp [hac]
              have d2 : decide (a = c) = false := by simp [hac]
              have hkI : (k : Int) < (j : Int) := by omega
              have hkh : (k : Int) < (hs.length : Int) := by have := HJL.out; omega
              have hjh : (j : Int) < (hs.length : Int) := by have := HJL.out; omega
              have hwk : wrap64 ((k : Int) + 1) = (k : Int) + 1 := by have := HJL.out; have := H3.out.2.2; have := HL.out; unfold wrap64; omega
              have HWK := hide hwk; have HKL := hide hkl; have HGK := hide hgk
              clear hk hkl hgk hc1 hgb hm1 hm2 hac hfit hwk
              go_wp2
              go_quiet (first | (go_at_call 39; with_reducible refine Calls.quiet_of_same (KF.out _)))
              generalize hV : World.drewN wr _ = V
              have HGV : Hid (G w3 V) := by rw [← hV]; exact HGK.out.drewN _
              clear hV k1 k2 k3 k4 KF
              go_wp2
              exact ⟨⟨k + 1, HKL.out, by rw [HWK.out]; exact rl1 k, HGV.out⟩, by rw [HWK.out]; exact ms_end HKL.out⟩
            · have hne : k = j := by omega
              subst hne
              have hkI : ¬ ((k : Int) < (k : Int)) := by omega
              have HGK := hide hgk
              clear hk hkl hgk
              go_wp2
              exact ⟨⟨k + 1, HJL.out, by rw [HWJ.out]; exact rl1 k, HGK.out⟩, by rw [HWJ.out]; exact ms_end HJL.out⟩
        · have hne : j = hs.length := by omega
          subst hne
          have hjI : ¬ ((hs.length : Int) < (hs.length : Int)) := by omega
          have HGJ := hide hgj
          clear hj hjl hgj hhl
          go_wp2
          exact ⟨⟨i + 1, HLT.out, by rw [HWN.out]; exact rl1 i, HG3w.out.trans HGJ.out⟩, by rw [HWN.out]; exact ms_end HLT.out⟩
    · have hne : i = res.length := by omega
      subst hne
      have hnI : ¬ ((res.length : Int) < (res.length : Int)) := by omega
      have HGW := hide hgw
      clear hi hlt hgw hLd hrl
      go_wp2
      go_ret
      exact ⟨rfl, HGW.out⟩
end
open Go.RowKit

/-- One of these holders, one of these requests stands in the way. -/
def wayH (x g : Int) (hs : List (Int × Int)) : Bool := hs.any fun a => a.1 != x && !fitB a.2 g
def wayQ (g : Int) (qs : List (Int × Int)) : Bool := qs.any fun a => !fitB a.2 g
theorem wayH_snoc {x g : Int} {hs : List (Int × Int)} {n : Nat} {a : Int × Int} (h : hs[n]? = some a) : wayH x g (hs.take (n + 1)) = (wayH x g (hs.take n) || (a.1 != x && !fitB a.2 g)) := by
  unfold wayH
  rw [List.take_add_one, h, List.any_append]
  simp
theorem wayQ_snoc {g : Int} {qs : List (Int × Int)} {n : Nat} {a : Int × Int} (h : qs[n]? = some a) : wayQ g (qs.take (n + 1)) = (wayQ g (qs.take n) || !fitB a.2 g) := by
  unfold wayQ
  rw [List.take_add_one, h, List.any_append]
  simp
theorem way_true {m : Ms} {r : Rs} {hs : List (Int × Int)} (hd : HdP m r hs) {x g : Int} {i : Nat} {y : Int} (hw : inW (m.hl r) (m.qs r) x g i y) : (wayH x g hs || wayQ g ((m.qs r).take i)) = true := by
  rw [Bool.or_eq_true]
  rcases hw with ⟨h1, h2, h3⟩ | ⟨j, g', hj, hq, h3⟩
  · left
    unfold wayH
    rw [List.any_eq_true]
    exact ⟨(y, m.hl r y), (hd.mem y _).2 ⟨rfl, h1⟩, by simp [h2, h3]⟩
  · right
    unfold wayQ
    rw [List.any_eq_true]
    exact ⟨(y, g'), List.mem_iff_getElem?.2 ⟨j, by rw [List.getElem?_take, if_pos hj]; exact hq⟩, by simp [h3]⟩
set_option maxRecDepth 100000 in
set_option maxHeartbeats 1000000 in
theorem stands_ld {W0 w : World} {b t lo : Nat} {s : Gs} {m : Ms} {live : List (Int × Int)} {res : List Rs} {va vr : Value} {L : List Int} {LR : List Rs} (h : Ld W0 w b t lo s m live res va vr L LR) (hL : L.length < 2000000000000) {x goal : Int} {r : Rs} {p : Pm} (hp : m.lv x = some p) (hr : p.at_ = r) (hg : p.goal = goal) (hg0 : goal ≠ 0) :
    Calls Tryz.prog 41 #[ptr b, I x, .agg #[I r.lv, .string r.lb, I r.id], I goal] w fun e w' => e = .returned (.bool true) ∧ G w w' := by
  have hgd : GoodR r LR := by rw [← hr]; exact ((h.gt.iv.lv x p hp).g1 (by rw [hg]; exact hg0)).2
  have hmem : (x, goal) ∈ m.qs r := (h.gt.iv.qm r x goal).2 ⟨p, hp, hg, hg0, hr⟩
  obtain ⟨i, hi⟩ := List.mem_iff_getElem?.1 hmem
  obtain ⟨y, hy⟩ := h.gt.iv.bl r i x goal hi
  have hone : ∀ j c, (m.qs r)[j]? = some (x, c) → j = i := fun j c hj => nodup_at (h.gt.iv.qn r) hj hi
  have hql := qs_len h.gt r
  have H := hide h; have HL := hide hL; have HI := hide hi; have HY := hide hy; have HONE := hide hone; have HQL := hide hql; have HGD := hide hgd
  clear h hL hp hr hg hg0 hmem hi hy hone hql hgd
  go_enter Tryz.func41, Tryz.ntmps41
  go_upto_region 2 with fail
  obtain ⟨w1, hw1⟩ : ∃ w1, w1 = w.alloc (.cells #[I r.lv, .string r.lb, I r.id] 24) := ⟨_, rfl⟩
  rw [← hw1]
  have H1 : Hid (Blk w1 w.heap.size 24 [I r.lv, .string r.lb, I r.id] ∧ G w w1) := by rw [hw1]; exact ⟨Blk.new w [I r.lv, .string r.lb, I r.id] 24, (G.refl w).alloc _⟩
  clear hw1
  generalize w.heap.size = rb at H1 ⊢
  have HCC : Hid (∀ U, G w1 U → (∀ o, U.cell? ⟨b, o, none⟩ = ([ptr t, va, vr] : List Value)[o]?) ∧ ∀ o, U.cell? ⟨rb, o, none⟩ = ([I r.lv, .string r.lb, I r.id] : List Value)[o]?) := fun U gU => ⟨(H.out.G (H1.out.2.trans gU)).sg.blk.cell, (H1.out.1.G gU).cell⟩
  have KH : Hid (∀ U, G w1 U → Calls Tryz.prog 38 #[ptr t, .agg #[I r.lv, .string r.lb, I r.id]] U (HoP U m r L)) := fun U gU => holders_t (H.out.gt.G (H1.out.2.trans gU)) HGD.out.2.1 HL.out
  refine wp_region_noPanic ?_
  refine wp_region_held_drew (S := (fun U => G w1 U)) (by kernel_rfl) ((G.refl w1).drew) (fun hHeld => ?_)
  refine wpAnyH_take (i := 0) (v := ?_) rfl (by kernel_rfl) (by kernel_rfl) (by kernel_rfl) (fun _ _ _ h => h) (Or.inl ⟨by rfl, ?_⟩) hHeld ?_
  rotate_left 1
  · (intro w hSw; obtain ⟨q1, q2⟩ := HCC.out _ hSw; go_simp; try with_reducible rfl)
  try simp only [Act.put, List.getElem_toArray, List.getElem_cons_zero, List.setIfInBounds_toArray, List.set_cons_zero, List.set_cons_succ]
  refine wpAnyH_take (i := 1) (v := ?_) rfl (by kernel_rfl) (by kernel_rfl) (by kernel_rfl) (fun _ _ _ h => h) (Or.inl ⟨by rfl, ?_⟩) hHeld ?_
  rotate_left 1
  · (intro w hSw; obtain ⟨q1, q2⟩ := HCC.out _ hSw; go_simp; try with_reducible rfl)
  try simp only [Act.put, List.getElem_toArray, List.getElem_cons_zero, List.getElem_cons_succ, List.setIfInBounds_toArray, List.set_cons_zero, List.set_cons_succ]
  refine wpAnyH_take (i := 2) (v := ?_) rfl (by kernel_rfl) (by kernel_rfl) (by kernel_rfl) (fun _ _ _ h => h) (Or.inl ⟨by rfl, ?_⟩) hHeld ?_
  rotate_left 1
  · (intro w hSw; obtain ⟨q1, q2⟩ := HCC.out _ hSw; go_simp; try with_reducible rfl)
  try simp only [Act.put, List.getElem_toArray, List.getElem_cons_zero, List.getElem_cons_succ, List.setIfInBounds_toArray, List.set_cons_zero, List.set_cons_succ]
  refine wpAnyH_take (i := 3) (v := ?_) rfl (by kernel_rfl) (by kernel_rfl) (by kernel_rfl) (fun _ _ _ h => h) (Or.inl ⟨by rfl, ?_⟩) hHeld ?_
  rotate_left 1
  · (intro w hSw; obtain ⟨q1, q2⟩ := HCC.out _ hSw; go_simp; try with_reducible rfl)
  try simp only [Act.put, List.getElem_toArray, List.getElem_cons_zero, List.getElem_cons_succ, List.setIfInBounds_toArray, List.set_cons_zero, List.set_cons_succ]
  refine wpAnyH_take (i := 4) (v := ?_) rfl (by kernel_rfl) (by kernel_rfl) (by kernel_rfl) (fun _ _ _ h => h) (Or.inl ⟨by rfl, ?_⟩) hHeld ?_
  rotate_left 1
  · (intro w hSw; obtain ⟨q1, q2⟩ := HCC.out _ hSw; go_simp; try with_reducible rfl)
  try simp only [Act.put, List.getElem_toArray, List.getElem_cons_zero, List.getElem_cons_succ, List.setIfInBounds_toArray, List.set_cons_zero, List.set_cons_succ]
  refine wpAnyH_ready (rs := [5]) (by kernel_rfl) (by simp) (AllReadyH.cons rfl (fun K hK => ?_) AllReadyH.nil)
  have hgc := hHeld
  clear hHeld
  go_simp
  with_reducible refine (KH.out _ hgc).mono ?_
  intro e w3 hq3
  obtain ⟨v3, hs, rfl, hd3, hrow3, hg3, hl3⟩ := hq3
  obtain ⟨ha, hc, rfl⟩ := row_form hrow3
  have HGw3 := hide (hgc.trans hg3)
  have H3 : Hid (HdP m r hs ∧ w3.ownsRow w1.heap.size 74 2 (.slice ha hs.length hc) hs.length (qc hs) ∧ hs.length ≤ L.length) := ⟨hd3, own_lo hrow3 hgc.size, hl3⟩
  clear hd3 hrow3 hg3 hl3 hgc
  refine hK.out _ _ (HGw3.out) (fun hHeld => ?_)
  clear hK K
  try simp only [Act.put, List.getElem_toArray, List.getElem_cons_zero, List.getElem_cons_succ, List.setIfInBounds_toArray, List.set_cons_zero, List.set_cons_succ]
  refine wpAnyH_take (i := 6) (v := ?_) rfl (by kernel_rfl) (by kernel_rfl) (by kernel_rfl) (fun _ _ _ h => h) (Or.inl ⟨by rfl, ?_⟩) hHeld ?_
  rotate_left 1
  · (intro w hSw; (try dsimp only at hSw); go_simp; try with_reducible rfl)
  try simp only [Act.put, List.getElem_toArray, List.getElem_cons_zero, List.getElem_cons_succ, List.setIfInBounds_toArray, List.set_cons_zero, List.set_cons_succ]
  refine wpAnyH_done (by kernel_rfl) ?_ _
  refine NoPanic.normal ?_
  clear hHeld KH HCC
  have HW3 : Hid (Tb w3) := H.out.gt.tb.G (H1.out.2.trans HGw3.out)
  go_wp2_with fail
  go_loopw [9, 11] (fun wv iv wr => ∃ n : Nat, n ≤ hs.length ∧ wv = .bool (wayH x goal (hs.take n)) ∧ iv = I (n : Int) ∧ wr = w3) (fun _ iv _ => hs.length - (RowKit.intOf iv).toNat)
  case atStart => exact ⟨0, Nat.zero_le _, rfl, rfl, rfl⟩
  case round =>
    obtain ⟨n, hn, rfl, rfl, hwr⟩ := hrel
    subst hwr
    have hhl : hs.length < 2000000000000 := by have := H3.out.2.2; have := HL.out; omega
    by_cases hlt : n < hs.length
    · obtain ⟨⟨a, ca⟩, ha1⟩ : ∃ a, hs[n]? = some a := ⟨_, List.getElem?_eq_getElem hlt⟩
      obtain ⟨gh, hgh, k1, k2⟩ := qc_cell H3.out.2.1 ha1
      subst hgh
      have hnI : (n : Int) < (hs.length : Int) := by omega
      have hwn : wrap64 ((n : Int) + 1) = (n : Int) + 1 := by unfold wrap64; omega
      have HWN := hide hwn; have HLT := hide hlt; have HSN := hide (wayH_snoc (x := x) (g := goal) ha1)
      have KF := hide (fits_any ca goal wr HW3.out)
      clear hn hlt ha1 hwn hhl
      by_cases e1 : a = x
      · have HSF : Hid (wayH x goal (hs.take (n + 1)) = wayH x goal (hs.take n)) := by rw [Hid, HSN.out]; simp [e1]
        rw [e1] at k1
        clear HSN e1
        go_wp2
        exact ⟨⟨n + 1, HLT.out, by rw [HSF.out], by rw [HWN.out]; exact rl1 n, by first | rfl | trivial⟩, by rw [HWN.out]; exact ms_end HLT.out⟩
      · have d1 : (a != x) = true := by simp [e1]
        have d2 : (a == x) = false := by simp [e1]
        have d3 : decide (a = x) = false := by simp [e1]
        cases hf : fitB ca goal with
        | true =>
          have HSF : Hid (wayH x goal (hs.take (n + 1)) = wayH x goal (hs.take n)) := by rw [Hid, HSN.out, hf]; simp
          rw [hf] at KF
          clear HSN hf
          go_wp2_with (first | (go_at_call 39; with_reducible refine KF.out.mono ?_; rintro e w' ⟨rfl, hw'⟩; have hw2 := hw'.symm; subst hw2; clear hw') | fail)
          exact ⟨⟨n + 1, HLT.out, by rw [HSF.out], by rw [HWN.out]; exact rl1 n, by first | rfl | trivial⟩, by rw [HWN.out]; exact ms_end HLT.out⟩
        | false =>
          have HSF : Hid (wayH x goal (hs.take (n + 1)) = true) := by rw [Hid, HSN.out, hf]; simp [e1]
          rw [hf] at KF
          clear HSN hf
          go_wp2_with (first | (go_at_call 39; with_reducible refine KF.out.mono ?_; rintro e w' ⟨rfl, hw'⟩; have hw2 := hw'.symm; subst hw2; clear hw') | fail)
          exact ⟨⟨n + 1, HLT.out, by rw [HSF.out], by rw [HWN.out]; exact rl1 n, by first | rfl | trivial⟩, by rw [HWN.out]; exact ms_end HLT.out⟩
    · have hne : n = hs.length := by omega
      subst hne
      have hnI : ¬ ((hs.length : Int) < (hs.length : Int)) := by omega
      rw [List.take_length]
      clear hn hlt hhl
      obtain ⟨w4, hw4⟩ : ∃ v, v = wr := ⟨_, rfl⟩
      have HCC : Hid (∀ U, G w4 U → (∀ o, U.cell? ⟨b, o, none⟩ = ([ptr t, va, vr] : List Value)[o]?) ∧ ∀ o, U.cell? ⟨rb, o, none⟩ = ([I r.lv, .string r.lb, I r.id] : List Value)[o]?) := fun U gU => by
        rw [hw4] at gU
        exact ⟨(H.out.G (H1.out.2.trans (HGw3.out.trans gU))).sg.blk.cell, (H1.out.1.G (HGw3.out.trans gU)).cell⟩
      have KQ : Hid (∀ U, G w4 U → Calls Tryz.prog 64 #[ptr t, .agg #[I r.lv, .string r.lb, I r.id]] U (QuP U m r)) := fun U gU => by
        rw [hw4] at gU
        exact queue_t (H.out.gt.G (H1.out.2.trans (HGw3.out.trans gU))) HGD.out.2.1 HL.out
      have HG4 : Hid (G w w4) := by rw [hw4]; exact H1.out.2.trans HGw3.out
      have HWY : Hid (HdP m r hs) := H3.out.1
      clear H3 HW3 HGw3
      subst hw4
      go_wp2_with fail
      go_upto_region 8 with fail
      refine wp_region_noPanic ?_
      refine wp_region_held_drew (S := (fun U => G w4 U)) (by kernel_rfl) ((G.refl w4).drew) (fun hHeld => ?_)
      refine wpAnyH_take (i := 0) (v := ?_) rfl (by kernel_rfl) (by kernel_rfl) (by kernel_rfl) (fun _ _ _ h => h) (Or.inl ⟨by rfl, ?_⟩) hHeld ?_
      rotate_left 1
      · (intro w hSw; obtain ⟨q1, q2⟩ := HCC.out _ hSw; go_simp; try with_reducible rfl)
      try simp only [Act.put, List.getElem_toArray, List.getElem_cons_zero, List.setIfInBounds_toArray, List.set_cons_zero, List.set_cons_succ]
      refine wpAnyH_take (i := 1) (v := ?_) rfl (by kernel_rfl) (by kernel_rfl) (by kernel_rfl) (fun _ _ _ h => h) (Or.inl ⟨by rfl, ?_⟩) hHeld ?_
      rotate_left 1
      · (intro w hSw; obtain ⟨q1, q2⟩ := HCC.out _ hSw; go_simp; try with_reducible rfl)
      try simp only [Act.put, List.getElem_toArray, List.getElem_cons_zero, List.getElem_cons_succ, List.setIfInBounds_toArray, List.set_cons_zero, List.set_cons_succ]
      refine wpAnyH_take (i := 2) (v := ?_) rfl (by kernel_rfl) (by kernel_rfl) (by kernel_rfl) (fun _ _ _ h => h) (Or.inl ⟨by rfl, ?_⟩) hHeld ?_
      rotate_left 1
      · (intro w hSw; obtain ⟨q1, q2⟩ := HCC.out _ hSw; go_simp; try with_reducible rfl)
      try simp only [Act.put, List.getElem_toArray, List.getElem_cons_zero, List.getElem_cons_succ, List.setIfInBounds_toArray, List.set_cons_zero, List.set_cons_succ]
      refine wpAnyH_take (i := 3) (v := ?_) rfl (by kernel_rfl) (by kernel_rfl) (by kernel_rfl) (fun _ _ _ h => h) (Or.inl ⟨by rfl, ?_⟩) hHeld ?_
      rotate_left 1
      · (intro w hSw; obtain ⟨q1, q2⟩ := HCC.out _ hSw; go_simp; try with_reducible rfl)
      try simp only [Act.put, List.getElem_toArray, List.getElem_cons_zero, List.getElem_cons_succ, List.setIfInBounds_toArray, List.set_cons_zero, List.set_cons_succ]
      refine wpAnyH_take (i := 4) (v := ?_) rfl (by kernel_rfl) (by kernel_rfl) (by kernel_rfl) (fun _ _ _ h => h) (Or.inl ⟨by rfl, ?_⟩) hHeld ?_
      rotate_left 1
      · (intro w hSw; obtain ⟨q1, q2⟩ := HCC.out _ hSw; go_simp; try with_reducible rfl)
      try simp only [Act.put, List.getElem_toArray, List.getElem_cons_zero, List.getElem_cons_succ, List.setIfInBounds_toArray, List.set_cons_zero, List.set_cons_succ]
      refine wpAnyH_ready (rs := [5]) (by kernel_rfl) (by simp) (AllReadyH.cons rfl (fun K hK => ?_) AllReadyH.nil)
      have hgc := hHeld
      clear hHeld
      go_simp
      with_reducible refine (KQ.out _ hgc).mono ?_
      intro e w5 hq3
      obtain ⟨v5, rfl, hrow5, hg5⟩ := hq3
      obtain ⟨qa, qc5, rfl⟩ := row_form hrow5
      have HGw5 := hide (hgc.trans hg5)
      have H5 : Hid (w5.ownsRow w4.heap.size 74 2 (.slice qa (m.qs r).length qc5) (m.qs r).length (qc (m.qs r))) := own_lo hrow5 hgc.size
      clear hrow5 hg5 hgc
      refine hK.out _ _ (HGw5.out) (fun hHeld => ?_)
      clear hK K
      try simp only [Act.put, List.getElem_toArray, List.getElem_cons_zero, List.getElem_cons_succ, List.setIfInBounds_toArray, List.set_cons_zero, List.set_cons_succ]
      refine wpAnyH_take (i := 6) (v := ?_) rfl (by kernel_rfl) (by kernel_rfl) (by kernel_rfl) (fun _ _ _ h => h) (Or.inl ⟨by rfl, ?_⟩) hHeld ?_
      rotate_left 1
      · (intro w hSw; (try dsimp only at hSw); go_simp; try with_reducible rfl)
      try simp only [Act.put, List.getElem_toArray, List.getElem_cons_zero, List.getElem_cons_succ, List.setIfInBounds_toArray, List.set_cons_zero, List.set_cons_succ]
      refine wpAnyH_done (by kernel_rfl) ?_ _
      refine NoPanic.normal ?_
      clear hHeld KQ HCC
      have HW5 : Hid (Tb w5) := H.out.gt.tb.G (HG4.out.trans HGw5.out)
      have HGF := hide (HG4.out.trans HGw5.out)
      go_wp2_with fail
      go_loopw [9, 13] (fun wv iv wr => ∃ n : Nat, n ≤ i ∧ wv = .bool (wayH x goal hs || wayQ goal ((m.qs r).take n)) ∧ iv = I (n : Int) ∧ wr = w5) (fun _ iv _ => (m.qs r).length - (RowKit.intOf iv).toNat)
      case atStart => exact ⟨0, Nat.zero_le _, by simp [wayQ], rfl, rfl⟩
      case round =>
        obtain ⟨n, hn, rfl, rfl, hwr⟩ := hrel
        subst hwr
        have hil := (List.getElem?_eq_some_iff.1 HI.out).1
        have hnl : n < (m.qs r).length := by omega
        obtain ⟨⟨a, ca⟩, ha1⟩ : ∃ a, (m.qs r)[n]? = some a := ⟨_, List.getElem?_eq_getElem hnl⟩
        obtain ⟨gh, hgh, k1, k2⟩ := qc_cell H5.out ha1
        subst hgh
        have hnI : (n : Int) < ((m.qs r).length : Int) := by omega
        have hwn : wrap64 ((n : Int) + 1) = (n : Int) + 1 := by have := HQL.out; have := HL.out; unfold wrap64; omega
        have HWN := hide hwn; have HNL := hide hnl; have HSN := hide (wayQ_snoc (g := goal) ha1)
        have KF := hide (fits_any ca goal wr HW5.out)
        by_cases e1 : a = x
        · have hni : n = i := HONE.out n ca (by rw [← e1]; exact ha1)
          have hcg : ca = goal := by
            rw [hni, HI.out] at ha1
            cases ha1
            rfl
          have htr := way_true HWY.out HY.out
          rw [← hni] at htr
          rw [htr]
          rw [e1] at k1
          rw [hcg] at k2
          clear hn hil hnl ha1 hwn HSN KF e1 hcg htr hni
          go_wp2
          go_ret
          exact ⟨rfl, HGF.out⟩
        · have d2 : (a == x) = false := by simp [e1]
          have d3 : decide (a = x) = false := by simp [e1]
          have hni : n < i := by
            refine Decidable.byContradiction fun e => ?_
            have e3 : n = i := by omega
            rw [e3, HI.out] at ha1
            cases ha1
            exact e1 rfl
          have HNI := hide hni
          clear hn hil hnl ha1 hwn hni
          cases hf : fitB ca goal with
          | true =>
            have HSF : Hid (wayQ goal ((m.qs r).take (n + 1)) = wayQ goal ((m.qs r).take n)) := by rw [Hid, HSN.out, hf]; simp
            rw [hf] at KF
            clear HSN hf
            go_wp2_with (first | (go_at_call 39; with_reducible refine KF.out.mono ?_; rintro e w' ⟨rfl, hw'⟩; have hw2 := hw'.symm; subst hw2; clear hw') | fail)
            exact ⟨⟨n + 1, HNI.out, by rw [HSF.out], by rw [HWN.out]; exact rl1 n, by first | rfl | trivial⟩, by rw [HWN.out]; exact ms_end HNL.out⟩
          | false =>
            have HSF : Hid (wayQ goal ((m.qs r).take (n + 1)) = true) := by rw [Hid, HSN.out, hf]; simp
            rw [hf] at KF
            clear HSN hf
            go_wp2_with (first | (go_at_call 39; with_reducible refine KF.out.mono ?_; rintro e w' ⟨rfl, hw'⟩; have hw2 := hw'.symm; subst hw2; clear hw') | fail)
            exact ⟨⟨n + 1, HNI.out, by rw [HSF.out, Bool.or_true], by rw [HWN.out]; exact rl1 n, by first | rfl | trivial⟩, by rw [HWN.out]; exact ms_end HNL.out⟩
end
open Go.RowKit

theorem told_is {m : Ms} {L : List Int} {LR : List Rs} {live : List (Int × Int)} (hI : Iv m L LR) (hb : Bk m live) {wl : List (Int × Int × Rs)} (hw : WtP m (srt (live.map fun a => a.1)) wl) {x : Int} {p : Pm} (hp : m.lv x = some p) : hadB x wl = (!(p.goal == 0) && !p.hurt) := by
  cases hg : (p.goal == 0) with
  | true =>
    have hg0 : p.goal = 0 := by simpa using hg
    cases h : hadB x wl with
    | false => rfl
    | true =>
      unfold hadB at h
      obtain ⟨a, ha, e⟩ := List.any_eq_true.1 h
      obtain ⟨-, q, hq, k1, -⟩ := (hw.mem a).1 ha
      have e2 : a.1 = x := by simpa using e
      rw [e2, hp] at hq
      cases hq
      exact absurd hg0 k1
  | false =>
    have hg0 : p.goal ≠ 0 := by simpa using hg
    cases hh : p.hurt with
    | true =>
      cases h : hadB x wl with
      | false => rfl
      | true =>
        unfold hadB at h
        obtain ⟨a, ha, e⟩ := List.any_eq_true.1 h
        obtain ⟨-, q, hq, -, k2, -⟩ := (hw.mem a).1 ha
        have e2 : a.1 = x := by simpa using e
        rw [e2, hp] at hq
        cases hq
        rw [hh] at k2; cases k2
    | false =>
      have hmem : (x, p.goal) ∈ m.qs p.at_ := (hI.qm p.at_ x p.goal).2 ⟨p, hp, rfl, hg0, rfl⟩
      obtain ⟨i, hi⟩ := List.mem_iff_getElem?.1 hmem
      obtain ⟨y, hy⟩ := hI.bl p.at_ i x p.goal hi
      have hin : (x, y, p.at_) ∈ wl := (hw.mem _).2 ⟨by
        rw [(srt_perm _).mem_iff]
        exact List.mem_map.2 ⟨(x, p.stamp), (hb.mem x p.stamp).2 ⟨p, hp, rfl⟩, rfl⟩, p, hp, hg0, hh, ⟨i, hi, hy⟩, rfl⟩
      rw [hadB_mem hin rfl]
      rfl
set_option maxRecDepth 100000 in
set_option maxHeartbeats 1000000 in
theorem blocked_ld {W0 w : World} {b t lo : Nat} {s : Gs} {m : Ms} {live : List (Int × Int)} {res : List Rs} {va vr : Value} {L : List Int} {LR : List Rs} (h : Ld W0 w b t lo s m live res va vr L LR) (hbk : Bk m live) (hL : L.length < 2000000000000) (hLL : live.length * L.length < 2000000000000) :
    Calls Tryz.prog 23 #[ptr b] w fun e w' => e = .returned (.bool true) ∧ G w w' := by
  obtain ⟨aa, ac, rfl⟩ := h.sg.lf.form
  have KW := hide (waits_t h.gt hbk h.sg.lf.2 hL hLL)
  have hbc := h.sg.blk.cell
  have H := hide h; have HBK := hide hbk; have HL := hide hL
  clear h hbk hL hLL
  go_enter Tryz.func23, Tryz.ntmps23
  go_wp2_with (first | (go_at_call 40; refine Hid.out ?_) | fail)
  unfold Hid
  refine KW.out.mono ?_
  intro e w1 hq1
  obtain ⟨v1, wl, rfl, hwt, hrow, hg1, hwl⟩ := hq1
  obtain ⟨la, lc, rfl⟩ := row_form hrow
  have HWT := hide hwt; have HROW := hide hrow; have HG1 := hide hg1; have HWL := hide hwl
  clear hwt hrow hg1 hwl KW hbc
  go_wp2_with fail
  go_loopw [4] (fun iv wr => ∃ i : Nat, i ≤ live.length ∧ iv = I (i : Int) ∧ G w1 wr) (fun iv _ => live.length - (RowKit.intOf iv).toNat)
  case atStart => exact ⟨0, Nat.zero_le _, rfl, G.refl _⟩
  case round =>
    obtain ⟨i, hi, rfl, hgw⟩ := hrel
    have hLd := H.out.G (HG1.out.trans hgw)
    have hbc := hLd.sg.blk.cell
    have hll := hLd.sg.lf.2
    by_cases hlt : i < live.length
    · obtain ⟨⟨x, xs⟩, hx⟩ : ∃ a, live[i]? = some a := ⟨_, List.getElem?_eq_getElem hlt⟩
      obtain ⟨p, hp, -⟩ := (HBK.out.mem x xs).1 (List.mem_of_getElem? hx)
      obtain ⟨ga, hga, k1, -⟩ := hLd.sg.lf.at hx
      subst hga
      have KG : Hid (Calls Tryz.prog 16 #[ptr t, I x] wr fun e w' => e = .returned (.tuple #[.agg #[I p.at_.lv, .string p.at_.lb, I p.at_.id], I p.goal, I 0]) ∧ G wr w') := waiting_t hLd.gt hp
      have hnI : (i : Int) < (live.length : Int) := by omega
      have hwn : wrap64 ((i : Int) + 1) = (i : Int) + 1 := by unfold wrap64; omega
      have HWN := hide hwn; have HLT := hide hlt; have HGW := hide hgw; have HP := hide hp
      clear hi hlt hgw hLd hll hx hwn hp
      go_wp2_with (first | (go_at_call 16; refine Hid.out ?_) | fail)
      unfold Hid
      refine KG.out.mono ?_
      rintro e w2a ⟨rfl, hg2a⟩
      have HA : Hid (Blk (w2a.alloc (.cells #[I p.at_.lv, .string p.at_.lb, I p.at_.id] 24)) w2a.heap.size 24 [I p.at_.lv, .string p.at_.lb, I p.at_.id] ∧ G w1 (w2a.alloc (.cells #[I p.at_.lv, .string p.at_.lb, I p.at_.id] 24))) := ⟨Blk.new w2a [I p.at_.lv, .string p.at_.lb, I p.at_.id] 24, (HGW.out.trans hg2a).alloc _⟩
      have KD0 : Hid (Calls Tryz.prog 15 #[ptr t, I x] (w2a.alloc (.cells #[I p.at_.lv, .string p.at_.lb, I p.at_.id] 24)) fun e w' => e = .returned (.tuple #[.bool p.hurt, I 0]) ∧ w' = w2a.alloc (.cells #[I p.at_.lv, .string p.at_.lb, I p.at_.id] 24)) := wounded_t ((H.out.gt.G HG1.out).G HA.out.2) HP.out
      have hbc2 := (H.out.G (HG1.out.trans HA.out.2)).sg.blk.cell
      clear hg2a KG hbc k1
      go_wp2_with (first | (go_at_call 15; with_reducible refine KD0.out.mono ?_; rintro e w' ⟨rfl, hw'⟩; subst hw') | fail)
      generalize w2a.alloc (.cells #[I p.at_.lv, .string p.at_.lb, I p.at_.id] 24) = w2 at HA hbc2 ⊢
      generalize w2a.heap.size = rb at HA ⊢
      clear KD0 hbc2
      go_loopw [11, 12] (fun tv jv wi => ∃ j : Nat, j ≤ wl.length ∧ tv = .bool (hadB x (wl.take j)) ∧ jv = I (j : Int) ∧ G w2 wi) (fun _ jv _ => wl.length - (RowKit.intOf jv).toNat)
      case atStart => exact ⟨0, Nat.zero_le _, rfl, rfl, G.refl _⟩
      case round =>
        obtain ⟨j, hj, rfl, rfl, hgj⟩ := hrel
        have hwl := HWL.out
        by_cases hjl : j < wl.length
        · obtain ⟨⟨z, zt, zr⟩, hz⟩ : ∃ a, wl[j]? = some a := ⟨_, List.getElem?_eq_getElem hjl⟩
          obtain ⟨gg, hgg, kz⟩ := gc_cell (own_G HROW.out (HA.out.2.trans hgj)) hz
          subst hgg
          have k0 : wr.cell? ⟨gg, j * 5, none⟩ = some (I z) := kz 0 (by omega)
          have k2 : wr.cell? ⟨gg, j * 5 + 2, none⟩ = some (I zr.lv) := kz 2 (by omega)
          have k3 : wr.cell? ⟨gg, j * 5 + 2 + 1, none⟩ = some (.string zr.lb) := kz 3 (by omega)
          have k4 : wr.cell? ⟨gg, j * 5 + 2 + 2, none⟩ = some (I zr.id) := kz 4 (by omega)
          have hjI : (j : Int) < (wl.length : Int) := by omega
          have hwj : wrap64 ((j : Int) + 1) = (j : Int) + 1 := by unfold wrap64; omega
          have HWJ := hide hwj; have HJL := hide hjl; have HGJ := hide hgj; have HZ := hide hz
          by_cases e1 : z = x
          · have HSF := hide (hadB_yes hz (show (z, zt, zr).1 = x from e1))
            obtain ⟨-, q, hq, -, -, -, e4⟩ := (HWT.out.mem _).1 (List.mem_of_getElem? hz)
            dsimp only at hq e4
            rw [e1, HP.out] at hq
            have e5 : p = q := Option.some.inj hq
            have e6 : zr = p.at_ := by rw [e4, e5]
            rw [e6] at k2 k3 k4
            rw [e1] at k0
            have kr := (HA.out.1.G hgj).cell
            clear hj hjl hgj hz hwj hwl e1 e4 e5 e6 hq kz
            go_wp2
            go_quiet (fail)
            generalize hV : World.drewN wr _ = V
            have HGV : Hid (G w2 V) := by rw [← hV]; exact HGJ.out.drewN _
            clear hV k0 k2 k3 k4 kr
            go_wp2
            exact ⟨⟨j + 1, HJL.out, by rw [HSF.out], by rw [HWJ.out]; exact rl1 j, HGV.out⟩, by rw [HWJ.out]; exact ms_end HJL.out⟩
          · have HSF := hide (hadB_no hz (show (z, zt, zr).1 ≠ x from e1))
            have d1 : (z == x) = false := by simp [e1]
            have d2 : decide (z = x) = false := by simp [e1]
            clear hj hjl hgj hz hwj hwl kz k2 k3 k4
            go_wp2
            exact ⟨⟨j + 1, HJL.out, by rw [HSF.out], by rw [HWJ.out]; exact rl1 j, HGJ.out⟩, by rw [HWJ.out]; exact ms_end HJL.out⟩
        · have hne : j = wl.length := by omega
          subst hne
          have hjI : ¬ ((wl.length : Int) < (wl.length : Int)) := by omega
          rw [List.take_length]
          have HTO := hide (told_is H.out.gt.iv HBK.out HWT.out HP.out)
          have HGF : Hid (G w1 wr) := HA.out.2.trans hgj
          have kr := (HA.out.1.G hgj).cell
          have KST : Hid (p.goal ≠ 0 → Calls Tryz.prog 41 #[ptr b, I x, .agg #[I p.at_.lv, .string p.at_.lb, I p.at_.id], I p.goal] wr fun e w' => e = .returned (.bool true) ∧ G wr w') := fun hg => stands_ld (H.out.G (HG1.out.trans HGF.out)) HL.out HP.out rfl rfl hg
          clear hj hjl hgj hwl
          rw [HTO.out]
          cases hg : (p.goal == 0) with
          | true =>
            have hg0 : p.goal = 0 := by simpa using hg
            rw [hg0]
            clear KST hg hg0 HTO
            go_wp2
            exact ⟨⟨i + 1, HLT.out, by rw [HWN.out]; exact rl1 i, HGF.out⟩, by rw [HWN.out]; exact ms_end HLT.out⟩
          | false =>
            have hg0 : p.goal ≠ 0 := by simpa using hg
            have d1 : (p.goal != 0) = true := by simp [hg0]
            have KST2 := hide (KST.out hg0)
            cases hh : p.hurt with
            | true =>
              clear KST HTO hh
              go_wp2_with (first | (go_at_call 41; with_reducible refine KST2.out.mono ?_; rintro e w9 ⟨rfl, hg9⟩) | fail)
              exact ⟨⟨i + 1, HLT.out, by rw [HWN.out]; exact rl1 i, HGF.out.trans hg9⟩, by rw [HWN.out]; exact ms_end HLT.out⟩
            | false =>
              clear KST HTO hh
              go_wp2_with (first | (go_at_call 41; with_reducible refine KST2.out.mono ?_; rintro e w9 ⟨rfl, hg9⟩) | fail)
              exact ⟨⟨i + 1, HLT.out, by rw [HWN.out]; exact rl1 i, HGF.out.trans hg9⟩, by rw [HWN.out]; exact ms_end HLT.out⟩
    · have hne : i = live.length := by omega
      subst hne
      have hnI : ¬ ((live.length : Int) < (live.length : Int)) := by omega
      have HGW : Hid (G w wr) := HG1.out.trans hgw
      clear hi hlt hgw hLd hll
      go_wp2
      go_ret
      exact ⟨rfl, HGW.out⟩
end
open Go.RowKit

section
variable {m : Ms} {L : List Int} {LR : List Rs} {live : List (Int × Int)}
/-- A wait goes to an older one, or to one that is wounded. -/
theorem wt_down (hI : Iv m L LR) {x y : Int} {r : Rs} (h : Wt m (x, y, r)) : ∃ p q, m.lv x = some p ∧ p.hurt = false ∧ m.lv y = some q ∧ x ≠ y ∧ (q.stamp < p.stamp ∨ q.hurt = true) := by
  obtain ⟨p, hp, hg, hh, ⟨i, hi, hw⟩, -⟩ := h
  obtain ⟨hne, q, hq⟩ := hI.way (fun j g' hj hj2 => by have := nodup_at (hI.qn _) hi hj2; omega) hw
  refine ⟨p, q, hp, hh, hq, Ne.symm hne, ?_⟩
  by_cases hlt : p.stamp < q.stamp
  · exact .inr (Pm.hurt_iff.2 ⟨x, hI.jw _ i x p.goal p hi hp hh y q hw hq hlt⟩)
  · have : p.stamp ≠ q.stamp := fun e => hne (hI.st y x q p hq hp e.symm)
    exact .inl (by omega)
/-- Who can be come to. -/
structure Sn (m : Ms) (id : Int) (p : Pm) (seen : List Int) : Prop where
  at_ : ∀ z ∈ seen, ∃ q, m.lv z = some q ∧ (z = id ∨ q.stamp < p.stamp ∨ q.hurt = true)
  nd : seen.Nodup
  one : p.hurt = true → seen = [id]
theorem Sn.begin {id : Int} {p : Pm} (hp : m.lv id = some p) : Sn m id p [id] := ⟨fun z hz => ⟨p, by rw [List.mem_singleton.1 hz]; exact hp, .inl (List.mem_singleton.1 hz)⟩, by simp, fun _ => rfl⟩
theorem Sn.go {id : Int} {p : Pm} {seen : List Int} (h : Sn m id p seen) (hI : Iv m L LR) (hp : m.lv id = some p) {z y : Int} {r : Rs} (hz : z ∈ seen) (hw : Wt m (z, y, r)) : y ≠ id ∧ (y ∉ seen → Sn m id p (seen ++ [y])) := by
  obtain ⟨pz, q, hpz, hzh, hq, hne, hd⟩ := wt_down hI hw
  obtain ⟨pz', hpz', hc⟩ := h.at_ z hz
  rw [hpz] at hpz'
  cases hpz'
  have hph : p.hurt = false := by
    cases e : p.hurt with
    | false => rfl
    | true =>
      rw [h.one e, List.mem_singleton] at hz
      rw [hz, hp] at hpz
      cases hpz
      rw [e] at hzh; cases hzh
  have hcz : pz.stamp ≤ p.stamp := by
    rcases hc with e | e | e
    · rw [e, hp] at hpz; cases hpz; exact Int.le_refl _
    · omega
    · rw [e] at hzh; cases hzh
  have hy : q.stamp < p.stamp ∨ q.hurt = true := by
    rcases hd with e | e
    · exact .inl (by omega)
    · exact .inr e
  refine ⟨fun e => ?_, fun hn => ⟨fun u hu => ?_, ?_, fun e => by rw [hph] at e; cases e⟩⟩
  · rw [e, hp] at hq
    cases hq
    rcases hy with e | e
    · omega
    · rw [hph] at e; cases e
  · rcases List.mem_append.1 hu with hu | hu
    · exact h.at_ u hu
    · rw [List.mem_singleton.1 hu]
      exact ⟨q, hq, .inr hy⟩
  · rw [List.nodup_append]
    exact ⟨h.nd, by simp, fun a ha c hc e => hn (by rw [List.mem_singleton.1 hc] at e; rw [← e]; exact ha)⟩
theorem Sn.len {id : Int} {p : Pm} {seen : List Int} (h : Sn m id p seen) (hb : Bk m live) : seen.length ≤ live.length := live_le hb h.nd (fun y hy => by obtain ⟨q, hq, -⟩ := h.at_ y hy; exact ⟨q, hq⟩)
def anyB (y : Int) (l : List Int) : Bool := l.any fun a => a == y
theorem anyB_snoc {y : Int} {l : List Int} {n : Nat} {a : Int} (h : l[n]? = some a) : anyB y (l.take (n + 1)) = (anyB y (l.take n) || (a == y)) := by
  unfold anyB
  rw [List.take_add_one, h, List.any_append]
  simp
theorem anyB_mem {y : Int} {l : List Int} : anyB y l = true ↔ y ∈ l := by
  unfold anyB
  rw [List.any_eq_true]
  constructor
  · rintro ⟨a, ha, e⟩
    have : a = y := by simpa using e
    rw [← this]; exact ha
  · exact fun h => ⟨y, h, by simp⟩
end
set_option maxRecDepth 100000 in
set_option maxHeartbeats 1000000 in
theorem downwards_ld {W0 w : World} {b t lo : Nat} {s : Gs} {m : Ms} {live : List (Int × Int)} {res : List Rs} {va vr : Value} {L : List Int} {LR : List Rs} (h : Ld W0 w b t lo s m live res va vr L LR) (hbk : Bk m live) (hL : L.length < 2000000000000) (hLL : live.length * L.length < 2000000000000) :
    Calls Tryz.prog 22 #[ptr b] w fun e w' => e = .returned (.bool true) ∧ G w w' := by
  obtain ⟨aa, ac, rfl⟩ := h.sg.lf.form
  have KW := hide (waits_t h.gt hbk h.sg.lf.2 hL hLL)
  have hbc := h.sg.blk.cell
  have H := hide h; have HBK := hide hbk
  clear h hbk hL hLL
  go_enter Tryz.func22, Tryz.ntmps22
  go_wp2_with (first | (go_at_call 40; refine Hid.out ?_) | fail)
  unfold Hid
  refine KW.out.mono ?_
  intro e w1 hq1
  obtain ⟨v1, wl, rfl, hwt, hrow, hg1, hwl⟩ := hq1
  obtain ⟨la, lc, rfl⟩ := row_form hrow
  have HWT := hide hwt; have HROW := hide hrow; have HG1 := hide hg1; have HWL := hide hwl
  clear hwt hrow hg1 hwl KW hbc
  go_wp2_with fail
  go_loopw [4] (fun iv wr => ∃ i : Nat, i ≤ wl.length ∧ iv = I (i : Int) ∧ G w1 wr) (fun iv _ => wl.length - (RowKit.intOf iv).toNat)
  case atStart => exact ⟨0, Nat.zero_le _, rfl, G.refl _⟩
  case round =>
    obtain ⟨i, hi, rfl, hgw⟩ := hrel
    have hwl := HWL.out
    by_cases hlt : i < wl.length
    · obtain ⟨⟨x, y, r⟩, hx⟩ : ∃ a, wl[i]? = some a := ⟨_, List.getElem?_eq_getElem hlt⟩
      obtain ⟨p, q, hp, hph, hq, -, hd⟩ := wt_down H.out.gt.iv ((HWT.out.mem _).1 (List.mem_of_getElem? hx)).2
      obtain ⟨gg, hgg, -⟩ := gc_cell (own_G HROW.out hgw) hx
      subst hgg
      have HZ : Hid (∀ U, G w1 U → U.cell? ⟨gg, i * 5, none⟩ = some (I x) ∧ U.cell? ⟨gg, i * 5 + 1, none⟩ = some (I y)) := fun U gU => by
        obtain ⟨gb, hgb, k⟩ := gc_cell (own_G HROW.out gU) hx
        have e : gg = gb := by simpa using hgb
        rw [e]
        exact ⟨k 0 (by omega), k 1 (by omega)⟩
      obtain ⟨k0, k1⟩ := HZ.out _ hgw
      have hLd := H.out.G (HG1.out.trans hgw)
      have hb1 := hLd.sg.blk.cell
      have KS1 : Hid (Calls Tryz.prog 27 #[ptr b, I x] wr fun e w' => e = .returned (I p.stamp) ∧ w' = wr) := by rw [← stampL_bk HBK.out hp]; exact stamp_any b _ _ vr lo live x wr hLd.sg.blk hLd.sg.lf
      have KS2 : Hid (Calls Tryz.prog 27 #[ptr b, I y] wr fun e w' => e = .returned (I q.stamp) ∧ w' = wr) := by rw [← stampL_bk HBK.out hq]; exact stamp_any b _ _ vr lo live y wr hLd.sg.blk hLd.sg.lf
      have KY : Hid (∀ n, Calls Tryz.prog 15 #[ptr t, I y] (wr.drewN n) fun e w' => e = .returned (.tuple #[.bool q.hurt, I 0]) ∧ w' = wr.drewN n) := fun n => wounded_t (hLd.gt.G ((G.refl wr).drewN n)) hq
      have HPX : Hid (∀ V, G w1 V → ∀ n, Calls Tryz.prog 15 #[ptr t, I x] (V.drewN n) fun e w' => e = .returned (.tuple #[.bool false, I 0]) ∧ w' = V.drewN n) := fun V gV n => by
        have := wounded_t (H.out.gt.G (HG1.out.trans (gV.drewN n))) hp
        rw [hph] at this
        exact this
      have hps := (H.out.gt.iv.lv x p hp).s1
      have hqs := (H.out.gt.iv.lv y q hq).s1
      have d1 : (p.stamp == 0) = false := by simp; omega
      have d2 : (q.stamp == 0) = false := by simp; omega
      have d1b : ¬ p.stamp = 0 := by omega
      have d2b : ¬ q.stamp = 0 := by omega
      have hnI : (i : Int) < (wl.length : Int) := by omega
      have hwn : wrap64 ((i : Int) + 1) = (i : Int) + 1 := by unfold wrap64; omega
      have HWN := hide hwn; have HLT := hide hlt; have HGW := hide hgw; have HD := hide hd
      clear hi hlt hgw hx hwn hwl hp hph hq hLd hps hqs hd
      go_wp2_with (first | (go_at_call 27; with_reducible refine KS1.out.mono ?_; rintro e w' ⟨rfl, hw'⟩; have hw2 := hw'.symm; subst hw2; clear hw') | (go_at_call 27; with_reducible refine KS2.out.mono ?_; rintro e w' ⟨rfl, hw'⟩; have hw2 := hw'.symm; subst hw2; clear hw') | fail)
      go_quiet (first | (go_at_call 15; with_reducible refine Calls.quiet_of_same (KY.out _)))
      generalize hV : World.drewN wr _ = V
      have HGV : Hid (G w1 V) := by rw [← hV]; exact HGW.out.drewN _
      clear hV k0 k1 hb1 KS1 KS2 KY HGW
      obtain ⟨k0, k1⟩ := HZ.out _ HGV.out
      have hb1 := (H.out.G (HG1.out.trans HGV.out)).sg.blk.cell
      have KX := hide (HPX.out V HGV.out)
      go_wp2
      go_quiet (first | (go_at_call 15; with_reducible refine Calls.quiet_of_same (KX.out _)))
      generalize hU : World.drewN V _ = U
      have HGU : Hid (G w1 U) := by rw [← hU]; exact HGV.out.drewN _
      clear hU k0 k1 hb1 KX HPX HZ HGV
      rcases HD.out with e | e
      · have d3 : decide (p.stamp ≤ q.stamp) = false := by simp; omega
        have d4 : ¬ p.stamp ≤ q.stamp := by omega
        clear e HD
        go_wp2
        exact ⟨⟨i + 1, HLT.out, by rw [HWN.out]; exact rl1 i, HGU.out⟩, by rw [HWN.out]; exact ms_end HLT.out⟩
      · rw [e]
        clear e HD
        by_cases e2 : p.stamp ≤ q.stamp
        · have d3 : decide (p.stamp ≤ q.stamp) = true := by simp [e2]
          go_wp2
          exact ⟨⟨i + 1, HLT.out, by rw [HWN.out]; exact rl1 i, HGU.out⟩, by rw [HWN.out]; exact ms_end HLT.out⟩
        · have d3 : decide (p.stamp ≤ q.stamp) = false := by simp; omega
          go_wp2
          exact ⟨⟨i + 1, HLT.out, by rw [HWN.out]; exact rl1 i, HGU.out⟩, by rw [HWN.out]; exact ms_end HLT.out⟩
    · have hne : i = wl.length := by omega
      subst hne
      have hnI : ¬ ((wl.length : Int) < (wl.length : Int)) := by omega
      have HGW := hide hgw
      clear hi hlt hgw hwl
      go_wp2_with fail
      go_loopw [11] (fun iv wr => ∃ i : Nat, i ≤ live.length ∧ iv = I (i : Int) ∧ G w1 wr) (fun iv _ => live.length - (RowKit.intOf iv).toNat)
      case atStart => exact ⟨0, Nat.zero_le _, rfl, HGW.out⟩
      case round =>
        clear HGW
        obtain ⟨i, hi, rfl, hgw⟩ := hrel
        have hLd := H.out.G (HG1.out.trans hgw)
        have hbc := hLd.sg.blk.cell
        have hll := hLd.sg.lf.2
        by_cases hlt : i < live.length
        · obtain ⟨⟨id, ids⟩, hx⟩ : ∃ a, live[i]? = some a := ⟨_, List.getElem?_eq_getElem hlt⟩
          obtain ⟨p, hp, -⟩ := (HBK.out.mem id ids).1 (List.mem_of_getElem? hx)
          obtain ⟨ga, hga, kid, -⟩ := hLd.sg.lf.at hx
          subst hga
          have HLI : Hid (∀ U, G w1 U → (∀ o, U.cell? ⟨b, o, none⟩ = ([ptr t, .slice (some ⟨ga, 0, none⟩) live.length ac, vr] : List Value)[o]?) ∧ U.cell? ⟨ga, i * 2, none⟩ = some (I id)) := fun U gU => by
            have hU := H.out.G (HG1.out.trans gU)
            refine ⟨hU.sg.blk.cell, ?_⟩
            obtain ⟨gb, hgb, k, -⟩ := hU.sg.lf.at hx
            have e : ga = gb := by simpa using hgb
            rw [e]; exact k
          have hnI : (i : Int) < (live.length : Int) := by omega
          have hwn : wrap64 ((i : Int) + 1) = (i : Int) + 1 := by unfold wrap64; omega
          have HWN := hide hwn; have HLT := hide hlt; have HGW := hide hgw; have HP := hide hp; have HLV := hide hll
          have HBX := hide (Blk.new wr [I id] 3)
          have HGX : Hid (G w1 (wr.alloc (.cells #[I id] 3))) := HGW.out.alloc _
          clear hi hlt hgw hx hwn hp hLd hll
          go_wp2_with fail
          clear hbc kid
          have HR0 : Hid ((wr.alloc (.cells #[I id] 3)).ownsRow w1.heap.size 3 1 (.slice (some ⟨wr.heap.size, 0, none⟩) 1 1) 1 [I id]) := ⟨rfl, .inr ⟨wr.heap.size, 1, _, rfl, HGW.out.size, HBX.out.h, Nat.le_refl _, of_decide_eq_true (by kernel_rfl), rfl, rfl⟩⟩
          generalize wr.alloc (.cells #[I id] 3) = w3 at HR0 HGX ⊢
          generalize wr.heap.size = sb at HR0 ⊢
          clear HBX HGW
          go_loopw [12, 13] (fun sv kv wi => ∃ (seen : List Int) (k : Nat), k ≤ seen.length ∧ kv = I (k : Int) ∧ wi.ownsRow w1.heap.size 3 1 sv seen.length (seen.map fun z => I z) ∧ Sn m id p seen ∧ G w1 wi) (fun _ kv _ => live.length - (RowKit.intOf kv).toNat)
          case atStart => exact ⟨[id], 0, Nat.zero_le _, rfl, HR0.out, Sn.begin HP.out, HGX.out⟩
          case round =>
            clear HR0 HGX
            obtain ⟨seen, k, hk, rfl, hrs, hsn, hgk⟩ := hrel
            obtain ⟨sa, sc, rfl⟩ := row_form hrs
            have hsl := hsn.len HBK.out
            have hlv := HLV.out
            by_cases hkl : k < seen.length
            · obtain ⟨z, hz⟩ : ∃ a, seen[k]? = some a := ⟨_, List.getElem?_eq_getElem hkl⟩
              have hkI : (k : Int) < (seen.length : Int) := by omega
              have hwk : wrap64 ((k : Int) + 1) = (k : Int) + 1 := by unfold wrap64; omega
              have HKV : Hid (k < live.length) := by show _ < _; omega
              have HWK := hide hwk; have HZ := hide hz; have HSN := hide hsn; have HRS := hide hrs; have HGK := hide hgk
              clear hk hkl hz hwk hsn hrs hgk hsl hlv
              go_wp2_with fail
              go_loopw [12, 14] (fun sv jv wi => ∃ (seen : List Int) (j : Nat), j ≤ wl.length ∧ jv = I (j : Int) ∧ wi.ownsRow w1.heap.size 3 1 sv seen.length (seen.map fun z => I z) ∧ Sn m id p seen ∧ seen[k]? = some z ∧ G w1 wi) (fun _ jv _ => wl.length - (RowKit.intOf jv).toNat)
              case atStart => exact ⟨seen, 0, Nat.zero_le _, rfl, HRS.out, HSN.out, HZ.out, HGK.out⟩
              case round =>
                clear HRS HSN HZ HGK
                obtain ⟨seen, j, hj, rfl, hrs, hsn, hz, hgj⟩ := hrel
                obtain ⟨sa, sc, rfl⟩ := row_form hrs
                have hsl := hsn.len HBK.out
                have hlv := HLV.out
                have hwl := HWL.out
                by_cases hjl : j < wl.length
                · obtain ⟨⟨x, y, r⟩, hx⟩ : ∃ a, wl[j]? = some a := ⟨_, List.getElem?_eq_getElem hjl⟩
                  obtain ⟨gg, hgg, -⟩ := gc_cell (own_G HROW.out hgj) hx
                  subst hgg
                  have HXY : Hid (∀ U, G w1 U → U.cell? ⟨gg, j * 5, none⟩ = some (I x) ∧ U.cell? ⟨gg, j * 5 + 1, none⟩ = some (I y)) := fun U gU => by
                    obtain ⟨gb, hgb, k⟩ := gc_cell (own_G HROW.out gU) hx
                    have e : gg = gb := by simpa using hgb
                    rw [e]
                    exact ⟨k 0 (by omega), k 1 (by omega)⟩
                  obtain ⟨gs, hgs, kz⟩ := int_at hrs hz
                  subst hgs
                  have hks : (k : Int) < (seen.length : Int) := by have := (List.getElem?_eq_some_iff.1 hz).1; omega
                  have hjI : (j : Int) < (wl.length : Int) := by omega
                  have hwj : wrap64 ((j : Int) + 1) = (j : Int) + 1 := by unfold wrap64; omega
                  obtain ⟨k0, k1⟩ := HXY.out _ hgj
                  have HWJ := hide hwj; have HJL := hide hjl; have HGJ := hide hgj; have HZ := hide hz; have HSN := hide hsn; have HRS := hide hrs
                  by_cases e1 : x = z
                  · subst e1
                    obtain ⟨hyi, hnx⟩ := hsn.go H.out.gt.iv HP.out (List.mem_of_getElem? hz) ((HWT.out.mem _).1 (List.mem_of_getElem? hx)).2
                    have HNX := hide hnx
                    have d1 : (y == id) = false := by simp [hyi]
                    have d2 : decide (y = id) = false := by simp [hyi]
                    have HSL : Hid (seen.length < 2000000000000) := by show _ < _; omega
                    clear hj hjl hgj hz hwj hwl hx hsn hrs hsl hlv hnx hyi
                    go_wp2
                    go_quiet (fail)
                    generalize hV : World.drewN wr _ = V
                    have HGV : Hid (G wr V) := by rw [← hV]; exact (G.refl wr).drewN _
                    clear hV k0 k1 kz
                    obtain ⟨q1, q2⟩ := HLI.out _ (HGJ.out.trans HGV.out)
                    obtain ⟨k0, k1⟩ := HXY.out _ (HGJ.out.trans HGV.out)
                    go_wp2
                    go_quiet (fail)
                    generalize hU : World.drewN V _ = U
                    have HGU : Hid (G wr U) := by rw [← hU]; exact HGV.out.drewN _
                    clear hU k0 k1 q1 q2 HGV
                    go_wp2_with fail
                    go_loopw [15, 16] (fun ov nv wi => ∃ n : Nat, n ≤ seen.length ∧ ov = .bool (anyB y (seen.take n)) ∧ nv = I (n : Int) ∧ G wr wi) (fun _ nv _ => seen.length - (RowKit.intOf nv).toNat)
                    case atStart => exact ⟨0, Nat.zero_le _, rfl, rfl, HGU.out⟩
                    case round =>
                      clear HGU
                      obtain ⟨n, hn, rfl, rfl, hgn⟩ := hrel
                      have hsl := HSL.out
                      by_cases hnl : n < seen.length
                      · obtain ⟨u, hu⟩ : ∃ a, seen[n]? = some a := ⟨_, List.getElem?_eq_getElem hnl⟩
                        obtain ⟨gb, hgb, ku⟩ := int_at (own_G HRS.out hgn) hu
                        have e : gs = gb := by simpa using hgb
                        subst e
                        obtain ⟨k0, k1⟩ := HXY.out _ (HGJ.out.trans hgn)
                        have hnI : (n : Int) < (seen.length : Int) := by omega
                        have hwn2 : wrap64 ((n : Int) + 1) = (n : Int) + 1 := by unfold wrap64; omega
                        have HWM := hide hwn2; have HNL := hide hnl; have HGN := hide hgn; have HAS := hide (anyB_snoc (y := y) hu)
                        clear hn hnl hgn hu hwn2 hsl hgb
                        cases hf : anyB y (seen.take n) with
                        | true =>
                          have HSF : Hid (anyB y (seen.take (n + 1)) = true) := by rw [Hid, HAS.out, hf]; rfl
                          clear HAS hf
                          go_wp2
                          go_quiet (fail)
                          generalize hV : World.drewN wr _ = V
                          have HGV : Hid (G wr V) := by rw [← hV]; exact (G.refl wr).drewN _
                          clear hV k0 k1 ku
                          go_wp2
                          exact ⟨⟨n + 1, HNL.out, by rw [HSF.out], by rw [HWM.out]; exact rl1 n, HGN.out.trans HGV.out⟩, by rw [HWM.out]; exact ms_end HNL.out⟩
                        | false =>
                          by_cases e2 : u = y
                          · have HSF : Hid (anyB y (seen.take (n + 1)) = true) := by rw [Hid, HAS.out, hf]; simp [e2]
                            rw [e2] at ku
                            clear HAS hf e2
                            go_wp2
                            go_quiet (fail)
                            generalize hV : World.drewN wr _ = V
                            have HGV : Hid (G wr V) := by rw [← hV]; exact (G.refl wr).drewN _
                            clear hV k0 k1 ku
                            go_wp2
                            exact ⟨⟨n + 1, HNL.out, by rw [HSF.out], by rw [HWM.out]; exact rl1 n, HGN.out.trans HGV.out⟩, by rw [HWM.out]; exact ms_end HNL.out⟩
                          · have HSF : Hid (anyB y (seen.take (n + 1)) = false) := by rw [Hid, HAS.out, hf]; simp [e2]
                            have d5 : (u == y) = false := by simp [e2]
                            have d6 : decide (u = y) = false := by simp [e2]
                            clear HAS hf
                            go_wp2
                            go_quiet (fail)
                            generalize hV : World.drewN wr _ = V
                            have HGV : Hid (G wr V) := by rw [← hV]; exact (G.refl wr).drewN _
                            clear hV k0 k1 ku
                            go_wp2
                            exact ⟨⟨n + 1, HNL.out, by rw [HSF.out], by rw [HWM.out]; exact rl1 n, HGN.out.trans HGV.out⟩, by rw [HWM.out]; exact ms_end HNL.out⟩
                      · have hne : n = seen.length := by omega
                        subst hne
                        have hnI : ¬ ((seen.length : Int) < (seen.length : Int)) := by omega
                        rw [List.take_length]
                        have HGN := hide hgn
                        obtain ⟨k0, k1⟩ := HXY.out _ (HGJ.out.trans hgn)
                        clear hn hnl hgn
                        cases hf : anyB y seen with
                        | true =>
                          clear hf hsl k0 k1
                          go_wp2
                          exact ⟨⟨seen, j + 1, HJL.out, by rw [HWJ.out]; exact rl1 j, own_G HRS.out HGN.out, HSN.out, HZ.out, HGJ.out.trans HGN.out⟩, by rw [HWJ.out]; exact ms_end HJL.out⟩
                        | false =>
                          have hny : y ∉ seen := fun e => by rw [anyB_mem.2 e] at hf; cases hf
                          have HS2 := hide (HNX.out hny)
                          obtain ⟨v9, w9, r1, r2, r3⟩ := app_one wr w1.heap.size _ seen y (own_G HRS.out HGN.out) (by omega) (HGJ.out.trans HGN.out).size
                          have HR1 := hide r1
                          have HR9 := hide r2
                          have HG9 : Hid (G w1 w9) := grown_G ((HGJ.out.trans HGN.out).alloc _) r3 (fun k hk => (World.ownsRow.lt HRS.out k hk).1)
                          have HZ9 : Hid ((seen ++ [y])[k]? = some x) := by
                            rw [Hid, List.getElem?_append_left (List.getElem?_eq_some_iff.1 HZ.out).1]
                            exact HZ.out
                          clear r1 r2 r3 hf hny hsl
                          go_wp2_with (first | (at_builtin; refine wpList_append_run rfl _ _ 46 rfl _ _ rfl rfl HR1.out ?_) | fail)
                          exact ⟨⟨seen ++ [y], j + 1, HJL.out, by rw [HWJ.out]; exact rl1 j, HR9.out, HS2.out, HZ9.out, HG9.out⟩, by rw [HWJ.out]; exact ms_end HJL.out⟩
                  · have d1 : (x != z) = true := by simp [e1]
                    have d2 : (x == z) = false := by simp [e1]
                    have d3 : decide (x = z) = false := by simp [e1]
                    clear hj hjl hgj hz hwj hwl hx hsn hrs hsl hlv
                    go_wp2
                    go_quiet (fail)
                    generalize hV : World.drewN wr _ = V
                    have HGV : Hid (G wr V) := by rw [← hV]; exact (G.refl wr).drewN _
                    clear hV k0 k1 kz
                    go_wp2
                    exact ⟨⟨seen, j + 1, HJL.out, by rw [HWJ.out]; exact rl1 j, own_G HRS.out HGV.out, HSN.out, HZ.out, HGJ.out.trans HGV.out⟩, by rw [HWJ.out]; exact ms_end HJL.out⟩
                · have hne : j = wl.length := by omega
                  subst hne
                  have hjI : ¬ ((wl.length : Int) < (wl.length : Int)) := by omega
                  have HRS := hide hrs; have HSN := hide hsn; have HGJ := hide hgj
                  have HKS : Hid (k + 1 ≤ seen.length) := (List.getElem?_eq_some_iff.1 hz).1
                  clear hj hjl hrs hsn hz hgj hsl hlv hwl
                  go_wp2
                  exact ⟨⟨seen, k + 1, HKS.out, by rw [HWK.out]; exact rl1 k, HRS.out, HSN.out, HGJ.out⟩, by rw [HWK.out]; exact ms_end HKV.out⟩
            · have hne : k = seen.length := by omega
              subst hne
              have hkI : ¬ ((seen.length : Int) < (seen.length : Int)) := by omega
              have HGK := hide hgk
              clear hk hkl hrs hsn hgk hsl hlv
              go_wp2
              exact ⟨⟨i + 1, HLT.out, by rw [HWN.out]; exact rl1 i, HGK.out⟩, by rw [HWN.out]; exact ms_end HLT.out⟩
        · have hne : i = live.length := by omega
          subst hne
          have hnI : ¬ ((live.length : Int) < (live.length : Int)) := by omega
          have HGF : Hid (G w wr) := HG1.out.trans hgw
          clear hi hlt hgw hLd hll
          go_wp2
          go_ret
          exact ⟨rfl, HGF.out⟩
end Go.Proofs.YtkbgifhhnnfgoaaGreatDoor
